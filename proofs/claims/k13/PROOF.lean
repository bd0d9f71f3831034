import PyProof.Rows.All
import Wide.All
import OpenK.AllK
import Wide.FinOn
import PySem.Challenge.RW_tosstrees_k13_whole_walks_and_leaves_of
import HandS.ForMost
import HandS.ForExc
import HandS.IsInst
import HandS.AnyAll
import HandS.Wide
import HandS.TupAny
import HandS.Flow
import HandS.Deep
import HandS.Gcd
import HandS.More
import HandS.Words
import HandS.Defaults
import HandS.Style
import HandS.Dict
import HandS.WideBits
import HandS.Conv
import HandS.TupMul
import HandS.GenList
import PyProof.TupleOfGen
import HandS.EndTab
import KE.KNest
import PyProof.SumWalkG
import PyProof.ReprRoads
import KE.KTupSum
import KE.KRevSl
import HandS.Zip
import HandS.Star
import KE.GoesEnum
import KE.KMathGC
import HandS.RevRange
import HandS.WordsExc
import HandS.ExcInit
import HandS.ExcField
import HandS.TryMany
import HandS.ExcIs
import HandS.SetFor
import HandS.Small
import PyProof.ReprLen
import KE.GoesZip
import KE.GoesMore
import HandS.Strs
import KE.KDictDisplayH
import KE.KDictWalk
set_option Elab.async false
set_option linter.all false
section
set_option maxRecDepth 100000
set_option maxHeartbeats 2000000
namespace VL
open PySem PySem.Spec PyProof.Rows L2
abbrev D := PyData
abbrev Fg := PySem.W.Frag
/-- a slot of a frame, by values: nothing known, data that stays, a list of the frame's own (io: the caller's), a dict of the frame's own; lls: an own list of own lists, which stand at qs -/
inductive Cell where
  | un | dat (d : D) | lst (io : Bool) (ds : List D) | dic (kvs : List (Key × D)) | dit (kvs : List (List Key × D)) | lls (qs : List Addr) (dss : List (List D))
abbrev En := List Cell
/-- the arguments, and where the tables of code stand -/
abbrev As := List (Option V) × List Addr × (Str → V → L2.St → Hp → Prop)
/-- no error leaves -/
abbrev nW : Str → V → L2.St → Hp → Prop := fun _ _ _ _ => False
def own : Cell → Bool
  | .lst _ _ => true
  | .dic _ => true
  | .dit _ => true
  | .lls _ _ => true
  | _ => false
def isTbl : HO → Bool
  | .tbl _ => true
  | _ => false
/-- the code object of a generator expression, its own table of codes -/
def CodeAt (o : Obj) (P : Addr) : Prop := ∃ vs file tf flags tg inF text tt, o.cls = .type "code" ∧ o.data = .fields vs ∧ vs[11]? = some (.ref P) ∧ vs.getD 11 .none = .ref P ∧ vs.getD 18 .none = .str file tf ∧ vs.getD 7 .none = .int flags tg ∧ vs.getD 9 .none = .bool inF ∧ vs.getD 10 .none = .int text tt
theorem CodeAt.uniq {o : Obj} {P Q : Addr} (h : CodeAt o P) (k : CodeAt o Q) : P = Q := by
  obtain ⟨vs, _, _, _, _, _, _, _, _, d1, a1, _⟩ := h
  obtain ⟨ws, _, _, _, _, _, _, _, _, d2, a2, _⟩ := k
  rw [d1] at d2
  cases d2
  rw [a1] at a2
  cases a2
  rfl
/-- the object o, frozen -/
def frzC (c : Addr) (o : Obj) : HO := .frz o (.ext fun h => h.get? c = some o)
/-- the codes that a table holds are frozen, their own tables are in T -/
def Codes (B : Hp) (T : Addr → Prop) (ps : Array Value) : Prop := ∀ pos v, codeAmong pos ps.toList = some v → ∃ c P o, v = .ref c ∧ c ≠ P ∧ B c = some (frzC c o) ∧ CodeAt o P ∧ T P
/-- a table of codes, its codes' tables, theirs, and so on -/
def TabG (B : Hp) (P : Addr) : Prop := ∃ T : Addr → Prop, T P ∧ ∀ Q, T Q → ∃ ps, B Q = some (.tbl ps) ∧ TriplesOk ps.toList ∧ Codes B T ps
theorem TabG.out {B : Hp} {P : Addr} (h : TabG B P) : ∃ ps, B P = some (.tbl ps) ∧ TriplesOk ps.toList ∧ Codes B (TabG B) ps := by
  obtain ⟨T, t, k⟩ := h
  obtain ⟨ps, h1, h2, h3⟩ := k P t
  refine ⟨ps, h1, h2, fun pos v e => ?_⟩
  obtain ⟨c, Q, o, a1, a2, a3, a4, a5⟩ := h3 pos v e
  exact ⟨c, Q, o, a1, a2, a3, a4, T, a5, k⟩
theorem codes0 {B : Hp} {T : Addr → Prop} : Codes B T #[] := fun _ _ e => by cases e
theorem TabG.of0 {B : Hp} {P : Addr} (h : B P = some (.tbl #[])) : TabG B P := ⟨fun Q => B Q = some (.tbl #[]), h, fun Q q => ⟨#[], q, True.intro, codes0⟩⟩
theorem TabG.sub {B B' : Hp} (h : ∀ a o, B a = some o → B' a = some o) {P : Addr} : TabG B P → TabG B' P
  | ⟨T, t, k⟩ => ⟨T, t, fun Q q => by
    obtain ⟨ps, h1, h2, h3⟩ := k Q q
    refine ⟨ps, h _ _ h1, h2, fun pos v e => ?_⟩
    obtain ⟨c, Q, o, a1, a2, a3, a4, a5⟩ := h3 pos v e
    exact ⟨c, Q, o, a1, a2, h _ _ a3, a4, a5⟩⟩
/-- the table P has grown by one code at the most, all else stands -/
structure Grown (P : Addr) (H H2 : Hp) : Prop where
  off : ∀ b o, b ≠ P → H b = some o → H2 b = some o
  at_ : ∃ ps ps2, H P = some (.tbl ps) ∧ H2 P = some (.tbl ps2) ∧ TriplesOk ps2.toList ∧ ∀ pos v, codeAmong pos ps2.toList = some v → codeAmong pos ps.toList = some v ∨ ∃ c Q o, v = .ref c ∧ c ≠ Q ∧ H2 c = some (frzC c o) ∧ CodeAt o Q ∧ H2 Q = some (.tbl #[]) ∧ H c = none ∧ H Q = none
theorem Grown.tab {P : Addr} {H H2 : Hp} (g : Grown P H H2) {Q : Addr} (h : TabG H Q) : TabG H2 Q := by
  refine ⟨fun Q => TabG H Q ∨ H2 Q = some (.tbl #[]), .inl h, fun Q q => ?_⟩
  rcases q with q | q
  · obtain ⟨qs, h1, h2, h3⟩ := q.out
    have old : ∀ pos v, codeAmong pos qs.toList = some v → ∃ c Q' o, v = .ref c ∧ c ≠ Q' ∧ H2 c = some (frzC c o) ∧ CodeAt o Q' ∧ (TabG H Q' ∨ H2 Q' = some (.tbl #[])) := fun pos v e => by
      obtain ⟨c, Q', o, a1, a2, a3, a4, a5⟩ := h3 pos v e
      refine ⟨c, Q', o, a1, a2, g.off _ _ (fun z => ?_) a3, a4, .inl a5⟩
      obtain ⟨ps, _, p1, _⟩ := g.at_
      rw [← z, a3] at p1
      cases p1
    by_cases z : Q = P
    · subst z
      obtain ⟨ps, ps2, p1, p2, p3, p4⟩ := g.at_
      rw [p1] at h1
      cases h1
      refine ⟨ps2, p2, p3, fun pos v e => ?_⟩
      rcases p4 pos v e with e | ⟨c, Q', o, a1, a2, a3, a4, a5, _⟩
      · exact old pos v e
      · exact ⟨c, Q', o, a1, a2, a3, a4, .inr a5⟩
    · exact ⟨qs, g.off _ _ z h1, h2, old⟩
  · exact ⟨#[], q, True.intro, codes0⟩
/-- a key as data -/
def keyD : Key → D
  | .inl i => .int i
  | .inr x => .str x
/-- a tuple as a key -/
def keyT (k : List Key) : D := .tuple (k.map keyD)
mutual
/-- v is the data d, by what stands in H -/
inductive Dq (K : Fg) (H : Hp) : V → D → Prop
  | non : Dq K H .non .none
  | bl (b : Bool) : Dq K H (.bl b) (.bool b)
  | int (i : Int) : Dq K H (.int i) (.int i)
  | str (x : Str) : Dq K H (.str x) (.str x)
  | lst {a : Addr} {xs : List V} {ds : List D} : SqL K H a xs → DqAll K H xs ds → Dq K H (.ref a) (.list ds)
  /-- every tuple that is data is a tracked one: it may be a key -/
  | tup {a : Addr} {xs : List V} {ds : List D} : H a = some (.tup xs) → DqAll K H xs ds → Dq K H (.ref a) (.tuple ds)
  | dct {a : Addr} {vs : List (Key × V)} {ds : List (D × D)} : Rd H a (.dK vs) → DqPs K H vs ds → Dq K H (.ref a) (.dict ds)
  /-- a set of ints (no dict's data looks so) -/
  | st {a : Addr} {S : Int → Bool} {n : Nat} {ns : List Int} : H a = some (.set S n) → (∀ k, S k = decide (k ∈ ns)) → Dq K H (.ref a) (.dict [(.list (ns.map .int), .list [])])
  /-- a dict for good whose keys are tuples of ints and texts: behind a mark -/
  | dtt {a : Addr} {o : Obj} {vs : List (List Key × V)} {ds : List (D × D)} : H a = some (.frz o (.dT vs)) → DqPT K H vs ds → Dq K H (.ref a) (.dict ((.dict [], .dict []) :: ds))
inductive DqPT (K : Fg) (H : Hp) : List (List Key × V) → List (D × D) → Prop
  | nil : DqPT K H [] []
  | cons {k : List Key} {v : V} {d : D} {r : List (List Key × V)} {s : List (D × D)} : Dq K H v d → DqPT K H r s → DqPT K H ((k, v) :: r) ((keyT k, d) :: s)
inductive DqPs (K : Fg) (H : Hp) : List (Key × V) → List (D × D) → Prop
  | nil : DqPs K H [] []
  | cons {k : Key} {v : V} {d : D} {r : List (Key × V)} {s : List (D × D)} : Dq K H v d → DqPs K H r s → DqPs K H ((k, v) :: r) ((keyD k, d) :: s)
inductive DqAll (K : Fg) (H : Hp) : List V → List D → Prop
  | nil : DqAll K H [] []
  | cons {v : V} {vs : List V} {d : D} {ds : List D} : Dq K H v d → DqAll K H vs ds → DqAll K H (v :: vs) (d :: ds)
end
mutual
theorem Dq.dp {K : Fg} {H : Hp} : ∀ {v : V} {d : D}, Dq K H v d → d.canLay0 = true → L2.Dp K H v d
  | _, _, .non, _ => .non
  | _, _, .bl b, _ => .bl b
  | _, _, .int i, _ => .int i
  | _, _, .str x, _ => .str x
  | _, _, .lst h r, c => .lst h (DqAll.dp r (by simpa [PyData.canLay0] using c))
  | _, _, .tup h r, c => .tup (.inl (.inl h)) (DqAll.dp r (by simpa [PyData.canLay0] using c))
  | _, _, .dct _ _, c => by simp [PyData.canLay0] at c
  | _, _, .st _ _, c => by simp [PyData.canLay0] at c
  | _, _, .dtt _ _, c => by simp [PyData.canLay0] at c
theorem DqAll.dp {K : Fg} {H : Hp} : ∀ {xs : List V} {ds : List D}, DqAll K H xs ds → PyData.canLayAll0 ds = true → L2.DpAll K H xs ds
  | _, _, .nil, _ => .nil
  | _, _, .cons h r, c => by
    rw [PyData.canLayAll0, Bool.and_eq_true] at c
    exact .cons (Dq.dp h c.1) (DqAll.dp r c.2)
end
theorem tupS {K : Fg} {H : Hp} {a : Addr} {xs : List V} (h : H a = some (.tup xs)) : SqT K H a xs := .inl (.inl h)
instance tupSq {K : Fg} {H : Hp} {a : Addr} {xs : List V} : Coe (H a = some (.tup xs)) (SqT K H a xs) := ⟨fun h => .inl (.inl h)⟩
structure ExT (B B' : Hp) : Prop where
  keep : ∀ a o, B a = some o → isTbl o = false → B' a = some o
  tabs : ∀ P, TabG B P → TabG B' P
theorem ExT.refl (B : Hp) : ExT B B := ⟨fun _ _ h _ => h, fun _ h => h⟩
theorem ExT.trans {B B1 B2 : Hp} (a : ExT B B1) (b : ExT B1 B2) : ExT B B2 := ⟨fun x o h t => b.keep x o (a.keep x o h t) t, fun P h => b.tabs P (a.tabs P h)⟩
theorem ExT.of {B B' : Hp} (h : ∀ a o, B a = some o → B' a = some o) : ExT B B' := ⟨fun a o e _ => h a o e, fun P t => t.sub h⟩
theorem ExT.new {B : Hp} {p : Addr} {o : HO} (h : B p = none) : ExT B (upd B p o) := .of fun a u e => by rw [upd_ne (ne_of_none e h)]; exact e
section
variable {K : Fg} {B B' H H' : Hp}
theorem rd_ext (e : ExT B B') {a : Addr} {o : HO} (t : isTbl o = false) (h : Rd B a o) : Rd B' a o := by
  rcases h with h | ⟨u, h⟩
  · exact .inl (e.keep _ _ h t)
  · exact .inr ⟨u, e.keep _ _ h rfl⟩
theorem sqL_ext (e : ExT B B') {a : Addr} {xs : List V} (h : SqL K B a xs) : SqL K B' a xs := h.imp (rd_ext e rfl) id
theorem sqT_ext (e : ExT B B') {a : Addr} {xs : List V} (h : SqT K B a xs) : SqT K B' a xs := by
  rcases h with (h | ⟨o, h⟩) | h
  · exact .inl (.inl (e.keep _ _ h rfl))
  · exact .inl (.inr ⟨o, e.keep _ _ h rfl⟩)
  · exact .inr h
mutual
theorem Dq.ext (e : ExT B B') : ∀ {v : V} {d : D}, Dq K B v d → Dq K B' v d
  | _, _, .non => .non
  | _, _, .bl b => .bl b
  | _, _, .int i => .int i
  | _, _, .str x => .str x
  | _, _, .lst h r => .lst (sqL_ext e h) (DqAll.ext e r)
  | _, _, .tup h r => .tup (e.keep _ _ h rfl) (DqAll.ext e r)
  | _, _, .dct h r => .dct (rd_ext e rfl h) (DqPs.ext e r)
  | _, _, .st h r => .st (e.keep _ _ h rfl) r
  | _, _, .dtt h r => .dtt (e.keep _ _ h rfl) (DqPT.ext e r)
theorem DqPT.ext (e : ExT B B') : ∀ {xs : List (List Key × V)} {ds : List (D × D)}, DqPT K B xs ds → DqPT K B' xs ds
  | _, _, .nil => .nil
  | _, _, .cons h r => .cons (Dq.ext e h) (DqPT.ext e r)
theorem DqPs.ext (e : ExT B B') : ∀ {xs : List (Key × V)} {ds : List (D × D)}, DqPs K B xs ds → DqPs K B' xs ds
  | _, _, .nil => .nil
  | _, _, .cons h r => .cons (Dq.ext e h) (DqPs.ext e r)
theorem DqAll.ext (e : ExT B B') : ∀ {xs : List V} {ds : List D}, DqAll K B xs ds → DqAll K B' xs ds
  | _, _, .nil => .nil
  | _, _, .cons h r => .cons (Dq.ext e h) (DqAll.ext e r)
end
theorem DqAll.len : ∀ {xs : List V} {ds : List D}, DqAll K B xs ds → xs.length = ds.length
  | _, _, .nil => rfl
  | _, _, .cons _ r => congrArg (· + 1) (DqAll.len r)
theorem DqAll.get : ∀ {xs : List V} {ds : List D} {i : Nat} {d : D}, DqAll K B xs ds → ds[i]? = some d → ∃ x, xs[i]? = some x ∧ Dq K B x d
  | _, _, _, _, .nil, h => by simp at h
  | _, _, 0, _, .cons h _, e => by
    simp at e
    subst e
    exact ⟨_, rfl, h⟩
  | _, _, i + 1, _, .cons _ r, e => by
    obtain ⟨x, h1, h2⟩ := DqAll.get (i := i) r (by simpa using e)
    exact ⟨x, by simpa using h1, h2⟩
theorem DqAll.getV : ∀ {xs : List V} {ds : List D} {i : Nat} {x : V}, DqAll K B xs ds → xs[i]? = some x → ∃ d, ds[i]? = some d ∧ Dq K B x d
  | _, _, _, _, .nil, h => by simp at h
  | _, _, 0, _, .cons h _, e => by
    simp at e
    subst e
    exact ⟨_, rfl, h⟩
  | _, _, i + 1, _, .cons _ r, e => by
    obtain ⟨x, h1, h2⟩ := DqAll.getV (i := i) r (by simpa using e)
    exact ⟨x, by simpa using h1, h2⟩
theorem DqAll.app : ∀ {xs ys : List V} {ds es : List D}, DqAll K B xs ds → DqAll K B ys es → DqAll K B (xs ++ ys) (ds ++ es)
  | _, _, _, _, .nil, s => s
  | _, _, _, _, .cons h r, s => .cons h (DqAll.app r s)
theorem DqAll.take : ∀ {xs : List V} {ds : List D} (n : Nat), DqAll K B xs ds → DqAll K B (xs.take n) (ds.take n)
  | _, _, 0, _ => by simp; exact .nil
  | _, _, _ + 1, .nil => .nil
  | _, _, n + 1, .cons h r => .cons h (DqAll.take n r)
theorem DqAll.drop : ∀ {xs : List V} {ds : List D} (n : Nat), DqAll K B xs ds → DqAll K B (xs.drop n) (ds.drop n)
  | _, _, 0, r => r
  | _, _, _ + 1, .nil => .nil
  | _, _, n + 1, .cons _ r => DqAll.drop n r
theorem DqAll.set : ∀ {xs : List V} {ds : List D} {x : V} {d : D} (n : Nat), DqAll K B xs ds → Dq K B x d → DqAll K B (xs.set n x) (ds.set n d)
  | _, _, _, _, _, .nil, _ => .nil
  | _, _, _, _, 0, .cons _ r, h => .cons h r
  | _, _, _, _, n + 1, .cons h r, q => .cons h (DqAll.set n r q)
theorem dqAll_ints : ∀ (ns : List Int), DqAll K B (ns.map V.int) (ns.map PyData.int)
  | [] => .nil
  | n :: r => .cons (.int n) (dqAll_ints r)
end
end VL
end
section
set_option autoImplicit false
set_option maxRecDepth 100000
set_option maxHeartbeats 2000000
namespace VL
open PySem PySem.Spec PyProof.Rows L2
inductive DqKV {κ : Type} (K : Fg) (B : Hp) : List (κ × V) → List (κ × D) → Prop
  | nil : DqKV K B [] []
  | cons {k : κ} {v : V} {d : D} {r : List (κ × V)} {s : List (κ × D)} : Dq K B v d → DqKV K B r s → DqKV K B ((k, v) :: r) ((k, d) :: s)
theorem DqKV.ext {κ : Type} {K : Fg} {B B' : Hp} (e : ExT B B') : ∀ {vs : List (κ × V)} {ds : List (κ × D)}, DqKV K B vs ds → DqKV K B' vs ds
  | _, _, .nil => .nil
  | _, _, .cons h r => .cons (Dq.ext e h) (DqKV.ext e r)
/-- the lists at qs are own ones, and hold dss -/
inductive Inn (K : Fg) (B H : Hp) : List Addr → List (List D) → Prop
  | nil : Inn K B H [] []
  | cons {q : Addr} {ds : List D} {qs : List Addr} {dss : List (List D)} (b : B q = none) (h : ∃ xs, H q = some (.lst xs) ∧ DqAll K B xs ds) (r : Inn K B H qs dss) : Inn K B H (q :: qs) (ds :: dss)
theorem Inn.mem {K : Fg} {B H : Hp} {qs : List Addr} {dss : List (List D)} (h : Inn K B H qs dss) {a : Addr} (m : a ∈ qs) : B a = none ∧ ∃ xs, H a = some (.lst xs) := by
  induction h with
  | nil => cases m
  | cons b h r ih =>
    rcases List.mem_cons.mp m with rfl | m
    · obtain ⟨xs, h1, _⟩ := h
      exact ⟨b, xs, h1⟩
    · exact ih m
theorem Inn.ext {K : Fg} {B B' H H' : Hp} (e : ExT B B') {qs : List Addr} {dss : List (List D)} (h : Inn K B H qs dss) (k : ∀ a ∈ qs, B' a = none ∧ H' a = H a) : Inn K B' H' qs dss := by
  induction h with
  | nil => exact .nil
  | cons b h r ih =>
    obtain ⟨xs, h1, h2⟩ := h
    obtain ⟨k1, k2⟩ := k _ List.mem_cons_self
    exact .cons k1 ⟨xs, k2.trans h1, DqAll.ext e h2⟩ (ih fun a m => k a (List.mem_cons_of_mem _ m))
theorem Inn.len {K : Fg} {B H : Hp} {qs : List Addr} {dss : List (List D)} (h : Inn K B H qs dss) : qs.length = dss.length := by
  induction h with
  | nil => rfl
  | cons b h r ih => rw [List.length_cons, List.length_cons, ih]
/-- the inner objects of a cell -/
def inn : Cell → List Addr
  | .lls qs _ => qs
  | _ => []
/-- what an own cell's object holds -/
def OwnAt (K : Fg) (B H : Hp) (p : Addr) : Cell → Prop
  | .lst _ ds => ∃ xs, H p = some (.lst xs) ∧ DqAll K B xs ds
  | .dic kvs => ∃ vs, H p = some (.dK vs) ∧ DqKV K B vs kvs
  | .dit kvs => ∃ vs, H p = some (.dT vs) ∧ DqKV K B vs kvs
  | .lls qs dss => H p = some (HO.lst (qs.map V.ref)) ∧ p ∉ qs ∧ qs.Nodup ∧ Inn K B H qs dss
  | _ => False
theorem OwnAt.some {K : Fg} {B H : Hp} {p : Addr} : ∀ {c : Cell}, OwnAt K B H p c → ∃ o, H p = some o ∧ isTbl o = false ∧ Mut (some o)
  | .lst _ _, ⟨_, h, _⟩ => ⟨_, h, rfl, True.intro⟩
  | .dic _, ⟨_, h, _⟩ => ⟨_, h, rfl, True.intro⟩
  | .dit _, ⟨_, h, _⟩ => ⟨_, h, rfl, True.intro⟩
  | .lls _ _, ⟨h, _⟩ => ⟨_, h, rfl, True.intro⟩
theorem OwnAt.inner {K : Fg} {B H : Hp} {p a : Addr} : ∀ {c : Cell}, OwnAt K B H p c → a ∈ inn c → B a = none ∧ a ≠ p ∧ ∃ xs, H a = Option.some (HO.lst xs)
  | .lls _ _, ⟨_, n, _, r⟩, m => by
    obtain ⟨h1, h2⟩ := r.mem m
    exact ⟨h1, fun z => n (z ▸ m), h2⟩
  | .lst _ _, _, m => by cases m
  | .dic _, _, m => by cases m
  | .dit _, _, m => by cases m
theorem OwnAt.ext {K : Fg} {B B' H H' : Hp} {p : Addr} (e : ExT B B') (h : H' p = H p) : ∀ {c : Cell}, (∀ a ∈ inn c, B' a = none ∧ H' a = H a) → OwnAt K B H p c → OwnAt K B' H' p c
  | .lst _ _, _, ⟨xs, q, r⟩ => ⟨xs, h.trans q, DqAll.ext e r⟩
  | .dic _, _, ⟨vs, q, r⟩ => ⟨vs, h.trans q, DqKV.ext e r⟩
  | .dit _, _, ⟨vs, q, r⟩ => ⟨vs, h.trans q, DqKV.ext e r⟩
  | .lls _ _, k, ⟨q, n, d, r⟩ => ⟨h.trans q, n, d, r.ext e k⟩
/-- a is an object of the own cell of slot i -/
def Hl (σ : L2.St) (i : Nat) (c : Cell) (a : Addr) : Prop := σ[i]? = some (some (V.ref a)) ∨ a ∈ inn c
theorem Hl.top {σ : L2.St} {i : Nat} {c : Cell} {a : Addr} (e : inn c = []) : Hl σ i c a ↔ σ[i]? = some (some (V.ref a)) := by
  unfold Hl
  rw [e]
  exact ⟨fun h => h.elim id fun z => (List.not_mem_nil z).elim, .inl⟩
/-- a is an object of an own cell -/
def Ow (ρ : En) (σ : L2.St) (a : Addr) : Prop := ∃ (i : Nat) (c : Cell), ρ[i]? = some c ∧ own c = true ∧ Hl σ i c a
theorem Hl.at' {σ σ' : L2.St} {i : Nat} {c : Cell} {a : Addr} (e : σ'[i]? = σ[i]?) : Hl σ' i c a ↔ Hl σ i c a := by
  unfold Hl
  rw [e]
structure Sv (K : Fg) (as : As) (Z : Hp) (ρ : En) (σ : L2.St) (B H : Hp) : Prop where
  len : ρ.length = σ.length
  dat : ∀ (i : Nat) (d : D), ρ[i]? = some (Cell.dat d) → ∃ v, σ[i]? = some (some v) ∧ Dq K B v d
  own : ∀ (i : Nat) (c : Cell), ρ[i]? = some c → own c = true → ∃ p, σ[i]? = some (some (V.ref p)) ∧ B p = none ∧ OwnAt K B H p c
  one : ∀ (i j : Nat) (ci cj : Cell) (p : Addr), ρ[i]? = some ci → ρ[j]? = some cj → VL.own ci = true → VL.own cj = true → Hl σ i ci p → Hl σ j cj p → i = j
  off : ∀ a, ¬ Ow ρ σ a → Z a = none → H a = B a
  hid : ∀ a o, Z a = some o → H a = some o ∧ B a = none ∧ ¬ Ow ρ σ a ∧ ((∃ xs, o = .lst xs) ∨ (∃ kvs, o = .dK kvs) ∨ ∃ kvs, o = .dT kvs)
  io : ∀ (i : Nat) (ds : List D), ρ[i]? = some (Cell.lst true ds) → σ[i]? = as.1[i]?
  tab : ∀ P ∈ as.2.1, TabG B P
section
variable {K : Fg} {as : As} {Z : Hp} {ρ : En} {σ : L2.St} {B H : Hp}
theorem Sv.ow (S : Sv K as Z ρ σ B H) {a : Addr} (h : Ow ρ σ a) : B a = none ∧ ∃ o, H a = some o ∧ isTbl o = false ∧ Mut (some o) := by
  obtain ⟨i, c, h1, h2, h3⟩ := h
  obtain ⟨p, q1, q2, q3⟩ := S.own i c h1 h2
  rcases h3 with h3 | h3
  · rw [h3] at q1
    cases q1
    exact ⟨q2, q3.some⟩
  · obtain ⟨b, _, xs, e⟩ := q3.inner h3
    exact ⟨b, .lst xs, e, rfl, True.intro⟩
theorem Sv.sub (S : Sv K as Z ρ σ B H) {a : Addr} {o : HO} (h : B a = some o) : H a = some o := by
  by_cases w : Ow ρ σ a
  · rw [(S.ow w).1] at h
    cases h
  · cases z : Z a with
    | none => rw [S.off a w z, h]
    | some u =>
      rw [(S.hid a u z).2.1] at h
      cases h
/-- every tuple is all's -/
theorem Sv.tups (S : Sv K as Z ρ σ B H) (a : Addr) (xs : List V) (h : H a = some (.tup xs)) : B a = some (.tup xs) := by
  have n1 : ¬ Ow ρ σ a := fun w => by
    obtain ⟨_, o, e, _, m⟩ := S.ow w
    rw [h] at e
    cases e
    exact m
  have n2 : Z a = none := by
    cases z : Z a with
    | none => rfl
    | some o =>
      obtain ⟨q, _, _, k⟩ := S.hid a o z
      rw [h] at q
      cases q
      rcases k with ⟨_, k⟩ | ⟨_, k⟩ | ⟨_, k⟩ <;> cases k
  rw [← S.off a n1 n2]
  exact h
theorem Sv.ext (S : Sv K as Z ρ σ B H) : ExT B H := .of fun _ _ h => S.sub h
theorem Sv.free (S : Sv K as Z ρ σ B H) {p : Addr} (h : H p = none) : B p = none := by
  cases e : B p with
  | none => rfl
  | some o =>
    rw [S.sub e] at h
    cases h
theorem Sv.nOw (S : Sv K as Z ρ σ B H) {p : Addr} (h : H p = none) : ¬ Ow ρ σ p := fun w => by
  obtain ⟨_, o, e, _⟩ := S.ow w
  rw [h] at e
  cases e
theorem Sv.nZ (S : Sv K as Z ρ σ B H) {p : Addr} (h : H p = none) : Z p = none := by
  cases e : Z p with
  | none => rfl
  | some o =>
    rw [(S.hid p o e).1] at h
    cases h
/-- the stable part grows, the own objects stand -/
theorem Sv.grow {B' H' : Hp} (S : Sv K as Z ρ σ B H) (e : ExT B B') (hn : ∀ a, Ow ρ σ a ∨ Z a ≠ none → B' a = none ∧ H' a = H a) (ho : ∀ a, ¬ Ow ρ σ a → Z a = none → H' a = B' a) : Sv K as Z ρ σ B' H' where
  len := S.len
  dat := fun i d h => by
    obtain ⟨v, h1, h2⟩ := S.dat i d h
    exact ⟨v, h1, Dq.ext e h2⟩
  own := fun i c h hc => by
    obtain ⟨p, h1, h2, h3⟩ := S.own i c h hc
    obtain ⟨w1, w2⟩ := hn p (.inl ⟨i, c, h, hc, .inl h1⟩)
    exact ⟨p, h1, w1, h3.ext e w2 fun a m => hn a (.inl ⟨i, c, h, hc, .inr m⟩)⟩
  one := S.one
  off := ho
  hid := fun a o h => by
    obtain ⟨h1, h2, h3, h4⟩ := S.hid a o h
    obtain ⟨w1, w2⟩ := hn a (.inr (by rw [h]; exact fun z => by cases z))
    exact ⟨w2.trans h1, w1, h3, h4⟩
  io := S.io
  tab := fun P h => e.tabs P (S.tab P h)
/-- a new object that stays -/
theorem Sv.al (S : Sv K as Z ρ σ B H) {p : Addr} {o : HO} (h : H p = none) : Sv K as Z ρ σ (upd B p o) (upd H p o) :=
  S.grow (.new (S.free h)) (fun a w => by
    have ne : a ≠ p := fun z => w.elim (fun w => S.nOw h (z ▸ w)) fun w => w (z ▸ S.nZ h)
    rw [upd_ne ne, upd_ne ne]
    refine ⟨?_, rfl⟩
    rcases w with w | w
    · exact (S.ow w).1
    · cases e : Z a with
      | none => exact (w e).elim
      | some o => exact (S.hid a o e).2.1) fun a w wz => by
    by_cases z : a = p
    · rw [z, upd_same, upd_same]
    · rw [upd_ne z, upd_ne z]
      exact S.off a w wz
theorem env_set {ρ : En} {i j : Nat} {c c' : Cell} (h : (ρ.set i c)[j]? = some c') : (i = j ∧ c' = c ∧ i < ρ.length) ∨ (i ≠ j ∧ ρ[j]? = some c') := by
  by_cases e : i = j
  · subst e
    rw [List.getElem?_set] at h
    simp at h
    exact .inl ⟨rfl, h.2.symm, h.1⟩
  · rw [List.getElem?_set_ne e] at h
    exact .inr ⟨e, h⟩
theorem st_set {σ : L2.St} {i j : Nat} {v : Option V} (e : i ≠ j) : (σ.set i v)[j]? = σ[j]? := List.getElem?_set_ne e
theorem st_set_same {σ : L2.St} {i : Nat} {v : Option V} (h : i < σ.length) : (σ.set i v)[i]? = some v := by simp [h]
/-- slot i's own object (if any) is let stay, the slot forgotten -/
theorem Sv.drop (S : Sv K as Z ρ σ B H) (i : Nat) : ∃ B', ExT B B' ∧ Sv K as Z (ρ.set i .un) σ B' H ∧ ∀ c, ρ[i]? = some c → VL.own c = true → ∀ p, σ[i]? = some (some (V.ref p)) → B' = fun a => if a = p ∨ a ∈ inn c then H a else B a := by
  by_cases hw : ∃ c, ρ[i]? = some c ∧ VL.own c = true
  · obtain ⟨c, h1, h2⟩ := hw
    obtain ⟨p, q1, q2, q3⟩ := S.own i c h1 h2
    have hl : ∀ a, (a = p ∨ a ∈ inn c) ↔ Hl σ i c a := fun a => by
      unfold Hl
      rw [q1]
      constructor
      · rintro (rfl | z)
        · exact .inl rfl
        · exact .inr z
      · rintro (z | z)
        · cases z
          exact .inl rfl
        · exact .inr z
    have nB : ∀ a, (a = p ∨ a ∈ inn c) → B a = none := fun a z => (S.ow ⟨i, c, h1, h2, (hl a).mp z⟩).1
    have ex : ExT B (fun a => if a = p ∨ a ∈ inn c then H a else B a) := .of fun a u h => by
      show (if a = p ∨ a ∈ inn c then H a else B a) = some u
      by_cases z : a = p ∨ a ∈ inn c
      · rw [nB a z] at h
        cases h
      · rw [if_neg z, h]
    have key : ∀ (j : Nat) (c' : Cell), (ρ.set i .un)[j]? = some c' → VL.own c' = true → i ≠ j ∧ ρ[j]? = some c' := fun j c' h hc => by
      rcases env_set h with ⟨_, z, _⟩ | z
      · rw [z] at hc
        cases hc
      · exact z
    have ot : ∀ (j : Nat) (c' : Cell) (r : Addr), i ≠ j → ρ[j]? = some c' → VL.own c' = true → Hl σ j c' r → ¬ (r = p ∨ r ∈ inn c) := fun j c' r ne z hc w y => ne (S.one i j c c' r h1 z h2 hc ((hl r).mp y) w)
    refine ⟨_, ex, ⟨by rw [List.length_set]; exact S.len, fun j d h => ?_, fun j c' h hc => ?_, fun j k cj ck r hj hk oj ok ej ek => ?_, fun a w wz => ?_, fun a o hz => ?_, fun j ds h => ?_, fun P h => ex.tabs P (S.tab P h)⟩, fun c' h hc p' hp => ?_⟩
    · rcases env_set h with ⟨_, z, _⟩ | ⟨_, z⟩
      · cases z
      · obtain ⟨v, a1, a2⟩ := S.dat j d z
        exact ⟨v, a1, Dq.ext ex a2⟩
    · obtain ⟨ne, z⟩ := key j c' h hc
      obtain ⟨r, a1, a2, a3⟩ := S.own j c' z hc
      have off : ∀ b, Hl σ j c' b → (if b = p ∨ b ∈ inn c then H b else B b) = none := fun b w => by
        rw [if_neg (ot j c' b ne z hc w)]
        exact (S.ow ⟨j, c', z, hc, w⟩).1
      exact ⟨r, a1, off r (.inl a1), a3.ext ex rfl fun b m => ⟨off b (.inr m), rfl⟩⟩
    · obtain ⟨_, z1⟩ := key j cj hj oj
      obtain ⟨_, z2⟩ := key k ck hk ok
      exact S.one j k cj ck r z1 z2 oj ok ej ek
    · show H a = if a = p ∨ a ∈ inn c then H a else B a
      by_cases z : a = p ∨ a ∈ inn c
      · rw [if_pos z]
      · rw [if_neg z]
        refine S.off a (fun ⟨j, c', y1, y2, y3⟩ => w ⟨j, c', ?_, y2, y3⟩) wz
        have ne : i ≠ j := fun y => by
          subst y
          rw [h1] at y1
          cases y1
          exact z ((hl a).mpr y3)
        rw [List.getElem?_set_ne ne]
        exact y1
    · obtain ⟨h3, h4, h5, h6⟩ := S.hid a o hz
      refine ⟨h3, ?_, fun ⟨j, c', y1, y2, y3⟩ => h5 ⟨j, c', (key j c' y1 y2).2, y2, y3⟩, h6⟩
      have na : ¬ (a = p ∨ a ∈ inn c) := fun z => h5 ⟨i, c, h1, h2, (hl a).mp z⟩
      show (if a = p ∨ a ∈ inn c then H a else B a) = none
      rw [if_neg na]
      exact h4
    · rcases env_set h with ⟨_, z, _⟩ | ⟨_, z⟩
      · cases z
      · exact S.io j ds z
    · rw [h1] at h
      cases h
      rw [q1] at hp
      cases hp
      rfl
  · refine ⟨B, .refl B, ⟨by rw [List.length_set]; exact S.len, fun j d h => ?_, fun j c' h hc => ?_, fun j k cj ck r hj hk oj ok ej ek => ?_, fun a w wz => ?_, fun a o hz => ?_, fun j ds h => ?_, S.tab⟩, fun c' h hc p' hp => (hw ⟨c', h, hc⟩).elim⟩
    · rcases env_set h with ⟨_, z, _⟩ | ⟨_, z⟩
      · cases z
      · exact S.dat j d z
    · rcases env_set h with ⟨_, z, _⟩ | ⟨_, z⟩
      · rw [z] at hc
        cases hc
      · exact S.own j c' z hc
    · rcases env_set hj with ⟨_, z, _⟩ | ⟨_, z1⟩
      · rw [z] at oj
        cases oj
      · rcases env_set hk with ⟨_, z, _⟩ | ⟨_, z2⟩
        · rw [z] at ok
          cases ok
        · exact S.one j k cj ck r z1 z2 oj ok ej ek
    · refine S.off a (fun ⟨j, c', y1, y2, y3⟩ => w ⟨j, c', ?_, y2, y3⟩) wz
      have ne : i ≠ j := fun y => hw ⟨c', by rw [y]; exact y1, y2⟩
      rw [List.getElem?_set_ne ne]
      exact y1
    · obtain ⟨h3, h4, h5, h6⟩ := S.hid a o hz
      refine ⟨h3, h4, fun ⟨j, c', y1, y2, y3⟩ => h5 ⟨j, c', ?_, y2, y3⟩, h6⟩
      rcases env_set y1 with ⟨_, z, _⟩ | ⟨_, z⟩
      · rw [z] at y2
        cases y2
      · exact z
    · rcases env_set h with ⟨_, z, _⟩ | ⟨_, z⟩
      · cases z
      · exact S.io j ds z
/-- data is put into a forgotten slot -/
theorem Sv.put {i : Nat} (S : Sv K as Z (ρ.set i .un) σ B H) {v : V} {d : D} (hd : Dq K B v d) : Sv K as Z (ρ.set i (.dat d)) (σ.set i (some v)) B H := by
  have hl : ρ.length = σ.length := by
    have := S.len
    rwa [List.length_set] at this
  have up : ∀ (j : Nat) (c : Cell), i ≠ j → ρ[j]? = some c → (ρ.set i .un)[j]? = some c := fun j c ne h => by rw [List.getElem?_set_ne ne]; exact h
  have key : ∀ (j : Nat) (c' : Cell), (ρ.set i (.dat d))[j]? = some c' → VL.own c' = true → i ≠ j ∧ (ρ.set i .un)[j]? = some c' := fun j c' h hc => by
    rcases env_set h with ⟨_, z, _⟩ | ⟨ne, z⟩
    · rw [z] at hc
      cases hc
    · exact ⟨ne, up j c' ne z⟩
  refine ⟨by rw [List.length_set, List.length_set]; exact hl, fun j e h => ?_, fun j c' h hc => ?_, fun j k cj ck r hj hk oj ok ej ek => ?_, fun a w wz => ?_, fun a o hz => ?_, fun j ds h => ?_, S.tab⟩
  · rcases env_set h with ⟨y, z, l⟩ | ⟨ne, z⟩
    · cases z
      subst y
      exact ⟨v, st_set_same (by omega), hd⟩
    · rw [st_set ne]
      exact S.dat j e (up j _ ne z)
  · obtain ⟨ne, z⟩ := key j c' h hc
    rw [st_set ne]
    exact S.own j c' z hc
  · obtain ⟨n1, z1⟩ := key j cj hj oj
    obtain ⟨n2, z2⟩ := key k ck hk ok
    exact S.one j k cj ck r z1 z2 oj ok ((Hl.at' (st_set n1)).mp ej) ((Hl.at' (st_set n2)).mp ek)
  · refine S.off a (fun ⟨j, c', y1, y2, y3⟩ => w ⟨j, c', ?_, y2, ?_⟩) wz
    · rcases env_set y1 with ⟨_, z, _⟩ | ⟨ne, z⟩
      · rw [z] at y2
        cases y2
      · rw [List.getElem?_set_ne ne]
        exact z
    · rcases env_set y1 with ⟨_, z, _⟩ | ⟨ne, z⟩
      · rw [z] at y2
        cases y2
      · exact (Hl.at' (st_set ne)).mpr y3
  · obtain ⟨h3, h4, h5, h6⟩ := S.hid a o hz
    refine ⟨h3, h4, fun ⟨j, c', y1, y2, y3⟩ => ?_, h6⟩
    obtain ⟨n, z⟩ := key j c' y1 y2
    exact h5 ⟨j, c', z, y2, (Hl.at' (st_set n)).mp y3⟩
  · rcases env_set h with ⟨_, z, _⟩ | ⟨ne, z⟩
    · cases z
    · rw [st_set ne]
      exact S.io j ds (up j _ ne z)
/-- a new own object is put into a forgotten slot -/
theorem Sv.putOwn {i : Nat} (S : Sv K as Z (ρ.set i .un) σ B H) {p : Addr} {o : HO} {c : Cell} (hp : H p = none) (hc : VL.own c = true) (hio : ∀ ds, c ≠ .lst true ds) (hi : i < ρ.length) (hd : OwnAt K B (upd H p o) p c) (hin : inn c = [] := by rfl) : Sv K as Z (ρ.set i c) (σ.set i (some (V.ref p))) B (upd H p o) := by
  have hl : ρ.length = σ.length := by
    have := S.len
    rwa [List.length_set] at this
  have up : ∀ (j : Nat) (c : Cell), i ≠ j → ρ[j]? = some c → (ρ.set i .un)[j]? = some c := fun j c ne h => by rw [List.getElem?_set_ne ne]; exact h
  have old : ∀ (j : Nat) (c' : Cell) (r : Addr), i ≠ j → ρ[j]? = some c' → VL.own c' = true → Hl σ j c' r → r ≠ p := fun j c' r ne h h2 h3 z => S.nOw hp ⟨j, c', up j c' ne h, h2, by rw [← z]; exact h3⟩
  have me : ∀ {r : Addr}, Hl (σ.set i (some (V.ref p))) i c r → r = p := fun {r} h => by
    rcases h with h | h
    · rw [st_set_same (by omega)] at h
      cases h
      rfl
    · rw [hin] at h
      cases h
  refine ⟨by rw [List.length_set, List.length_set]; exact hl, fun j e h => ?_, fun j c' h h2 => ?_, fun j k cj ck r hj hk oj ok ej ek => ?_, fun a w wz => ?_, fun a o' hz => ?_, fun j ds h => ?_, S.tab⟩
  · rcases env_set h with ⟨y, z, l⟩ | ⟨ne, z⟩
    · rw [← z] at hc
      cases hc
    · rw [st_set ne]
      exact S.dat j e (up j _ ne z)
  · rcases env_set h with ⟨y, z, l⟩ | ⟨ne, z⟩
    · subst y
      subst z
      exact ⟨p, st_set_same (by omega), S.free hp, hd⟩
    · rw [st_set ne]
      obtain ⟨r, a1, a2, a3⟩ := S.own j c' (up j c' ne z) h2
      exact ⟨r, a1, a2, a3.ext (.refl B) (upd_ne (old j c' r ne z h2 (.inl a1))) fun b m => ⟨(a3.inner m).1, upd_ne (old j c' b ne z h2 (.inr m))⟩⟩
  · rcases env_set hj with ⟨y1, z1, l1⟩ | ⟨n1, z1⟩
    · rcases env_set hk with ⟨y2, z2, l2⟩ | ⟨n2, z2⟩
      · exact y1.symm.trans y2
      · subst y1
        subst z1
        exact (old k ck r n2 z2 ok ((Hl.at' (st_set n2)).mp ek) (me ej)).elim
    · rcases env_set hk with ⟨y2, z2, l2⟩ | ⟨n2, z2⟩
      · subst y2
        subst z2
        exact (old j cj r n1 z1 oj ((Hl.at' (st_set n1)).mp ej) (me ek)).elim
      · exact S.one j k cj ck r (up j _ n1 z1) (up k _ n2 z2) oj ok ((Hl.at' (st_set n1)).mp ej) ((Hl.at' (st_set n2)).mp ek)
  · have na : a ≠ p := fun z => w ⟨i, c, by simp [hi], hc, .inl (by rw [st_set_same (by omega), z])⟩
    rw [upd_ne na]
    refine S.off a (fun ⟨j, c', y1, y2, y3⟩ => w ⟨j, c', ?_, y2, ?_⟩) wz
    · rcases env_set y1 with ⟨_, z, _⟩ | ⟨ne, z⟩
      · rw [z] at y2
        cases y2
      · rw [List.getElem?_set_ne ne]
        exact z
    · rcases env_set y1 with ⟨_, z, _⟩ | ⟨ne, z⟩
      · rw [z] at y2
        cases y2
      · exact (Hl.at' (st_set ne)).mpr y3
  · obtain ⟨h3, h4, h5, h6⟩ := S.hid a o' hz
    have na : a ≠ p := fun z => by
      rw [z, hp] at h3
      cases h3
    refine ⟨by rw [upd_ne na]; exact h3, h4, fun ⟨j, c', y1, y2, y3⟩ => ?_, h6⟩
    rcases env_set y1 with ⟨y, z, _⟩ | ⟨ne, z⟩
    · subst y
      subst z
      exact na (me y3)
    · exact h5 ⟨j, c', up j c' ne z, y2, (Hl.at' (st_set ne)).mp y3⟩
  · rcases env_set h with ⟨_, z, _⟩ | ⟨ne, z⟩
    · exact (hio ds z.symm).elim
    · rw [st_set ne]
      exact S.io j ds (up j _ ne z)
/-- one of an own cell's objects is changed -/
theorem Sv.mutI (S : Sv K as Z ρ σ B H) {i : Nat} {p q : Addr} {o : HO} {c c' : Cell} (hi : ρ[i]? = some c) (hc : VL.own c = true) (hp : σ[i]? = some (some (V.ref p))) (hq : Hl σ i c q) (hc' : VL.own c' = true) (hio : ∀ ds, c' = .lst true ds → ∃ ds', c = .lst true ds') (hd : OwnAt K B (upd H q o) p c') (hin : inn c' = inn c) :
    Sv K as Z (ρ.set i c') σ B (upd H q o) := by
  have hil : i < ρ.length := (List.getElem?_eq_some_iff.mp hi).1
  obtain ⟨p', q1, q2, q3⟩ := S.own i c hi hc
  rw [hp] at q1
  cases q1
  have cc : ∀ r, Hl σ i c' r ↔ Hl σ i c r := fun r => by
    unfold Hl
    rw [hin]
  have ot : ∀ (j : Nat) (cj : Cell) (r : Addr), i ≠ j → ρ[j]? = some cj → VL.own cj = true → Hl σ j cj r → r ≠ q := fun j cj r ne h h2 h3 z => ne (S.one i j c cj q hi h hc h2 hq (by rw [← z]; exact h3))
  refine ⟨by rw [List.length_set]; exact S.len, fun j e h => ?_, fun j cj h h2 => ?_, fun j k cj ck r hj hk oj ok ej ek => ?_, fun a w wz => ?_, fun a o' hz => ?_, fun j ds h => ?_, S.tab⟩
  · rcases env_set h with ⟨_, z, _⟩ | ⟨_, z⟩
    · rw [← z] at hc'
      cases hc'
    · exact S.dat j e z
  · rcases env_set h with ⟨y, z, _⟩ | ⟨ne, z⟩
    · subst y
      subst z
      exact ⟨p, hp, q2, hd⟩
    · obtain ⟨r, a1, a2, a3⟩ := S.own j cj z h2
      exact ⟨r, a1, a2, a3.ext (.refl B) (upd_ne (ot j cj r ne z h2 (.inl a1))) fun b m => ⟨(a3.inner m).1, upd_ne (ot j cj b ne z h2 (.inr m))⟩⟩
  · rcases env_set hj with ⟨y1, z1, l1⟩ | ⟨n1, z1⟩
    · rcases env_set hk with ⟨y2, z2, l2⟩ | ⟨n2, z2⟩
      · exact y1.symm.trans y2
      · subst y1
        subst z1
        exact S.one i k c ck r hi z2 hc ok ((cc r).mp ej) ek
    · rcases env_set hk with ⟨y2, z2, l2⟩ | ⟨n2, z2⟩
      · subst y2
        subst z2
        exact S.one j i cj c r z1 hi oj hc ej ((cc r).mp ek)
      · exact S.one j k cj ck r z1 z2 oj ok ej ek
  · have na : a ≠ q := fun z => w ⟨i, c', by simp [hil], hc', by rw [z]; exact (cc q).mpr hq⟩
    rw [upd_ne na]
    refine S.off a (fun ⟨j, cj, y1, y2, y3⟩ => ?_) wz
    by_cases ne : i = j
    · subst ne
      rw [hi] at y1
      cases y1
      exact w ⟨i, c', by simp [hil], hc', (cc a).mpr y3⟩
    · exact w ⟨j, cj, by rw [List.getElem?_set_ne ne]; exact y1, y2, y3⟩
  · obtain ⟨h3, h4, h5, h6⟩ := S.hid a o' hz
    have na : a ≠ q := fun z => h5 ⟨i, c, hi, hc, by rw [z]; exact hq⟩
    refine ⟨by rw [upd_ne na]; exact h3, h4, fun ⟨j, cj, y1, y2, y3⟩ => ?_, h6⟩
    rcases env_set y1 with ⟨y, z, _⟩ | ⟨ne, z⟩
    · subst y
      subst z
      exact h5 ⟨i, c, hi, hc, (cc a).mp y3⟩
    · exact h5 ⟨j, cj, z, y2, y3⟩
  · rcases env_set h with ⟨y, z, _⟩ | ⟨_, z⟩
    · subst y
      obtain ⟨ds', e⟩ := hio ds z.symm
      rw [e] at hi
      exact S.io i ds' hi
    · exact S.io j ds z
/-- an own object is changed -/
theorem Sv.mut (S : Sv K as Z ρ σ B H) {i : Nat} {p : Addr} {o : HO} {c c' : Cell} (hi : ρ[i]? = some c) (hc : VL.own c = true) (hp : σ[i]? = some (some (V.ref p))) (hc' : VL.own c' = true) (hio : ∀ ds, c' = .lst true ds → ∃ ds', c = .lst true ds') (hd : OwnAt K B (upd H p o) p c') (hin : inn c' = inn c := by rfl) :
    Sv K as Z (ρ.set i c') σ B (upd H p o) := S.mutI hi hc hp (.inl hp) hc' hio hd hin
end
end VL
end
section
set_option autoImplicit false
set_option maxRecDepth 100000
set_option maxHeartbeats 2000000
namespace VL
open PySem PySem.Spec PyProof.Rows L2
open Classical in
/-- what stands at W as in H, all else as in B -/
noncomputable def ovl (W : Addr → Prop) (H B : Hp) : Hp := fun a => if W a then H a else B a
theorem ovl_in {W : Addr → Prop} {H B : Hp} {a : Addr} (h : W a) : ovl W H B a = H a := if_pos h
theorem ovl_out {W : Addr → Prop} {H B : Hp} {a : Addr} (h : ¬ W a) : ovl W H B a = B a := if_neg h
/-- B is H without some lists and dicts -/
structure Part (W : Addr → Prop) (H B : Hp) : Prop where
  own : ∀ a, W a → B a = none ∧ ((∃ xs, H a = some (.lst xs)) ∨ (∃ kvs, H a = some (.dK kvs)) ∨ ∃ kvs, H a = some (.dT kvs))
  off : ∀ a, ¬ W a → H a = B a
section
variable {P : Program} {w : World} {W : Addr → Prop} {H B B' : Hp} {h h' : Heap} {fs : List Addr}
theorem Part.no (p : Part W H B) {a : Addr} {o : HO} (e : H a = some o) (n1 : ∀ xs, o ≠ .lst xs) (n2 : ∀ kvs, o ≠ .dK kvs) (n3 : ∀ kvs, o ≠ .dT kvs) : ¬ W a := fun z => by
  rcases (p.own a z).2 with ⟨xs, q⟩ | ⟨kvs, q⟩ | ⟨kvs, q⟩
  · rw [e] at q
    cases q
    exact n1 _ rfl
  · rw [e] at q
    cases q
    exact n2 _ rfl
  · rw [e] at q
    cases q
    exact n3 _ rfl
theorem Part.sub (p : Part W H B) {a : Addr} {o : HO} (e : B a = some o) : H a = some o := by
  rw [p.off a fun z => by rw [(p.own a z).1] at e; cases e]
  exact e
theorem Part.ok (p : Part W H B) (k : HOk P w H h) : HOk P w B h := fun a o e =>
  (k a o (p.sub e)).stay (fun _ _ _ q => q) (fun b q => by rw [← p.off b (p.no q (fun _ z => by cases z) (fun _ z => by cases z) fun _ z => by cases z)]; exact q) fun b xs q => by
    rw [← p.off b (p.no q (fun _ z => by cases z) (fun _ z => by cases z) fun _ z => by cases z)]
    exact q
/-- behind the call: what was not shown stands -/
theorem Part.un (p : Part W H B) (u : Un fs [] B B' h h') (k : HOk P w H h) (k' : HOk P w B' h') (hf : ∀ b ∈ fs, H b = none) : Un fs [] H (ovl W H B') h h' ∧ HOk P w (ovl W H B') h' ∧ ∀ a, W a → B' a = none := by
  have nB : ∀ b, H b = none → B b = none := fun b n => by
    cases e : B b with
    | none => rfl
    | some o =>
      rw [p.sub e] at n
      cases n
  have gone : ∀ a, W a → B' a = none := fun a z => by
    obtain ⟨n, q⟩ := p.own a z
    have lt : a < h.objs.size := by
      rcases q with ⟨xs, q⟩ | ⟨kvs, q⟩ | ⟨kvs, q⟩
      · exact (k a _ q).lt
      · exact (k a _ q).lt
      · exact (k a _ q).lt
    obtain ⟨o, ho⟩ : ∃ o, h.get? a = some o := by
      rcases q with ⟨xs, q⟩ | ⟨kvs, q⟩ | ⟨kvs, q⟩
      · obtain ⟨_, its, m, _, e⟩ := k a _ q
        exact ⟨_, e⟩
      · obtain ⟨_, _, vs, _, o, _, _, e, _⟩ := k a _ q
        exact ⟨_, e⟩
      · obtain ⟨_, _, vs, _, o, _, _, e, _⟩ := k a _ q
        exact ⟨_, e⟩
    exact u.free a o ho n (by simp)
  have nW : ∀ b, H b = none → ¬ W b := fun b n z => by
    rcases (p.own b z).2 with ⟨xs, q⟩ | ⟨kvs, q⟩ | ⟨kvs, q⟩ <;> (rw [n] at q; cases q)
  refine ⟨⟨fun b o e n hb hx => u.keep b o e (nB b n) hb hx, fun b o e n hb hx => u.slot b o e (nB b n) hb hx, fun b o e n hx => ?_, fun b o e hx => u.there b o e hx, fun b xs e => ?_, fun b o v e => ?_, fun b ps e => ?_⟩, fun b o e => ?_, gone⟩
  · rw [ovl_out (nW b n)]
    exact u.free b o e (nB b n) hx
  · have z := p.no e (fun _ z => by cases z) (fun _ z => by cases z) fun _ z => by cases z
    rw [ovl_out z]
    rw [p.off b z] at e
    exact u.tups b xs e
  · have z := p.no e (fun _ z => by cases z) (fun _ z => by cases z) fun _ z => by cases z
    rw [ovl_out z]
    rw [p.off b z] at e
    exact u.frzs b o v e
  · have z := p.no e (fun _ z => by cases z) (fun _ z => by cases z) fun _ z => by cases z
    rw [ovl_out z]
    rw [p.off b z] at e
    exact u.tbls b ps e
  · by_cases z : W b
    · rw [ovl_in z] at e
      obtain ⟨nb, q⟩ := p.own b z
      have nf : b ∉ fs := fun y => by
        rw [hf b y] at e
        cases e
      have kp : ∀ ob, h.get? b = some ob → h'.get? b = some ob := fun ob y => u.keep b ob y nb nf (by simp)
      rcases q with ⟨xs, q⟩ | ⟨kvs, q⟩ | ⟨kvs, q⟩
      · rw [q] at e
        cases e
        obtain ⟨z1, its, m, r, y⟩ := k b _ q
        exact ⟨z1, its, m, r, kp _ y⟩
      · rw [q] at e
        cases e
        obtain ⟨z1, z2, vs, r, ob, es, ep, y, c⟩ := k b _ q
        exact ⟨z1, z2, vs, r, ob, es, ep, kp _ y, c⟩
      · rw [q] at e
        cases e
        obtain ⟨z1, z2, vs, r, ob, es, ep, y, c⟩ := k b _ q
        refine ⟨z1, z2, vs, Paired.mapP r fun _ _ w2 => ⟨w2.1, ?_, w2.2.2⟩, ob, es, ep, kp _ y, c⟩
        have ec := w2.2.1
        have zc := p.no ec (fun _ z => by cases z) (fun _ z => by cases z) fun _ z => by cases z
        rw [ovl_out zc]
        rw [p.off _ zc] at ec
        exact u.tups _ _ ec
    · rw [ovl_out z] at e
      exact (k' b o e).stay (fun _ _ _ q => q) (fun c q => by rw [ovl_out fun y => by rw [gone c y] at q; cases q]; exact q) fun c xs q => by
        rw [ovl_out fun y => by rw [gone c y] at q; cases q]
        exact q
end
section
variable {X : Cx} {k : Nat} {f : Addr} {fd : FuncData} {ps : List Str} {sp : Sp}
/-- a def is run over a part of the heap; no error leaves it -/
theorem run_part {W : Addr → Prop} {H B : Hp} {pins : List (Addr × Obj)} {σ : L2.St} {s : Shared} {Q : VK} {us : List Value} {vs : List V} (F : FnOk X.prog X.w X.K X.mg X.base CX0 k f fd ps sp) (hr : Room k X.A) (hb : Binds X.K fd ps []) (I : Inv X pins σ H s) (p : Part W H B) (r : Vals vs us)
    (h : sp vs B (fun v B' => (∀ a, W a → B' a = none) → Q v (ovl W H B')) E0) : wpAny (model X.prog X.w) X.A (call (.ref f) us) (EP X pins σ Q) X.xe s := by
  have hl : (us ++ []).length = ps.length := by
    rw [List.append_nil, ← r.length]
    exact F.len _ _ _ _ h
  have e0 := I.env0
  have nB : ∀ b, H b = none → B b = none := fun b n => by
    cases e : B b with
    | none => rfl
    | some o =>
      rw [p.sub e] at n
      cases n
  have e1 : Env0 X.prog X.w X.K X.mg X.base X.A X.stack s B := ⟨e0.frames, e0.mod, fun b o e => ⟨(e0.bs b o e).1, nB b (e0.bs b o e).2⟩, e0.bsz, e0.funs, fun b hb => nB b (e0.frf b hb), p.ok e0.hok, e0.bare⟩
  have b1 := hb s us I.kIn hl
  rw [List.append_nil] at b1
  refine wpAny_call (codeAny_mono (F.run X.A X.stack s B ⟨us, []⟩ us vs _ E0 hr e1 b1 r h) fun r s' hq => ?_)
  cases r with
  | error e => exact False.elim hq
  | ok fl =>
    cases fl with
    | ret u =>
      obtain ⟨v, B', os, bare, un, hok, rv, q⟩ := hq
      obtain ⟨u1, u2, u3⟩ := p.un un I.hok hok e0.frf
      exact I.after ⟨v, _, os, bare, u1, u2, rv, q u3⟩
    | next => exact False.elim hq
    | brk => exact False.elim hq
    | cont => exact False.elim hq
/-- f(e, ..), shown a part -/
def tCallP (sp : Sp) (t : TA) : TE := fun σ H Q => t σ H fun vs H1 => ∃ (W : Addr → Prop) (B : Hp), Part W H1 B ∧ sp vs B (fun v B' => (∀ a, W a → B' a = none) → Q v (ovl W H1 B')) E0
theorem pe_callP {x : Str} {p pos : Pos} {e : Expr} {es : List Expr} {t : TA} (F : FnOk X.prog X.w X.K X.mg X.base CX0 k f fd ps sp) (hr : Room k X.A) (hg : Gl X x) (hm : X.mg x = some (.ref f)) (hk : PySem.W.keepIn X.K (.ref f) = true) (hb : Binds X.K fd ps [])
    (ha : PA X (e :: es) t) (hdb : (x == ("__debug__" : Str)) = false := by decide) (he : starEach (e :: es) X.env = (false, eval e X.env) :: starEach es X.env := by rfl) (hpl : (backTo pos (starEach es X.env)).any (·.1) = false := by rfl) :
    PE X (.Call (.Name x p) (e :: es) [] pos) (tCallP sp t) := by
  refine ⟨fun pins s σ H Q I h => ?_⟩
  refine wpAny_Call_Name_kw (ld_glob I hg hm ?_ hdb)
  refine PySem.W.callWith_K (h₀ := X.base) I.ok.mod.kin hk (thn (ha.run pos pins s σ H _ I h) fun us s1 ⟨vs, H1, I1, r, W, B, p, q⟩ => ⟨I1.kIn, ?_⟩) he hpl
  exact run_part F hr hb I1 p r q
end
end VL
end
section
set_option autoImplicit false
set_option maxRecDepth 100000
set_option maxHeartbeats 2000000
namespace VL
open PySem PySem.Spec PyProof.Rows L2
/-- what an expression hands on: data, or the object of the own cell i -/
inductive CV where
  | d (x : D) | loc (i : Nat)
abbrev WE := En → (CV → En → Prop) → Prop
abbrev WT := En → (Bool → En → Prop) → Prop
abbrev WA := En → (List CV → En → Prop) → Prop
abbrev WN := En → (List D → En → Prop) → Prop
def CvOk (K : Fg) (σ : L2.St) (B : Hp) (v : V) : CV → Prop
  | .d x => Dq K B v x
  | .loc i => σ[i]? = some (some v)
def CvsOk (K : Fg) (σ : L2.St) (B : Hp) : List V → List CV → Prop
  | [], [] => True
  | v :: vs, c :: cs => CvOk K σ B v c ∧ CvsOk K σ B vs cs
  | _, _ => False
theorem CvOk.ext {K : Fg} {σ : L2.St} {B B' : Hp} {v : V} (e : ExT B B') : ∀ {c : CV}, CvOk K σ B v c → CvOk K σ B' v c
  | .d _, h => Dq.ext e h
  | .loc _, h => h
theorem CvsOk.ext {K : Fg} {σ : L2.St} {B B' : Hp} (e : ExT B B') : ∀ {vs : List V} {cs : List CV}, CvsOk K σ B vs cs → CvsOk K σ B' vs cs
  | [], [], _ => True.intro
  | _ :: _, _ :: _, h => ⟨h.1.ext e, CvsOk.ext e h.2⟩
  | [], _ :: _, h => h.elim
  | _ :: _, [], h => h.elim
/-- what stands behind it now -/
def der (ρ : En) : CV → Option D
  | .d x => some x
  | .loc i => match ρ[i]? with
    | some (.lst _ ds) => some (.list ds)
    | some (.dat d) => some d
    | _ => none
/-- a value that can be read as the data d: its parts stay -/
inductive Rv (K : Fg) (B H : Hp) : V → D → Prop where
  | dp {v : V} {d : D} (h : Dq K B v d) : Rv K B H v d
  | ls {a : Addr} {xs : List V} {ds : List D} (h : H a = some (.lst xs)) (r : DqAll K B xs ds) : Rv K B H (.ref a) (.list ds)
section
variable {K : Fg} {as : As} {ρ ρ' : En} {σ : L2.St} {Z B B' H H' : Hp} {v : V} {c : CV} {d : D}
theorem rv_of (S : Sv K as Z ρ σ B H) (h : CvOk K σ B v c) (e : der ρ c = some d) : Rv K B H v d := by
  cases c with
  | d x =>
    cases e
    exact .dp h
  | loc i =>
    unfold der at e
    cases q : ρ[i]? with
    | none =>
      simp [q] at e
    | some c =>
      cases c with
      | un => simp [q] at e
      | dic kvs => simp [q] at e
      | dit kvs => simp [q] at e
      | lls qs dss => simp [q] at e
      | dat x =>
        simp [q] at e
        subst e
        obtain ⟨u, h1, h2⟩ := S.dat i x q
        have e2 : some (some u) = some (some v) := h1.symm.trans h
        cases e2
        exact .dp h2
      | lst io ds =>
        simp [q] at e
        subst e
        obtain ⟨p, h1, _, xs, h3, h4⟩ := S.own i _ q rfl
        have e2 : some (some (V.ref p)) = some (some v) := h1.symm.trans h
        cases e2
        exact .ls h3 h4
theorem Rv.dpH (e : ∀ a o, B a = some o → H a = some o) (h : Rv K B H v d) : Dq K H v d := by
  cases h with
  | dp h => exact Dq.ext (.of e) h
  | ls h r => exact .lst (.inl (.inl h)) (DqAll.ext (.of e) r)
theorem Rv.int {i : Int} (h : Rv K B H v (.int i)) : v = .int i := by
  cases h with
  | dp h => cases h; rfl
theorem Rv.bool {b : Bool} (h : Rv K B H v (.bool b)) : v = .bl b := by
  cases h with
  | dp h => cases h; rfl
theorem Rv.str {x : Str} (h : Rv K B H v (.str x)) : v = .str x := by
  cases h with
  | dp h => cases h; rfl
theorem Rv.non (h : Rv K B H v .none) : v = .non := by
  cases h with
  | dp h => cases h; rfl
theorem Rv.list {ds : List D} (e : ∀ a o, B a = some o → H a = some o) (h : Rv K B H v (.list ds)) : ∃ a xs, v = .ref a ∧ SqL K H a xs ∧ DqAll K B xs ds := by
  cases h with
  | dp h =>
    cases h with
    | lst h r => exact ⟨_, _, rfl, sqL_ext (.of e) h, r⟩
  | ls h r => exact ⟨_, _, rfl, .inl (.inl h), r⟩
theorem Rv.tup {ds : List D} (e : ∀ a o, B a = some o → H a = some o) (h : Rv K B H v (.tuple ds)) : ∃ a xs, v = .ref a ∧ SqT K H a xs ∧ DqAll K B xs ds := by
  cases h with
  | dp h =>
    cases h with
    | tup h r => exact ⟨_, _, rfl, sqT_ext (.of e) h, r⟩
end
/-- at most one new object, that stays -/
inductive Al (B H : Hp) : Hp → Hp → Prop where
  | no : Al B H B H
  | new {p : Addr} {o : HO} (h : H p = none) : Al B H (upd B p o) (upd H p o)
section
variable {K : Fg} {as : As} {ρ ρ' : En} {σ : L2.St} {Z B B' H H' : Hp}
theorem Sv.alc (S : Sv K as Z ρ σ B H) (a : Al B H B' H') : Sv K as Z ρ σ B' H' ∧ ExT B B' := by
  cases a with
  | no => exact ⟨S, .refl B⟩
  | new h => exact ⟨S.al h, .new (S.free h)⟩
theorem Sv.subE (S : Sv K as Z ρ σ B H) : ∀ a o, B a = some o → H a = some o := fun _ _ h => S.sub h
end
section
variable (K : Fg) (as : As)
def up (t : WE) : TE := fun σ H Q => ∃ Z ρ B P, Sv K as Z ρ σ B H ∧ t ρ P ∧ ∀ c ρ' v B' H', P c ρ' → ExT B B' → Sv K as Z ρ' σ B' H' → CvOk K σ B' v c → Q v H'
def upT (t : WT) : TT := fun σ H Q => ∃ Z ρ B P, Sv K as Z ρ σ B H ∧ t ρ P ∧ ∀ b ρ' B' H', P b ρ' → ExT B B' → Sv K as Z ρ' σ B' H' → Q b H'
def upA (t : WA) : TA := fun σ H Q => ∃ Z ρ B P, Sv K as Z ρ σ B H ∧ t ρ P ∧ ∀ cs ρ' vs B' H', P cs ρ' → ExT B B' → Sv K as Z ρ' σ B' H' → CvsOk K σ B' vs cs → Q vs H'
/-- a new list, nobody's yet -/
def upN (t : WN) : TE := fun σ H Q => ∃ Z ρ B P, Sv K as Z ρ σ B H ∧ t ρ P ∧ ∀ ds ρ' p xs B' H', P ds ρ' → ExT B B' → Sv K as Z ρ' σ B' H' → H' p = none → DqAll K B' xs ds → Q (.ref p) (upd H' p (.lst xs))
structure WEn where
  nx : En → Prop
  rt : CV → En → Prop
  rn : List D → En → Prop := fun _ _ => False
  bk : En → Prop := fun _ => False
  ct : En → Prop := fun _ => False
  er : Str → D → En → Prop := fun _ _ _ => False
abbrev WS := WEn → En → Prop
structure Meets (Z B : Hp) (w : WEn) (E : Ends) : Prop where
  nx : ∀ ρ σ B' H', w.nx ρ → ExT B B' → Sv K as Z ρ σ B' H' → E.nx σ H'
  rt : ∀ c ρ σ v B' H', w.rt c ρ → ExT B B' → Sv K as Z ρ σ B' H' → CvOk K σ B' v c → E.rt v H'
  rn : ∀ ds ρ σ p xs B' H', w.rn ds ρ → ExT B B' → Sv K as Z ρ σ B' H' → H' p = none → DqAll K B' xs ds → E.rt (.ref p) (upd H' p (.lst xs))
  bk : ∀ ρ σ B' H', w.bk ρ → ExT B B' → Sv K as Z ρ σ B' H' → E.bk σ H'
  ct : ∀ ρ σ B' H', w.ct ρ → ExT B B' → Sv K as Z ρ σ B' H' → E.ct σ H'
  er : ∀ c x ρ σ v B' H', w.er c x ρ → ExT B B' → Sv K as Z ρ σ B' H' → Dq K B' v x → as.2.2 c v σ H'
def upS (t : WS) : TS := fun E σ H => ∃ Z ρ B w, Sv K as Z ρ σ B H ∧ t w ρ ∧ Meets K as Z B w E
end
theorem Meets.ext {K : Fg} {as : As} {Z B B' : Hp} {w : WEn} {E : Ends} (m : Meets K as Z B w E) (e : ExT B B') : Meets K as Z B' w E where
  nx := fun ρ σ B2 H h x => m.nx ρ σ B2 H h (e.trans x)
  rt := fun c ρ σ v B2 H h x => m.rt c ρ σ v B2 H h (e.trans x)
  rn := fun ds ρ σ p xs B2 H h x => m.rn ds ρ σ p xs B2 H h (e.trans x)
  bk := fun ρ σ B2 H h x => m.bk ρ σ B2 H h (e.trans x)
  ct := fun ρ σ B2 H h x => m.ct ρ σ B2 H h (e.trans x)
  er := fun c y ρ σ v B2 H h x => m.er c y ρ σ v B2 H h (e.trans x)
section
variable {X : Cx} {e : Expr} {st : Stmt} {sts : List Stmt}
theorem pe_imp {t u : TE} (h : PE X e t) (i : ∀ σ H Q, u σ H Q → t σ H Q) : PE X e u := ⟨fun pins s σ H Q I q => h.run pins s σ H Q I (i σ H Q q)⟩
theorem pt_imp {t u : TT} (h : PT X e t) (i : ∀ σ H Q, u σ H Q → t σ H Q) : PT X e u := ⟨fun pins s σ H Q I q => h.run pins s σ H Q I (i σ H Q q)⟩
theorem pw_imp {t u : TT} (h : L2.PW X e t) (i : ∀ σ H Q, u σ H Q → t σ H Q) : L2.PW X e u := ⟨fun wh pins s σ H Q I q => h.run wh pins s σ H Q I (i σ H Q q)⟩
theorem pa_imp {es : List Expr} {t u : TA} (h : PA X es t) (i : ∀ σ H Q, u σ H Q → t σ H Q) : PA X es u := ⟨fun pos pins s σ H Q I q => h.run pos pins s σ H Q I (i σ H Q q)⟩
theorem ps_imp {t u : TS} (h : PS X st t) (i : ∀ D σ H, u D σ H → t D σ H) : PS X st u := ⟨fun pins s σ H D I q => h.run pins s σ H D I (i D σ H q)⟩
theorem pss_imp {t u : TS} (h : PSs X sts t) (i : ∀ D σ H, u D σ H → t D σ H) : PSs X sts u := ⟨fun pins s σ H D I q => h.run pins s σ H D I (i D σ H q)⟩
end
end VL
end
section
set_option autoImplicit false
set_option maxRecDepth 100000
set_option maxHeartbeats 2000000
namespace VL
open PySem PySem.Spec PyProof.Rows L2
def ror (r q : R2) : R2 := fun x y H Q => r x y H Q ∨ q x y H Q
theorem op_or {X : Cx} {f : Value → Value → Sem Value} {r q : R2} (a : OpR X f r) (b : OpR X f q) : OpR X f (ror r q) := fun pins s σ H x y v u Q I rx ry h =>
  h.elim (a pins s σ H x y v u Q I rx ry) (b pins s σ H x y v u Q I rx ry)
abbrev DO := D → D → (D → Prop) → Prop
abbrev DC := List D → (D → Prop) → Prop
def OpV (K : Fg) (r : R2) (o : DO) : Prop := ∀ (B H : Hp) (x y : V) (dx dy : D) (P : D → Prop) (Q : VK), (∀ a u, B a = some u → H a = some u) → Rv K B H x dx → Rv K B H y dy → o dx dy P →
  (∀ d v B' H', P d → Al B H B' H' → Dq K B' v d → Q v H') → r x y H Q
section
variable {X : Cx}
open PySem.AutoSeq1 PySem.MeetsSeq in
theorem list_add_any (l : Addr) (items : Array Value) (n : Nat) (sl : Array (Option Value)) (b : Addr) (items2 : Array Value) (n2 : Nat) (sl2 : Array (Option Value)) (hc0 : items.size + items2.size ≤ sizeLine) :
    PySem.Meets (Builtin.«list.__add__» ⟨[.ref l, .ref b], []⟩) (fun _ R s => s.heap.get? l = some { cls := .type "list", dict := none, data := .seq items n, slots := sl } ∧ s.heap.get? b = some { cls := .type "list", dict := none, data := .seq items2 n2, slots := sl2 } ∧ R (.ok (.ret (Value.ref s.heap.objs.size))) { s with heap := s.heap.push { cls := Value.type "list", data := Data.seq (items ++ items2) }, toks := s.toks }) :=
  .of_wp fun prog w A R s h => by obtain ⟨hp, g, d, tk, os⟩ := s; obtain ⟨hl, hb, h⟩ := h; have f1 := idx_int; have f2 := PySem.AutoSeq1.sub_tuple_tuple; have f3 := PySem.AutoSeq1.sub_list_list; have f4 := PySem.AutoSeq1.sub_tuple_list; have f5 := PySem.AutoSeq1.sub_list_tuple; wp_walk using wpAny_loadPart' hl, wpAny_loadPart' hb; exact ⟨_, rfl, h⟩
theorem rd_obj {H : Hp} {pins : List (Addr × Obj)} {σ : L2.St} {s : Shared} {l : Addr} {xs : List V} (I : Inv X pins σ H s) (h : SqL X.K H l xs) : ∃ (its : List Value) (n : Nat) (sl : Array (Option Value)), Vals xs its ∧ xs.length = its.length ∧ s.heap.get? l = some { cls := .type "list", dict := none, data := .seq its.toArray n, slots := sl } ∧ xs.length ≤ sizeLine := by
  obtain ⟨its, r, ⟨⟨c, d, da, sl⟩, n, e, h1, h2, h3⟩, z⟩ := I.list h
  simp only at h1 h2 h3
  subst h1 h2 h3
  exact ⟨its, n, sl, r, r.length, e, z⟩
/-- list + list -/
def rCatR (K : Fg) : R2 := fun x y H Q => ∃ l b xs zs, x = .ref l ∧ y = .ref b ∧ SqL K H l xs ∧ SqL K H b zs ∧ xs.length + zs.length ≤ sizeLine ∧ ∀ p, H p = none → Q (.ref p) (upd H p (.lst (xs ++ zs)))
theorem op_catR : OpR X (binaryOp .Add) (rCatR X.K) := by
  intro pins s σ H x y v u Q I rx ry h
  obtain ⟨l, b, xs, zs, rfl, rfl, hH, hB, hz, q⟩ := h
  cases rx
  cases ry
  obtain ⟨its, n, sl, r, hl, e, _⟩ := rd_obj I hH
  obtain ⟨its2, n2, sl2, r2, hl2, e2, _⟩ := rd_obj I hB
  have z : its.toArray.size + its2.toArray.size ≤ sizeLine := by
    rw [List.size_toArray, List.size_toArray, ← hl, ← hl2]
    exact hz
  refine concat_meets ⟨_, e, rfl⟩ ⟨_, e2, rfl⟩ noFill_list_add seq_list_add PySem.F.slot_list_add PySem.F.entry_list_add (PySem.F.args_list_add_2 _ _) (list_add_any l its.toArray n sl b its2.toArray n2 sl2 z) ⟨e, e2, ?_⟩
  have ea : its.toArray ++ its2.toArray = (its ++ its2).toArray := by simp
  rw [ea]
  exact ⟨.ref _, _, I.lnew (t' := s.toks) (r.append r2) (by rw [List.length_append]; exact hz), rfl, q _ I.fresh⟩
end
def oAdd : DO := fun x y P => match x, y with
  | .int i, .int j => P (.int (i + j))
  | .str a, .str b => a.length + b.length ≤ sizeLine ∧ P (.str (a ++ b))
  | .list a, .list b => a.length + b.length ≤ sizeLine ∧ P (.list (a ++ b))
  | .tuple a, .tuple b => a.length + b.length ≤ sizeLine ∧ P (.tuple (a ++ b))
  | _, _ => False
def rStrA : R2 := fun x y H Q => ∃ i j, x = .str i ∧ y = .str j ∧ i.length + j.length ≤ sizeLine ∧ Q (.str (i ++ j)) H
def rAdd (K : Fg) : R2 := ror (rI0 fun i j => .int (i + j)) (ror rStrA (ror (rCatR K) (rCatA K)))
theorem op_add' {X : Cx} : OpR X (binaryOp .Add) (rAdd X.K) := op_or op_add (op_or op_add_str (op_or op_catR op_catA))
theorem opv_add {K : Fg} : OpV K (rAdd K) oAdd := by
  intro B H x y dx dy P Q e a b c k
  cases dx <;> cases dy <;> (try (exact (show False from c).elim))
  · rename_i i j
    cases a.int
    cases b.int
    exact .inl ⟨i, j, rfl, rfl, k _ _ _ _ c .no (.int _)⟩
  · rename_i i j
    cases a.str
    cases b.str
    exact .inr (.inl ⟨i, j, rfl, rfl, c.1, k _ _ _ _ c.2 .no (.str _)⟩)
  · rename_i ds es
    obtain ⟨l, xs, rfl, h1, r1⟩ := a.list e
    obtain ⟨m, ys, rfl, h2, r2⟩ := b.list e
    have l1 := r1.len
    have l2 := r2.len
    have z := c.1
    exact .inr (.inr (.inl ⟨l, m, xs, ys, rfl, rfl, h1, h2, by omega, fun p hp => k _ _ _ _ c.2 (.new hp) (.lst (.inl (.inl upd_same)) (DqAll.ext (.of fun u w q => by
      by_cases n : B p = none
      · rw [upd_ne (ne_of_none q n)]
        exact q
      · cases z : B p with
        | none => exact (n z).elim
        | some o =>
          have := e p o z
          rw [hp] at this
          cases this) (DqAll.app r1 r2)))⟩))
  · rename_i ds es
    obtain ⟨l, xs, rfl, h1, r1⟩ := a.tup e
    obtain ⟨m, ys, rfl, h2, r2⟩ := b.tup e
    have l1 := r1.len
    have l2 := r2.len
    have z := c.1
    have ext : ∀ p o, H p = none → ExT B (upd B p o) := fun p o hp => .new (by
      cases z : B p with
      | none => rfl
      | some o =>
        have := e p o z
        rw [hp] at this
        cases this)
    refine .inr (.inr (.inr ⟨l, m, xs, ys, rfl, rfl, h1, h2, by omega, fun z => ?_, fun _ z => ?_, fun _ _ p hp => ?_⟩))
    · subst z
      cases r1
      cases b with
      | dp h => exact k _ _ _ _ c.2 .no h
    · subst z
      cases r2
      cases a with
      | dp h => exact k _ _ _ _ (by rw [← List.append_nil ds]; exact c.2) .no h
    · exact k _ _ _ _ c.2 (.new hp) (.tup upd_same (DqAll.ext (ext p _ hp) (DqAll.app r1 r2)))
def oI (C : Int → Int → Prop) (g : Int → Int → D) : DO := fun x y P => match x, y with
  | .int i, .int j => C i j ∧ P (g i j)
  | _, _ => False
def oI0 (g : Int → Int → D) : DO := fun x y P => match x, y with
  | .int i, .int j => P (g i j)
  | _, _ => False
theorem opv_I0 {K : Fg} {g : Int → Int → V} {gd : Int → Int → D} (hg : ∀ B i j, Dq K B (g i j) (gd i j)) : OpV K (rI0 g) (oI0 gd) := by
  intro B H x y dx dy P Q e a b c k
  cases dx <;> cases dy <;> (try (exact (show False from c).elim))
  rename_i i j
  cases a.int
  cases b.int
  exact ⟨i, j, rfl, rfl, k _ _ _ _ c .no (hg B i j)⟩
theorem opv_I {K : Fg} {C : Int → Int → Prop} {g : Int → Int → V} {gd : Int → Int → D} (hg : ∀ B i j, Dq K B (g i j) (gd i j)) : OpV K (rI C g) (oI C gd) := by
  intro B H x y dx dy P Q e a b c k
  cases dx <;> cases dy <;> (try (exact (show False from c).elim))
  rename_i i j
  cases a.int
  cases b.int
  exact ⟨i, j, rfl, rfl, c.1, k _ _ _ _ c.2 .no (hg B i j)⟩
abbrev oSub : DO := oI0 fun i j => .int (i - j)
def COk (i j : Int) : Prop := CMul i j ∨ CMulW i j
abbrev oMul : DO := oI COk fun i j => .int (i * j)
def CDv (i j : Int) : Prop := CDivN i j ∨ CDivW i j
abbrev oFdiv : DO := oI CDv fun i j => .int (i.fdiv j)
abbrev oMod : DO := oI (fun _ j => j ≠ 0) fun i j => .int (i.fmod j)
abbrev oPow : DO := oI CPow fun i j => .int (i ^ j.toNat)
section
variable {X : Cx}
theorem op_mul' : OpR X (binaryOp .Mult) (rI COk fun i j => .int (i * j)) := fun pins s σ H x y v u Q I rx ry ⟨i, j, h1, h2, c, q⟩ =>
  c.elim (fun c => op_mul pins s σ H x y v u Q I rx ry ⟨i, j, h1, h2, c, q⟩) fun c => op_mulW pins s σ H x y v u Q I rx ry ⟨i, j, h1, h2, c, q⟩
theorem op_fdiv' : OpR X (binaryOp .FloorDiv) (rI CDv fun i j => .int (i.fdiv j)) := fun pins s σ H x y v u Q I rx ry ⟨i, j, h1, h2, c, q⟩ =>
  c.elim (fun c => op_fdivN pins s σ H x y v u Q I rx ry ⟨i, j, h1, h2, c, q⟩) fun c => op_fdivW pins s σ H x y v u Q I rx ry ⟨i, j, h1, h2, c, by
    show Q (.int (i / j)) H
    rw [← Int.fdiv_eq_ediv_of_nonneg i (Int.le_of_lt c.1)]
    exact q⟩
end
def shp (d : D) : Bool := SeqAt.shaped d
def oEq : DO := fun x y P => shp x = true ∧ shp y = true ∧ P (.bool (PyData.eqv x y))
def oNe : DO := fun x y P => shp x = true ∧ shp y = true ∧ P (.bool (!PyData.eqv x y))
theorem opv_eq {K : Fg} : OpV K (rEqD K) oEq := fun B H x y dx dy P Q e a b c k => ⟨dx, dy, (a.dpH e).dp (SeqAt.canLay_of_shaped c.1), (b.dpH e).dp (SeqAt.canLay_of_shaped c.2.1), c.1, c.2.1, k _ _ _ _ c.2.2 .no (.bl _)⟩
theorem opv_ne {K : Fg} : OpV K (rNeD K) oNe := fun B H x y dx dy P Q e a b c k => ⟨dx, dy, (a.dpH e).dp (SeqAt.canLay_of_shaped c.1), (b.dpH e).dp (SeqAt.canLay_of_shaped c.2.1), c.1, c.2.1, k _ _ _ _ c.2.2 .no (.bl _)⟩
abbrev oLt : DO := oI0 fun i j => .bool (decide (i < j))
abbrev oLe : DO := oI0 fun i j => .bool (decide (i ≤ j))
abbrev oGt : DO := oI0 fun i j => .bool (decide (j < i))
abbrev oGe : DO := oI0 fun i j => .bool (decide (j ≤ i))
/-- x is None -/
def isN : D → Bool
  | .none => true
  | _ => false
def oIsN (neg : Bool) : DO := fun x y P => match y with
  | .none => P (.bool (if neg then !isN x else isN x))
  | _ => False
theorem isN_dec {K : Fg} {B H : Hp} {v : V} {d : D} (h : Rv K B H v d) : decide (v = .non) = isN d := by
  cases h with
  | dp h => cases h <;> rfl
  | ls h r => rfl
theorem opv_isN {K : Fg} : OpV K (fun x y H Q => y = .non ∧ Q (.bl (decide (x = .non))) H) (oIsN false) := by
  intro B H x y dx dy P Q e a b c k
  cases dy <;> (try (exact (show False from c).elim))
  exact ⟨b.non, by rw [isN_dec a]; exact k _ _ _ _ c .no (.bl _)⟩
def itemD : DO := fun x y P => match x, y with
  | .list ds, .int i => ∃ d, atI ds i = some d ∧ P d
  | .tuple ds, .int i => ∃ d, atI ds i = some d ∧ P d
  | .str z, .int i => ∃ c, z.length ≤ sizeLine ∧ atI z.cps.toList i = some c ∧ P (.str ⟨#[c]⟩)
  | _, _ => False
theorem atI_all {K : Fg} {B : Hp} {xs : List V} {ds : List D} (r : DqAll K B xs ds) {i : Int} {d : D} (h : atI ds i = some d) : ∃ v, atI xs i = some v ∧ Dq K B v d := by
  unfold atI at h ⊢
  rw [r.len]
  cases e : ixN ds.length i with
  | none =>
    rw [e] at h
    cases h
  | some j =>
    rw [e] at h
    exact r.get (show ds[j]? = some d from h)
theorem opv_ix {K : Fg} : OpV K (rIx K) itemD := by
  intro B H x y dx dy P Q e a b c k
  cases dx <;> cases dy <;> (try (exact (show False from c).elim))
  · rename_i z i
    cases a.str
    cases b.int
    obtain ⟨q, h1, h2, h3⟩ := c
    exact .inr (.inr ⟨z, i, q, rfl, rfl, h1, h2, k _ _ _ _ h3 .no (.str _)⟩)
  · rename_i ds i
    cases b.int
    obtain ⟨l, xs, rfl, h1, r1⟩ := a.list e
    obtain ⟨d, h2, h3⟩ := c
    obtain ⟨v, h4, h5⟩ := atI_all r1 h2
    exact .inl ⟨l, xs, i, v, rfl, rfl, h1, h4, k _ _ _ _ h3 .no h5⟩
  · rename_i ds i
    cases b.int
    obtain ⟨l, xs, rfl, h1, r1⟩ := a.tup e
    obtain ⟨d, h2, h3⟩ := c
    obtain ⟨v, h4, h5⟩ := atI_all r1 h2
    exact .inr (.inl ⟨l, xs, i, v, rfl, rfl, h1, h4, k _ _ _ _ h3 .no h5⟩)
end VL
end
section
set_option autoImplicit false
set_option maxRecDepth 100000
set_option maxHeartbeats 2000000
namespace VL
open PySem PySem.Spec PyProof.Rows L2
section
variable {X : Cx} {as : As} {a b c e : Expr} {es : List Expr} {t u : WE} {pos : Pos}
theorem cvs_one {K : Fg} {σ : L2.St} {B : Hp} {vs : List V} {c : CV} (h : CvsOk K σ B vs [c]) : ∃ v, vs = [v] ∧ CvOk K σ B v c := by
  cases vs with
  | nil => exact h.elim
  | cons v r =>
    cases r with
    | nil => exact ⟨v, rfl, h.1⟩
    | cons v2 r2 => exact h.2.elim
def wVar (i : Nat) : WE := fun ρ P => match ρ[i]? with
  | some (.dat d) => P (.d d) ρ
  | some (.lst _ _) => P (.loc i) ρ
  | some (.dic _) => P (.loc i) ρ
  | some (.dit _) => P (.loc i) ρ
  | some (.lls _ _) => P (.loc i) ρ
  | _ => False
theorem vv (i : Nat) {x : Str} (hN : X.N[i]? = some x := by rfl) (hv : Vis X.env.scope x := by first | exact Or.inl rfl | exact Or.inr (Or.inl rfl) | exact Or.inr (Or.inr rfl)) (hd : (x == ("__debug__" : Str)) = false := by decide)
    (hcd : (x == ("__classdict__" : Str)) = false := by decide) : PE X (.Name x pos) (up X.K as (wVar i)) := by
  refine pe_imp (pe_var hN hv hd hcd) fun σ H Q ⟨Z, ρ, B, P, S, h, k⟩ => ?_
  unfold wVar at h
  cases q : ρ[i]? with
  | none => simp [q] at h
  | some c =>
    cases c with
    | un => simp [q] at h
    | dat d =>
      simp [q] at h
      obtain ⟨v, h1, h2⟩ := S.dat i d q
      exact ⟨v, h1, k _ _ v B H h (.refl B) S h2⟩
    | lst io ds =>
      simp [q] at h
      obtain ⟨p, h1, _⟩ := S.own i _ q rfl
      exact ⟨_, h1, k _ _ _ B H h (.refl B) S h1⟩
    | dic kvs =>
      simp [q] at h
      obtain ⟨p, h1, _⟩ := S.own i _ q rfl
      exact ⟨_, h1, k _ _ _ B H h (.refl B) S h1⟩
    | dit kvs =>
      simp [q] at h
      obtain ⟨p, h1, _⟩ := S.own i _ q rfl
      exact ⟨_, h1, k _ _ _ B H h (.refl B) S h1⟩
    | lls qs dss =>
      simp [q] at h
      obtain ⟨p, h1, _⟩ := S.own i _ q rfl
      exact ⟨_, h1, k _ _ _ B H h (.refl B) S h1⟩
def wC (d : D) : WE := fun ρ P => P (.d d) ρ
theorem vC {v : V} {d : D} (h : PE X e (tC v)) (hd : ∀ B, Dq X.K B v d) : PE X e (up X.K as (wC d)) :=
  pe_imp h fun σ H Q ⟨Z, ρ, B, P, S, h, k⟩ => k _ _ v B H h (.refl B) S (hd B)
theorem vint {i : Int} {j : Nat} : PE X (.Constant (.int i) j pos) (up X.K as (wC (.int i))) := vC pe_int fun _ => .int i
theorem vbl {i : Bool} {j : Nat} : PE X (.Constant (.bool i) j pos) (up X.K as (wC (.bool i))) := vC pe_bl fun _ => .bl i
theorem vnon {j : Nat} : PE X (.Constant .none j pos) (up X.K as (wC .none)) := vC pe_non fun _ => .non
theorem vstr {x : Str} {j : Nat} : PE X (.Constant (.str x) j pos) (up X.K as (wC (.str x))) := vC pe_str fun _ => .str x
def wOp (o : DO) (t u : WE) : WE := fun ρ P => t ρ fun c1 ρ1 => u ρ1 fun c2 ρ2 => ∃ x y, der ρ2 c1 = some x ∧ der ρ2 c2 = some y ∧ o x y fun d => P (.d d) ρ2
theorem up_op {K : Fg} {r : R2} {o : DO} (hv : OpV K r o) {σ : L2.St} {H : Hp} {Q : VK} (h : up K as (wOp o t u) σ H Q) : tOp r (up K as t) (up K as u) σ H Q := by
  obtain ⟨Z, ρ, B, P, S, h, k⟩ := h
  refine ⟨Z, ρ, B, _, S, h, fun c1 ρ1 v1 B1 H1 h1 x1 S1 o1 => ?_⟩
  refine ⟨Z, ρ1, B1, _, S1, h1, fun c2 ρ2 v2 B2 H2 h2 x2 S2 o2 => ?_⟩
  obtain ⟨x, y, e1, e2, h3⟩ := h2
  refine hv B2 H2 v1 v2 x y _ Q S2.subE (rv_of S2 (o1.ext x2) e1) (rv_of S2 o2 e2) h3 fun d v B' H' p al hd => ?_
  obtain ⟨S3, x3⟩ := S2.alc al
  exact k _ _ v B' H' p ((x1.trans x2).trans x3) S3 hd
theorem vop {op : Operator} {r : R2} {o : DO} (ho : OpR X (binaryOp op) r) (hv : OpV X.K r o) (ha : PE X a (up X.K as t)) (hb : PE X b (up X.K as u)) : PE X (.BinOp a op b pos) (up X.K as (wOp o t u)) :=
  pe_imp (pe_op ho ha hb) fun _ _ _ h => up_op hv h
theorem vcmp {op : CmpOp} {r : R2} {o : DO} (ho : OpR X (compareOp op) r) (hv : OpV X.K r o) (ha : PE X a (up X.K as t)) (hb : PE X b (up X.K as u)) (hm : behindInMarks op b = false := by first | exact nomark _ | with_unfolding_all rfl) : PE X (.Compare a [op] [b] pos) (up X.K as (wOp o t u)) :=
  pe_imp (pe_cmpR ho ha hb hm) fun _ _ _ h => up_op hv h
def wTest (t : WE) : WT := fun ρ P => t ρ fun c ρ' => match c with
  | .d (.bool k) => P k ρ'
  | _ => False
theorem tcmp {op : CmpOp} {r : R2} {o : DO} (ho : OpR X (compareOp op) r) (hv : OpV X.K r o) (ha : PE X a (up X.K as t)) (hb : PE X b (up X.K as u)) (hm : behindInMarks op b = false := by first | exact nomark _ | with_unfolding_all rfl) : PT X (.Compare a [op] [b] pos) (upT X.K as (wTest (wOp o t u))) := by
  refine pt_imp (pt_cmpR ho ha hb hm) fun σ H Q ⟨Z, ρ, B, P, S, h, k⟩ => up_op hv ⟨Z, ρ, B, _, S, h, fun c ρ' v B' H' h1 x S' o1 => ?_⟩
  cases c with
  | loc i => exact h1.elim
  | d y =>
    cases y <;> (try (exact (show False from h1).elim))
    rename_i k2
    cases o1
    exact ⟨k2, rfl, k _ _ B' H' h1 x S'⟩
theorem tval (h : PE X e (up X.K as t)) (he : ∀ whole, PySem.isTrue e X.env whole = (do
    let v ← whole
    standAt e.pos
    holding [v] (truthy v)) := by intro _; rfl) : PT X e (upT X.K as (wTest t)) := by
  refine pt_imp (pt_val h he) fun σ H Q ⟨Z, ρ, B, P, S, h, k⟩ => ⟨Z, ρ, B, _, S, h, fun c ρ' v B' H' h1 x S' o1 => ?_⟩
  cases c with
  | loc i => exact h1.elim
  | d y =>
    cases y <;> (try (exact (show False from h1).elim))
    rename_i k2
    cases o1
    exact ⟨k2, rfl, k _ _ B' H' h1 x S'⟩
def wNotT (t : WT) : WT := fun ρ P => t ρ fun b ρ' => P (!b) ρ'
def wAndT (t u : WT) : WT := fun ρ P => t ρ fun b ρ' => if b = true then u ρ' P else P false ρ'
def wOrT (t u : WT) : WT := fun ρ P => t ρ fun b ρ' => if b = true then P true ρ' else u ρ' P
theorem tnot {t : WT} (h : PT X e (upT X.K as t)) : PT X (.UnaryOp .Not e pos) (upT X.K as (wNotT t)) :=
  pt_imp (pt_not h) fun σ H Q ⟨Z, ρ, B, P, S, h, k⟩ => ⟨Z, ρ, B, _, S, h, fun b ρ' B' H' h1 x S' => k _ _ B' H' h1 x S'⟩
theorem up_and {K : Fg} {t u : WT} {σ : L2.St} {H : Hp} {Q : Bool → Hp → Prop} (h : upT K as (wAndT t u) σ H Q) : tAnd (upT K as t) (upT K as u) σ H Q := by
  obtain ⟨Z, ρ, B, P, S, h, k⟩ := h
  refine ⟨Z, ρ, B, _, S, h, fun b ρ' B' H' h1 x S' => ?_⟩
  cases b with
  | true =>
    rw [if_pos rfl] at h1 ⊢
    exact ⟨Z, ρ', B', P, S', h1, fun b ρ2 B2 H2 p x2 S2 => k b ρ2 B2 H2 p (x.trans x2) S2⟩
  | false =>
    rw [if_neg Bool.false_ne_true] at h1 ⊢
    exact k _ _ B' H' h1 x S'
theorem up_or {K : Fg} {t u : WT} {σ : L2.St} {H : Hp} {Q : Bool → Hp → Prop} (h : upT K as (wOrT t u) σ H Q) : tOr (upT K as t) (upT K as u) σ H Q := by
  obtain ⟨Z, ρ, B, P, S, h, k⟩ := h
  refine ⟨Z, ρ, B, _, S, h, fun b ρ' B' H' h1 x S' => ?_⟩
  cases b with
  | false =>
    rw [if_neg Bool.false_ne_true] at h1 ⊢
    exact ⟨Z, ρ', B', P, S', h1, fun b ρ2 B2 H2 p x2 S2 => k b ρ2 B2 H2 p (x.trans x2) S2⟩
  | true =>
    rw [if_pos rfl] at h1 ⊢
    exact k _ _ B' H' h1 x S'
theorem wand1 {t : WT} (h : PT X e (upT X.K as t)) : L2.PW X (.BoolOp .And [e] pos) (upT X.K as t) := pw_and1 h
theorem wor1 {t : WT} (h : PT X e (upT X.K as t)) : L2.PW X (.BoolOp .Or [e] pos) (upT X.K as t) := pw_or1 h
theorem wand {t u : WT} (h : PT X e (upT X.K as t)) (h2 : L2.PW X (.BoolOp .And (b :: es) pos) (upT X.K as u)) : L2.PW X (.BoolOp .And (e :: b :: es) pos) (upT X.K as (wAndT t u)) := pw_imp (pw_and h h2) fun _ _ _ h => up_and h
theorem wor {t u : WT} (h : PT X e (upT X.K as t)) (h2 : L2.PW X (.BoolOp .Or (b :: es) pos) (upT X.K as u)) : L2.PW X (.BoolOp .Or (e :: b :: es) pos) (upT X.K as (wOrT t u)) := pw_imp (pw_or h h2) fun _ _ _ h => up_or h
def wAnd (t u : WE) : WE := fun ρ P => t ρ fun c ρ' => match c with
  | .d (.bool k) => if k = true then u ρ' P else P (.d (.bool false)) ρ'
  | _ => False
def wOr (t u : WE) : WE := fun ρ P => t ρ fun c ρ' => match c with
  | .d (.bool k) => if k = true then P (.d (.bool true)) ρ' else u ρ' P
  | _ => False
def wNot (t : WE) : WE := fun ρ P => t ρ fun c ρ' => match c with
  | .d (.bool k) => P (.d (.bool (!k))) ρ'
  | _ => False
theorem up_andV {K : Fg} {σ : L2.St} {H : Hp} {Q : VK} (h : up K as (wAnd t u) σ H Q) : tAndV (up K as t) (up K as u) σ H Q := by
  obtain ⟨Z, ρ, B, P, S, h, k⟩ := h
  refine ⟨Z, ρ, B, _, S, h, fun c ρ' v B' H' h1 x S' o1 => ?_⟩
  cases c with
  | loc i => exact h1.elim
  | d y =>
    cases y <;> (try (exact (show False from h1).elim))
    rename_i k2
    cases o1
    refine ⟨k2, rfl, ?_⟩
    cases k2 with
    | true =>
      rw [if_pos rfl]
      exact ⟨Z, ρ', B', P, S', h1, fun b ρ2 v2 B2 H2 p x2 S2 => k b ρ2 v2 B2 H2 p (x.trans x2) S2⟩
    | false =>
      rw [if_neg Bool.false_ne_true]
      exact k _ _ _ B' H' h1 x S' (.bl false)
theorem vnot (h : PE X e (up X.K as t)) : PE X (.UnaryOp .Not e pos) (up X.K as (wNot t)) := by
  refine pe_imp (pe_not h) fun σ H Q ⟨Z, ρ, B, P, S, h, k⟩ => ⟨Z, ρ, B, _, S, h, fun c ρ' v B' H' h1 x S' o1 => ?_⟩
  cases c with
  | loc i => exact h1.elim
  | d y =>
    cases y <;> (try (exact (show False from h1).elim))
    rename_i k2
    cases o1
    exact ⟨k2, rfl, k _ _ _ B' H' h1 x S' (.bl _)⟩
def wIf (c : WT) (t u : WE) : WE := fun ρ P => c ρ fun b ρ' => if b = true then t ρ' P else u ρ' P
theorem vif {c : WT} {ec : Expr} (hc : PT X ec (upT X.K as c)) (ha : PE X a (up X.K as t)) (hb : PE X b (up X.K as u)) : PE X (.IfExp ec a b pos) (up X.K as (wIf c t u)) := by
  refine pe_imp (pe_ifExp hc ha hb) fun σ H Q ⟨Z, ρ, B, P, S, h, k⟩ => ⟨Z, ρ, B, _, S, h, fun b ρ' B' H' h1 x S' => ?_⟩
  cases b with
  | true =>
    rw [if_pos rfl] at h1 ⊢
    exact ⟨Z, ρ', B', P, S', h1, fun b ρ2 v2 B2 H2 p x2 S2 => k b ρ2 v2 B2 H2 p (x.trans x2) S2⟩
  | false =>
    rw [if_neg Bool.false_ne_true] at h1 ⊢
    exact ⟨Z, ρ', B', P, S', h1, fun b ρ2 v2 B2 H2 p x2 S2 => k b ρ2 v2 B2 H2 p (x.trans x2) S2⟩
def wNil : WA := fun ρ P => P [] ρ
def wCons (t : WE) (r : WA) : WA := fun ρ P => t ρ fun c ρ1 => r ρ1 fun cs ρ2 => P (c :: cs) ρ2
theorem anil : PA X [] (upA X.K as wNil) := pa_imp pa_nil fun σ H Q ⟨Z, ρ, B, P, S, h, k⟩ => k _ _ [] B H h (.refl B) S True.intro
theorem acons {r : WA} (ha : PE X e (up X.K as t)) (hr : PA X es (upA X.K as r)) (he : starEach (e :: es) X.env = (false, eval e X.env) :: starEach es X.env := by rfl) : PA X (e :: es) (upA X.K as (wCons t r)) := by
  refine pa_imp (pa_cons ha hr he) fun σ H Q ⟨Z, ρ, B, P, S, h, k⟩ => ⟨Z, ρ, B, _, S, h, fun c ρ1 v B1 H1 h1 x1 S1 o1 => ⟨Z, ρ1, B1, _, S1, h1, fun cs ρ2 vs B2 H2 h2 x2 S2 o2 => ?_⟩⟩
  exact k _ _ (v :: vs) B2 H2 h2 (x1.trans x2) S2 ⟨o1.ext x2, o2⟩
/-- all are data -/
def dats : List CV → Option (List D)
  | [] => some []
  | .d x :: r => (dats r).map (x :: ·)
  | .loc _ :: _ => none
theorem dats_ok {K : Fg} {σ : L2.St} {B : Hp} : ∀ {vs : List V} {cs : List CV} {ds : List D}, CvsOk K σ B vs cs → dats cs = some ds → DqAll K B vs ds
  | [], [], _, _, e => by
    cases e
    exact .nil
  | v :: vs, .d x :: cs, ds, h, e => by
    unfold dats at e
    cases q : dats cs with
    | none =>
      rw [q] at e
      cases e
    | some es =>
      rw [q] at e
      cases e
      exact .cons h.1 (dats_ok h.2 q)
  | _ :: _, .loc _ :: _, _, _, e => by cases e
  | [], _ :: _, _, h, _ => h.elim
  | _ :: _, [], _, h, _ => h.elim
def wTup (r : WA) : WE := fun ρ P => r ρ fun cs ρ' => ∃ ds, dats cs = some ds ∧ ds.length ≤ sizeLine ∧ P (.d (.tuple ds)) ρ'
def wLst (r : WA) : WN := fun ρ P => r ρ fun cs ρ' => ∃ ds, dats cs = some ds ∧ ds.length ≤ sizeLine ∧ P ds ρ'
theorem vtup {r : WA} {x1 : _} (h : PA X es (upA X.K as r)) : PE X (.Tuple es x1 pos) (up X.K as (wTup r)) := by
  refine pe_imp (pe_tup h) fun σ H Q ⟨Z, ρ, B, P, S, h, k⟩ => ⟨Z, ρ, B, _, S, h, fun cs ρ' vs B' H' h1 x S' o1 => ?_⟩
  obtain ⟨ds, e, z, q⟩ := h1
  have r := dats_ok o1 e
  have rl := r.len
  refine ⟨by omega, fun p hp => ?_⟩
  exact k _ _ _ _ _ q (x.trans (.new (S'.free hp))) (S'.al hp) (.tup upd_same (DqAll.ext (.new (S'.free hp)) r))
theorem vlst {r : WA} (h : PA X es (upA X.K as r)) : PE X (.List es pos) (upN X.K as (wLst r)) := by
  refine pe_imp (pe_lst h) fun σ H Q ⟨Z, ρ, B, P, S, h, k⟩ => ⟨Z, ρ, B, _, S, h, fun cs ρ' vs B' H' h1 x S' o1 => ?_⟩
  obtain ⟨ds, e, z, q⟩ := h1
  have r := dats_ok o1 e
  have rl := r.len
  exact ⟨by omega, fun p hp => k _ _ p vs B' H' q x S' hp r⟩
/-- a new list that nobody will change -/
def wStay (t : WN) : WE := fun ρ P => t ρ fun ds ρ' => P (.d (.list ds)) ρ'
theorem vstay {t : WN} (h : PE X e (upN X.K as t)) : PE X e (up X.K as (wStay t)) :=
  pe_imp h fun σ H Q ⟨Z, ρ, B, P, S, h, k⟩ => ⟨Z, ρ, B, _, S, h, fun ds ρ' p xs B' H' h1 x S' hp r => k _ _ _ _ _ h1 (x.trans (.new (S'.free hp))) (S'.al hp) (.lst (.inl (.inl upd_same)) (DqAll.ext (.new (S'.free hp)) r))⟩
theorem vix {r : R2} {o : DO} (hi : IxR X r) (hv : OpV X.K r o) (ha : PE X a (up X.K as t)) (hb : PE X b (up X.K as u)) (hs : PlainIx b := by exact fun _ _ => rfl) : PE X (.Subscript a b pos) (up X.K as (wOp o t u)) :=
  pe_imp (pe_ix hi ha hb hs) fun _ _ _ h => up_op hv h
end
end VL
end
section
set_option autoImplicit false
set_option maxRecDepth 100000
set_option maxHeartbeats 2000000
namespace VL
open PySem PySem.Spec PyProof.Rows L2
section
variable {X : Cx} {as : As} {a b c e : Expr} {es : List Expr} {t u : WE} {pos : Pos} {st : Stmt} {sts : List Stmt}
theorem vone {op : BoolOp} (h : PE X e (up X.K as t)) : PE X (.BoolOp op [e] pos) (up X.K as t) := pe_one h
theorem vand (h : PE X e (up X.K as t)) (h2 : PE X (.BoolOp .And (b :: es) pos) (up X.K as u)) : PE X (.BoolOp .And (e :: b :: es) pos) (up X.K as (wAnd t u)) := pe_imp (pe_and h h2) fun _ _ _ h => up_andV h
/-- an own list is let stay from here on -/
def wFrz (i : Nat) : WE := fun ρ P => match ρ[i]? with
  | some (.dat d) => P (.d d) ρ
  | some (.lst _ ds) => P (.d (.list ds)) (ρ.set i (.dat (.list ds)))
  | some (.lls _ dss) => P (.d (.list (dss.map .list))) (ρ.set i (.dat (.list (dss.map .list))))
  | _ => False
def wSeq (t u : WS) : WS := fun w ρ => t { w with nx := fun ρ' => u w ρ' } ρ
def wNext : WS := fun w ρ => w.nx ρ
theorem Meets.seq {K : Fg} {Z B : Hp} {w : WEn} {E : Ends} {u : WS} (m : Meets K as Z B w E) : Meets K as Z B { w with nx := fun ρ => u w ρ } { E with nx := upS K as u E } where
  nx := fun ρ σ B' H' h x S => ⟨Z, ρ, B', w, S, h, m.ext x⟩
  rt := m.rt
  rn := m.rn
  bk := m.bk
  ct := m.ct
  er := m.er
theorem snil : PSs X [] (upS X.K as wNext) := pss_imp pss_nil fun D σ H ⟨Z, ρ, B, w, S, h, m⟩ => m.nx ρ σ B H h (.refl B) S
theorem scons {t u : WS} (h1 : PS X st (upS X.K as t)) (h2 : PSs X sts (upS X.K as u)) : PSs X (st :: sts) (upS X.K as (wSeq t u)) :=
  pss_imp (pss_cons h1 h2) fun D σ H ⟨Z, ρ, B, w, S, h, m⟩ => ⟨Z, ρ, B, _, S, h, m.seq⟩
theorem sone {t : WS} (h1 : PS X st (upS X.K as t)) : PSs X [st] (upS X.K as t) := pss_one h1
def wNever : WS := fun _ _ => False
theorem snever : PS X st (upS X.K as wNever) := ps_imp ps_never fun D σ H ⟨Z, ρ, B, w, S, h, m⟩ => h
abbrev WG := D → En → (En → Prop) → Prop
/-- only the slots sl have changed -/
def Only (sl : List Nat) (σ σ' : L2.St) : Prop := σ'.length = σ.length ∧ ∀ j, j ∉ sl → σ'[j]? = σ[j]?
def GOk (K : Fg) (as : As) (t : TG) (g : WG) (sl : List Nat) : Prop := ∀ (Z : Hp) (ρ : En) (σ : L2.St) (B H : Hp) (v : V) (d : D) (P : En → Prop) (Q : L2.St → Hp → Prop), Sv K as Z ρ σ B H → Dq K B v d → g d ρ P → (∀ ρ' σ' B' H', P ρ' → ExT B B' → Sv K as Z ρ' σ' B' H' → Only sl σ σ' → Q σ' H') → t v σ H Q
structure GV (X : Cx) (as : As) (tg : Expr) (t : TG) (g : WG) (sl : List Nat) : Prop where
  pg : PG X tg t
  ok : GOk X.K as t g sl
def wSet (i : Nat) : WG := fun d ρ P => P (ρ.set i (.dat d))
theorem gset {i : Nat} {x : Str} (hN : X.N.Nodup) (hi : X.N[i]? = some x := by rfl) (hx : Loc X.env.scope x := by first | exact Or.inl rfl | exact Or.inr rfl) (hf : X.fn x = true ∨ X.env.scope.names.lookup x = some .local := by first | exact .inl rfl | exact .inr rfl | assumption) : GV X as (.Name x pos) (gName i) (wSet i) [i] :=
  ⟨pg_name hN hi hx hf, fun Z ρ σ B H v d P Q S hd h k => by
    obtain ⟨B', e, S', _⟩ := S.drop i
    exact k _ _ B' H h e (S'.put (Dq.ext e hd)) ⟨List.length_set, fun j hj => st_set fun z => hj (by rw [z]; exact List.mem_singleton.mpr rfl)⟩⟩
def wGs : List WG → List D → En → (En → Prop) → Prop
  | [], [], ρ, P => P ρ
  | g :: gs, d :: ds, ρ, P => g d ρ fun ρ' => wGs gs ds ρ' P
  | _, _, _, _ => False
def GsOk (K : Fg) (as : As) (t : TGs) (gs : List WG) (sl : List Nat) : Prop := ∀ (Z : Hp) (ρ : En) (σ : L2.St) (B H : Hp) (vs : List V) (ds : List D) (P : En → Prop) (Q : L2.St → Hp → Prop), Sv K as Z ρ σ B H → DqAll K B vs ds → wGs gs ds ρ P → (∀ ρ' σ' B' H', P ρ' → ExT B B' → Sv K as Z ρ' σ' B' H' → Only sl σ σ' → Q σ' H') → t vs σ H Q
structure GsV (X : Cx) (as : As) (tgs : List Expr) (t : TGs) (gs : List WG) (sl : List Nat) : Prop where
  pg : PGs X tgs t
  ok : GsOk X.K as t gs sl
theorem gnil : GsV X as [] gNil [] [] := ⟨pgs_nil, fun Z ρ σ B H vs ds P Q S hd h k => by
  cases hd with
  | nil => exact ⟨rfl, k _ _ B H h (.refl B) S ⟨rfl, fun _ _ => rfl⟩⟩
  | cons _ _ => exact h.elim⟩
theorem gcons {t : TG} {ts : TGs} {g : WG} {gs : List WG} {s1 s2 : List Nat} (h1 : GV X as e t g s1) (h2 : GsV X as es ts gs s2) (hs : (assignEach (e :: es) X.env).map (·.2) = assign e X.env :: (assignEach es X.env).map (·.2) := by rfl) : GsV X as (e :: es) (gCons t ts) (g :: gs) (s1 ++ s2) := by
  obtain ⟨p, f⟩ := h1
  obtain ⟨ps, fs⟩ := h2
  refine ⟨pgs_cons p ps hs, fun Z ρ σ B H vs ds P Q S hd h k => ?_⟩
  cases hd with
  | nil => exact h.elim
  | @cons v vr d dr hv hr =>
    refine ⟨v, vr, rfl, f Z ρ σ B H v d _ _ S hv h fun ρ' σ' B' H' h' x S' o1 => ?_⟩
    exact fs Z ρ' σ' B' H' vr dr P Q S' (DqAll.ext x hr) h' fun ρ2 σ2 B2 H2 p x2 S2 o2 => k ρ2 σ2 B2 H2 p (x.trans x2) S2 ⟨o2.1.trans o1.1, fun j hj => (o2.2 j fun z => hj (List.mem_append_right _ z)).trans (o1.2 j fun z => hj (List.mem_append_left _ z))⟩
def wGt (gs : List WG) : WG := fun d ρ P => match d with
  | .tuple ds => ds.length = gs.length ∧ wGs gs ds ρ P
  | _ => False
theorem gtup {ts : TGs} {gs : List WG} {sl : List Nat} {k : Nat} (hc : X.calm = true) (h : GsV X as es ts gs sl) (hn : (assignEach es X.env).length = gs.length := by rfl) (hst : (assignEach es X.env).findIdx? (·.1) = none := by rfl) : GV X as (.Tuple es k pos) (gTup X.K gs.length ts) (wGt gs) sl := by
  obtain ⟨ps, fs⟩ := h
  refine ⟨pg_tup hc ps hn hst, fun Z ρ σ B H v d P Q S hd h k => ?_⟩
  unfold wGt at h
  cases d <;> (try (exact (show False from h).elim))
  cases hd with
  | tup hq hr =>
    exact ⟨_, _, rfl, sqT_ext S.ext hq, hr.len.trans h.1, fs Z ρ σ B H _ _ P Q S hr h.2 k⟩
def wAsg (t : WE) (g : WG) : WS := fun w ρ => t ρ fun c ρ' => match c with
  | .d x => g x ρ' w.nx
  | _ => False
theorem sset {i : Nat} {x : Str} {pos' : Pos} (hN : X.N.Nodup) (he : PE X e (up X.K as t)) (hi : X.N[i]? = some x := by rfl) (hx : Loc X.env.scope x := by first | exact Or.inl rfl | exact Or.inr rfl) (hs : swapsWith e (some (.Name x pos')) pos.line X.env = pure false := by rfl) (hf : X.fn x = true ∨ X.env.scope.names.lookup x = some .local := by first | exact .inl rfl | exact .inr rfl | assumption) :
    PS X (.Assign [.Name x pos'] e pos) (upS X.K as (wAsg t (wSet i))) := by
  refine ps_imp (ps_set hN hi hx he hs hf) fun D σ H ⟨Z, ρ, B, w, S, h, m⟩ => ⟨Z, ρ, B, _, S, h, fun c ρ' v B' H' h1 x S' o1 => ?_⟩
  cases c with
  | loc j => exact h1.elim
  | d y =>
    obtain ⟨B2, e2, S2, _⟩ := S'.drop i
    exact m.nx _ _ B2 H' h1 (x.trans e2) (S2.put (Dq.ext e2 o1))
theorem sasg {tg : Expr} {gt : TG} {g : WG} {sl : List Nat} (he : PE X e (up X.K as t)) (hg : GV X as tg gt g sl) (hs : swapsWithSole [tg] e pos.line X.env = pure false := by rfl) (hw : swappedStores [tg] e X.env = pure none := by rfl)
    (h1 : (assignEach [tg] X.env).map (·.2) = [assign tg X.env] := by rfl) : PS X (.Assign [tg] e pos) (upS X.K as (wAsg t g)) := by
  obtain ⟨p, f⟩ := hg
  refine ps_imp (ps_asg he p hs hw h1) fun D σ H ⟨Z, ρ, B, w, S, h, m⟩ => ⟨Z, ρ, B, _, S, h, fun c ρ' v B' H' h1 x S' o1 => ?_⟩
  cases c with
  | loc j => exact h1.elim
  | d y => exact f Z ρ' σ B' H' v y w.nx D.nx S' o1 h1 fun ρ2 σ2 B2 H2 p x2 S2 _ => m.nx ρ2 σ2 B2 H2 p (x.trans x2) S2
/-- x = a new list of the frame's own -/
def wNew (t : WN) (i : Nat) : WS := fun w ρ => t ρ fun ds ρ' => i < ρ'.length ∧ w.nx (ρ'.set i (.lst false ds))
theorem snew {t : WN} {i : Nat} {x : Str} {pos' : Pos} (hN : X.N.Nodup) (he : PE X e (upN X.K as t)) (hi : X.N[i]? = some x := by rfl) (hx : Loc X.env.scope x := by first | exact Or.inl rfl | exact Or.inr rfl) (hs : swapsWith e (some (.Name x pos')) pos.line X.env = pure false := by rfl) (hf : X.fn x = true ∨ X.env.scope.names.lookup x = some .local := by first | exact .inl rfl | exact .inr rfl | assumption) :
    PS X (.Assign [.Name x pos'] e pos) (upS X.K as (wNew t i)) := by
  refine ps_imp (ps_set hN hi hx he hs hf) fun D σ H ⟨Z, ρ, B, w, S, h, m⟩ => ⟨Z, ρ, B, _, S, h, fun ds ρ' p xs B' H' h1 x S' hp r => ?_⟩
  obtain ⟨B2, e2, S2, _⟩ := S'.drop i
  exact m.nx _ _ B2 _ h1.2 (x.trans e2) (S2.putOwn hp rfl (fun ds z => by cases z) h1.1 ⟨xs, upd_same, DqAll.ext e2 r⟩)
/-- a, b = e1, e2: both sides written -/
def wPar (i j : Nat) (r : WA) : WS := fun w ρ => r ρ fun cs ρ' => match cs with
  | [.d x, .d y] => w.nx ((ρ'.set i (.dat x)).set j (.dat y))
  | _ => False
theorem spar {i j : Nat} {x y : Str} {r : WA} {px py pt : Pos} {kt k2 pt2} (hc : X.calm = true) (hN : X.N.Nodup) (ha : PA X [a, b] (upA X.K as r)) (hw : swappedStores [.Tuple [.Name x px, .Name y py] kt pt] (.Tuple [a, b] k2 pt2) X.env = pure (some [x, y]) := by rfl) (hi : X.N[i]? = some x := by rfl) (hj : X.N[j]? = some y := by rfl) (hij : i ≠ j := by decide)
    (hx : X.env.scope.names.lookup x = some .local := by rfl) (hy : X.env.scope.names.lookup y = some .local := by rfl)
    (hs : swapsWithSole [.Tuple [.Name x px, .Name y py] kt pt] (.Tuple [a, b] k2 pt2) pos.line X.env = pure false := by rfl) :
    PS X (.Assign [.Tuple [.Name x px, .Name y py] kt pt] (.Tuple [a, b] k2 pt2) pos) (upS X.K as (wPar i j r)) := by
  refine ps_imp (ps_par hc hN hi hj hij hx hy ha hw hs) fun D σ H ⟨Z, ρ, B, w, S, h, m⟩ => ⟨Z, ρ, B, _, S, h, fun cs ρ' vs B' H' h1 xx S' o1 => ?_⟩
  match cs, vs, h1, o1 with
  | [.d z1, .d z2], [v1, v2], h1, o1 =>
    obtain ⟨B2, e2, S2, _⟩ := S'.drop i
    have S3 := S2.put (Dq.ext e2 o1.1)
    obtain ⟨B3, e3, S4, _⟩ := S3.drop j
    have o2 : Dq X.K B' v2 z2 := o1.2.1
    exact ⟨v1, v2, rfl, m.nx _ _ B3 H' h1 ((xx.trans e2).trans e3) (S4.put (Dq.ext (e2.trans e3) o2))⟩
  | [.d z1, .d z2], [], h1, o1 => exact o1.elim
  | [.d z1, .d z2], [_], h1, o1 => exact o1.2.elim
  | [.d z1, .d z2], _ :: _ :: _ :: _, h1, o1 => exact o1.2.2.elim
  | [.d _, .loc _], _, h1, _ => exact h1.elim
  | [.loc _, .d _], _, h1, _ => exact h1.elim
  | [.loc _, .loc _], _, h1, _ => exact h1.elim
  | [], _, h1, _ => exact h1.elim
  | [.d _], _, h1, _ => exact h1.elim
  | [.loc _], _, h1, _ => exact h1.elim
  | _ :: _ :: _ :: _, _, h1, _ =>
    split at h1
    · rename_i e
      cases e
    · exact h1.elim
/-- x op= e -/
def wAug (i : Nat) (o : DO) (t : WE) : WS := fun w ρ => match ρ[i]? with
  | some (.dat x) => t ρ fun c ρ' => ∃ y, der ρ' c = some y ∧ o x y fun d => w.nx (ρ'.set i (.dat d))
  | _ => False
def wDrop (t : WE) : WS := fun w ρ => t ρ fun _ ρ' => w.nx ρ'
theorem sdrop (he : PE X e (up X.K as t)) (hs : swapsWith e none pos.line X.env = pure false := by rfl) : PS X (.Expr e pos) (upS X.K as (wDrop t)) :=
  ps_imp (ps_expr he hs) fun D σ H ⟨Z, ρ, B, w, S, h, m⟩ => ⟨Z, ρ, B, _, S, h, fun c ρ' v B' H' h1 x S' o1 => m.nx ρ' σ B' H' h1 x S'⟩
def wRet (t : WE) : WS := fun w ρ => t ρ w.rt
theorem sret (he : PE X e (up X.K as t)) : PS X (.Return (some e) pos) (upS X.K as (wRet t)) :=
  ps_imp (ps_ret he) fun D σ H ⟨Z, ρ, B, w, S, h, m⟩ => ⟨Z, ρ, B, _, S, h, fun c ρ' v B' H' h1 x S' o1 => m.rt c ρ' σ v B' H' h1 x S' o1⟩
def wRetN (t : WN) : WS := fun w ρ => t ρ w.rn
def wRet0 : WS := fun w ρ => w.rt (.d .none) ρ
def wIfS (c : WT) (t u : WS) : WS := fun w ρ => c ρ fun b ρ' => if b = true then t w ρ' else u w ρ'
theorem sif {c : WT} {t u : WS} {ec : Expr} {sa sb : List Stmt} (hc : PT X ec (upT X.K as c)) (ha : PSs X sa (upS X.K as t)) (hb : PSs X sb (upS X.K as u)) : PS X (.If ec sa sb pos) (upS X.K as (wIfS c t u)) := by
  refine ps_imp (ps_if hc ha hb) fun D σ H ⟨Z, ρ, B, w, S, h, m⟩ => ⟨Z, ρ, B, _, S, h, fun b ρ' B' H' h1 x S' => ?_⟩
  cases b with
  | true =>
    rw [if_pos rfl] at h1 ⊢
    exact ⟨Z, ρ', B', w, S', h1, m.ext x⟩
  | false =>
    rw [if_neg Bool.false_ne_true] at h1 ⊢
    exact ⟨Z, ρ', B', w, S', h1, m.ext x⟩
def wBrk : WS := fun w ρ => w.bk ρ
def wCnt : WS := fun w ρ => w.ct ρ
end
end VL
end
section
set_option autoImplicit false
set_option maxRecDepth 100000
set_option maxHeartbeats 2000000
namespace VL
open PySem PySem.Spec PyProof.Rows L2
/-- what J hands out are the data ds -/
structure Wk (K : Fg) (J : It) (B : Hp) (ds : List D) : Prop where
  go : ∀ (i : Nat) (B1 H : Hp), ExT B B1 → (∀ a o, B1 a = some o → H a = some o) → i < ds.length → J.go i H
  stop : ∀ (i : Nat) (B1 H : Hp), ExT B B1 → (∀ a o, B1 a = some o → H a = some o) → ds.length ≤ i → J.stop i H
  yld : ∀ (i : Nat) (B1 H : Hp) (x : V) (H' : Hp), ExT B B1 → (∀ a o, B1 a = some o → H a = some o) → (∀ a xs, H a = some (.tup xs) → B1 a = some (.tup xs)) → i < ds.length → J.yld i H x H' → ∃ (d : D) (B2 : Hp), ds[i]? = some d ∧ Al B1 H B2 H' ∧ Dq K B2 x d
theorem Wk.ext {K : Fg} {J : It} {B B' : Hp} {ds : List D} (w : Wk K J B ds) (e : ExT B B') : Wk K J B' ds :=
  ⟨fun i B1 H x s l => w.go i B1 H (e.trans x) s l, fun i B1 H x s l => w.stop i B1 H (e.trans x) s l, fun i B1 H v H' x s tt l => w.yld i B1 H v H' (e.trans x) s tt l⟩
def upI (K : Fg) (as : As) (t : WN) : TI := fun σ H R => ∃ Z ρ B P, Sv K as Z ρ σ B H ∧ t ρ P ∧ ∀ ds ρ' B' H' J, P ds ρ' → ExT B B' → Sv K as Z ρ' σ B' H' → Wk K J B' ds → R J H'
section
variable {X : Cx} {as : As} {a b c e tg : Expr} {es : List Expr} {t u : WE} {pos : Pos} {st : Stmt} {sts : List Stmt}
theorem pi_imp {t u : TI} (h : PI X tg e t) (i : ∀ σ H R, u σ H R → t σ H R) : PI X tg e u := ⟨fun pins s σ H R I q => h.run pins s σ H R I (i σ H R q)⟩
/-- a list or a tuple is walked -/
def iSeq (K : Fg) (tl : TE) : TI := fun σ H R => tl σ H fun x H1 => ∃ a, x = .ref a ∧ (((∃ xs, SqL K H1 a xs) ∧ R (Itl K a) H1) ∨ ((∃ xs, SqT K H1 a xs) ∧ R (Itt K a) H1))
theorem pi_seq {l : Expr} {tl : TE} (hl : PE X l tl) : PI X tg l (iSeq X.K tl) := by
  refine ⟨fun pins s σ H R I h => ?_⟩
  refine thn (hl.run pins s σ H _ I h) fun v s1 ⟨x, H1, I1, r1, a, e, q1⟩ => ?_
  subst e
  cases r1
  have ok := I1.fpOk (b := s1.heap.objs.size) (Nat.le_refl _) (I1.hok.fresh (Nat.le_refl _))
  rcases q1 with ⟨⟨xs, hq⟩, q⟩ | ⟨⟨xs, hq⟩, q⟩
  · obtain ⟨its, rv, p, hz⟩ := I1.list hq
    refine wpAny_pyIter_list p.isList ⟨s1.heap.objs.size, [s1.heap.objs.size], _, _, H1, rfl, ?_, turn_list a _, ⟨_, Heap.get?_push_size _ rfl, rfl, rfl⟩, fun b hb => by
      obtain rfl : b = s1.heap.objs.size := by simpa using hb
      exact ok, q⟩
    exact I1.kept (t' := s1.toks) fun b o e => Heap.get?_push_of_some _ e
  · obtain ⟨its, rv, p, hz⟩ := I1.tuple hq
    refine wpAny_pyIter_tuple (show s1.heap.IsTuple a its.toArray from p) ⟨s1.heap.objs.size, [s1.heap.objs.size], _, _, H1, rfl, ?_, turn_tuple a _, ⟨_, Heap.get?_push_size _ rfl, rfl, rfl⟩, fun b hb => by
      obtain rfl : b = s1.heap.objs.size := by simpa using hb
      exact ok, q⟩
    exact I1.kept (t' := s1.toks) fun b o e => Heap.get?_push_of_some _ e
def wSeqOf (t : WE) : WN := fun ρ P => t ρ fun c ρ' => match c with
  | .d (.list ds) => P ds ρ'
  | .d (.tuple ds) => P ds ρ'
  | _ => False
theorem wk_list {K : Fg} {B : Hp} {a : Addr} {xs : List V} {ds : List D} (h : SqL K B a xs) (r : DqAll K B xs ds) : Wk K (Itl K a) B ds where
  go := fun i B1 H x s l => by
    obtain ⟨v, h1, _⟩ := r.get (List.getElem?_eq_getElem l)
    exact ⟨xs, v, sqL_ext (.of s) (sqL_ext x h), h1⟩
  stop := fun i B1 H x s l => ⟨xs, sqL_ext (.of s) (sqL_ext x h), by rw [r.len]; exact l⟩
  yld := fun i B1 H v H' x s _ l y => by
    obtain ⟨rfl, f⟩ := y
    obtain ⟨d, h1, h2⟩ := r.getV (f xs (sqL_ext (.of s) (sqL_ext x h)))
    exact ⟨d, B1, h1, .no, Dq.ext x h2⟩
theorem wk_tup {K : Fg} {B : Hp} {a : Addr} {xs : List V} {ds : List D} (h : SqT K B a xs) (r : DqAll K B xs ds) : Wk K (Itt K a) B ds where
  go := fun i B1 H x s l => by
    obtain ⟨v, h1, _⟩ := r.get (List.getElem?_eq_getElem l)
    exact ⟨xs, v, sqT_ext (.of s) (sqT_ext x h), h1⟩
  stop := fun i B1 H x s l => ⟨xs, sqT_ext (.of s) (sqT_ext x h), by rw [r.len]; exact l⟩
  yld := fun i B1 H v H' x s _ l y => by
    obtain ⟨rfl, f⟩ := y
    obtain ⟨d, h1, h2⟩ := r.getV (f xs (sqT_ext (.of s) (sqT_ext x h)))
    exact ⟨d, B1, h1, .no, Dq.ext x h2⟩
theorem iseq (h : PE X e (up X.K as t)) : PI X tg e (upI X.K as (wSeqOf t)) := by
  refine pi_imp (pi_seq h) fun σ H R ⟨Z, ρ, B, P, S, h, k⟩ => ⟨Z, ρ, B, _, S, h, fun c ρ' v B' H' h1 x S' o1 => ?_⟩
  cases c with
  | loc i => exact h1.elim
  | d y =>
    cases y <;> (try (exact (show False from h1).elim))
    · rename_i ds
      cases o1 with
      | lst hq hr => exact ⟨_, rfl, .inl ⟨⟨_, sqL_ext S'.ext hq⟩, k _ _ B' H' _ h1 x S' (wk_list hq hr)⟩⟩
    · rename_i ds
      cases o1 with
      | tup hq hr => exact ⟨_, rfl, .inr ⟨⟨_, sqT_ext S'.ext (tupS hq)⟩, k _ _ B' H' _ h1 x S' (wk_tup hq hr)⟩⟩
/-- lo, lo + 1, .. below hi -/
def rngD (lo hi : Int) : List D := (List.range (hi - lo).toNat).map fun (i : Nat) => PyData.int (lo + i)
theorem wk_rng {K : Fg} {B : Hp} {lo hi : Int} : Wk K (Itr lo (hi - lo).toNat) B (rngD lo hi) where
  go := fun i B1 H x s l => by
    show i < (hi - lo).toNat
    simpa [rngD] using l
  stop := fun i B1 H x s l => by
    show (hi - lo).toNat ≤ i
    simpa [rngD] using l
  yld := fun i B1 H v H' x s _ l y => by
    obtain ⟨rfl, rfl⟩ := y
    refine ⟨.int (lo + i), B1, ?_, .no, .int _⟩
    have l' : i < (hi - lo).toNat := by simpa [rngD] using l
    simp [rngD, l']
def Small (i : Int) : Prop := -(2 ^ 62) ≤ i ∧ i < 2 ^ 62
def wRng1 (r : WA) : WN := fun ρ P => r ρ fun cs ρ' => match cs with
  | [.d (.int j)] => Small j ∧ P (rngD 0 j) ρ'
  | _ => False
def wRng2 (r : WA) : WN := fun ρ P => r ρ fun cs ρ' => match cs with
  | [.d (.int i), .d (.int j)] => Small i ∧ Small j ∧ P (rngD i j) ρ'
  | _ => False
theorem irng1 {r : WA} {p : Pos} (hm : X.mg "range" = none) (ha : PA X [a] (upA X.K as r)) (hg : Gl X "range" := by rfl) (hs : starEach [a] X.env = [(false, eval a X.env)] := by rfl) : PI X tg (.Call (.Name "range" p) [a] [] pos) (upI X.K as (wRng1 r)) := by
  refine pi_imp (pi_range1 hg hm ha hs) fun σ H R ⟨Z, ρ, B, P, S, h, k⟩ => ⟨Z, ρ, B, _, S, h, fun cs ρ' vs B' H' h1 x S' o1 => ?_⟩
  split at h1
  · rename_i j
    obtain ⟨v, rfl, o2⟩ := cvs_one o1
    cases o2
    refine ⟨j, rfl, h1.1.1, h1.1.2, ?_⟩
    have w := wk_rng (K := X.K) (B := B') (lo := 0) (hi := j)
    rw [Int.sub_zero] at w
    exact k _ _ B' H' _ h1.2 x S' w
  · exact h1.elim
def wFor (wi : WN) (g : WG) (tb : WS) : WS := fun w ρ => wi ρ fun ds ρ1 => ∃ W : Nat → En → Prop, W 0 ρ1 ∧ (∀ i ρ d, W i ρ → ds[i]? = some d → g d ρ fun ρ2 => tb { w with nx := W (i + 1), ct := W (i + 1), bk := w.nx } ρ2) ∧ ∀ ρ, W ds.length ρ → w.nx ρ
theorem sfor {wi : WN} {gt : TG} {g : WG} {sl : List Nat} {tb : WS} {iter : Expr} (hc : X.calm = true) (hi : PI X tg iter (upI X.K as wi)) (hg : GV X as tg gt g sl) (hb : PSs X sts (upS X.K as tb)) (hp : PassesOwn (model X.prog X.w) X.A X.env X.xe) (hs : ∀ x, foldedSetIterable iter X.env x = pure x := by intro _; rfl) :
    PS X (.For tg iter sts [] pos) (upS X.K as (wFor wi g tb)) := by
  obtain ⟨pg, fg⟩ := hg
  refine ps_imp (ps_for hp hc hi pg hb hs) fun E σ H ⟨Z, ρ, B, w, S, h, m⟩ => ⟨Z, ρ, B, _, S, h, fun ds ρ1 B1 H1 J h1 x1 S1 wk => ?_⟩
  obtain ⟨W, w0, turn, fin⟩ := h1
  refine ⟨fun i n σ H => i + n = ds.length ∧ ∃ ρ B', ExT B1 B' ∧ Sv X.K as Z ρ σ B' H ∧ W i ρ, ⟨ds.length, by omega, ρ1, B1, .refl B1, S1, w0⟩, fun i n σ H ⟨hn, ρ, B', x, S, hw⟩ => ?_⟩
  by_cases l : i < ds.length
  · refine .inr ⟨wk.go i B' H x S.subE l, fun σ' H' => ∃ ρ B', ExT B1 B' ∧ Sv X.K as Z ρ σ' B' H' ∧ W (i + 1) ρ, fun σ' H' hN => ⟨n - 1, by omega, by omega, hN⟩, fun v H' y => ?_⟩
    obtain ⟨d, B2, hd, al, dq⟩ := wk.yld i B' H v H' x S.subE S.tups l y
    obtain ⟨S2, x2⟩ := S.alc al
    refine fg Z ρ σ B2 H' v d _ _ S2 dq (turn i ρ d hw hd) fun ρ3 σ3 B3 H3 h3 x3 S3 _ => ⟨Z, ρ3, B3, _, S3, h3, ?_⟩
    have xx : ExT B1 B3 := (x.trans x2).trans x3
    have m' := m.ext (x1.trans xx)
    exact ⟨fun ρ4 σ4 B4 H4 h4 x4 S4 => ⟨ρ4, B4, xx.trans x4, S4, h4⟩, m'.rt, m'.rn, m'.nx, fun ρ4 σ4 B4 H4 h4 x4 S4 => ⟨ρ4, B4, xx.trans x4, S4, h4⟩, m'.er⟩
  · have e : i = ds.length := by omega
    subst e
    exact .inl ⟨wk.stop _ B' H x S.subE (Nat.le_refl _), (m.ext (x1.trans x)).nx ρ σ B' H (fin ρ hw) (.refl B') S⟩
end
def wipeE (ρ : En) : List Nat → En
  | [] => ρ
  | v :: vs => (wipeE ρ vs).set v .un
section
variable {K : Fg} {as : As} {Z : Hp} {ρ : En} {σ σ' : L2.St} {B H : Hp}
/-- what stands in forgotten slots does not matter -/
theorem Sv.irr (S : Sv K as Z ρ σ B H) (hl : σ'.length = σ.length) (h : ∀ (i : Nat) (c : Cell), ρ[i]? = some c → c ≠ .un → σ'[i]? = σ[i]?) : Sv K as Z ρ σ' B H := by
  have on : ∀ {c : Cell}, VL.own c = true → c ≠ .un := fun h z => by rw [z] at h; cases h
  have ow : ∀ a, Ow ρ σ a ↔ Ow ρ σ' a := fun a => ⟨fun ⟨i, c, h1, h2, h3⟩ => ⟨i, c, h1, h2, (Hl.at' (h i c h1 (on h2))).mpr h3⟩, fun ⟨i, c, h1, h2, h3⟩ => ⟨i, c, h1, h2, (Hl.at' (h i c h1 (on h2))).mp h3⟩⟩
  refine ⟨S.len.trans hl.symm, fun i d e => ?_, fun i c e hc => ?_, fun i j ci cj p hi hj oi oj ei ej => ?_, fun a w wz => S.off a (fun z => w ((ow a).mp z)) wz, fun a o hz => ?_, fun i ds e => ?_, S.tab⟩
  · rw [h i _ e (fun z => by cases z)]
    exact S.dat i d e
  · rw [h i c e (on hc)]
    exact S.own i c e hc
  · exact S.one i j ci cj p hi hj oi oj ((Hl.at' (h i ci hi (on oi))).mp ei) ((Hl.at' (h j cj hj (on oj))).mp ej)
  · obtain ⟨h1, h2, h3, h4⟩ := S.hid a o hz
    exact ⟨h1, h2, fun z => h3 ((ow a).mpr z), h4⟩
  · rw [h i _ e (fun z => by cases z)]
    exact S.io i ds e
theorem wipeE_at : ∀ {vs : List Nat} {i : Nat} {c : Cell}, (wipeE ρ vs)[i]? = some c → c ≠ .un → i ∉ vs ∧ ρ[i]? = some c
  | [], i, c, h, _ => ⟨List.not_mem_nil, h⟩
  | v :: vs, i, c, h, n => by
    rcases env_set h with ⟨_, z, _⟩ | ⟨ne, z⟩
    · exact (n z).elim
    · obtain ⟨h1, h2⟩ := wipeE_at z n
      exact ⟨fun m => (List.mem_cons.mp m).elim (fun q => ne q.symm) h1, h2⟩
theorem wipe_at : ∀ {vs : List Nat} {i : Nat}, i ∉ vs → (wipe σ vs)[i]? = σ[i]?
  | [], _, _ => rfl
  | v :: vs, i, h => by
    show ((wipe σ vs).set v none)[i]? = σ[i]?
    rw [st_set fun z => h (by rw [z]; exact List.mem_cons_self), wipe_at fun z => h (List.mem_cons_of_mem _ z)]
theorem wipe_in : ∀ {vs : List Nat} {i : Nat}, i ∈ vs → i < σ.length → (wipe σ vs)[i]? = some none
  | v :: vs, i, h, l => by
    show ((wipe σ vs).set v none)[i]? = some none
    by_cases e : v = i
    · subst e
      exact st_set_same (by rw [wipe_length]; exact l)
    · rw [st_set e]
      exact wipe_in ((List.mem_cons.mp h).resolve_left fun z => e z.symm) l
theorem wipe_eq {vs : List Nat} (o : σ'.length = σ.length) (h : ∀ j, j ∉ vs → σ'[j]? = σ[j]?) : wipe σ' vs = wipe σ vs := by
  refine List.ext_getElem? fun j => ?_
  by_cases e : j ∈ vs
  · by_cases l : j < σ.length
    · rw [wipe_in e l, wipe_in e (o.symm ▸ l)]
    · rw [List.getElem?_eq_none (by rw [wipe_length]; omega), List.getElem?_eq_none (by rw [wipe_length]; omega)]
  · rw [wipe_at e, wipe_at e]
    exact h j e
theorem Sv.wipeB (S : Sv K as Z ρ σ B H) : ∀ (vs : List Nat), ∃ B', ExT B B' ∧ Sv K as Z (wipeE ρ vs) σ B' H
  | [] => ⟨B, .refl B, S⟩
  | v :: vs => by
    obtain ⟨B1, e1, S1⟩ := Sv.wipeB S vs
    obtain ⟨B2, e2, S2, _⟩ := S1.drop v
    exact ⟨B2, e1.trans e2, S2⟩
/-- the slots vs are forgotten; what stands in them does not matter -/
theorem Sv.wiped (S : Sv K as Z ρ σ B H) (vs : List Nat) (h : wipe σ vs = wipe σ' vs) : ∃ B', ExT B B' ∧ Sv K as Z (wipeE ρ vs) σ' B' H := by
  obtain ⟨B1, e1, S1⟩ := S.wipeB vs
  have hl : σ'.length = σ.length := by
    have := congrArg List.length h
    rw [wipe_length, wipe_length] at this
    exact this.symm
  refine ⟨B1, e1, S1.irr hl fun i c e n => ?_⟩
  have ni := (wipeE_at e n).1
  rw [← wipe_at (σ := σ') ni, ← h, wipe_at ni]
theorem wipe_wipe {σ : L2.St} {vs : List Nat} : wipe (wipe σ vs) vs = wipe σ vs := wipe_eq (wipe_length _ _) fun _ h => wipe_at h
/-- a list nobody sees -/
theorem Sv.hide (S : Sv K as Z ρ σ B H) {p : Addr} {xs : List V} (h : H p = none) : Sv K as (upd Z p (.lst xs)) ρ σ B (upd H p (.lst xs)) := by
  have np : ∀ a, Ow ρ σ a → a ≠ p := fun a w z => S.nOw h (z ▸ w)
  refine ⟨S.len, S.dat, fun i c e hc => ?_, S.one, fun a w wz => ?_, fun a o hz => ?_, S.io, S.tab⟩
  · obtain ⟨q, h1, h2, h3⟩ := S.own i c e hc
    exact ⟨q, h1, h2, h3.ext (.refl B) (upd_ne (np q ⟨i, c, e, hc, .inl h1⟩)) fun b m => ⟨(h3.inner m).1, upd_ne (np b ⟨i, c, e, hc, .inr m⟩)⟩⟩
  · have na : a ≠ p := fun z => by rw [z, upd_same] at wz; cases wz
    rw [upd_ne na] at wz ⊢
    exact S.off a w wz
  · by_cases z : a = p
    · rw [z, upd_same] at hz
      cases hz
      rw [z]
      exact ⟨upd_same, S.free h, S.nOw h, .inl ⟨xs, rfl⟩⟩
    · rw [upd_ne z] at hz ⊢
      exact S.hid a o hz
/-- a dict with tuple keys that nobody sees -/
theorem Sv.hideT (S : Sv K as Z ρ σ B H) {p : Addr} {kvs : List (List Key × V)} (h : H p = none) : Sv K as (upd Z p (.dT kvs)) ρ σ B (upd H p (.dT kvs)) := by
  have np : ∀ a, Ow ρ σ a → a ≠ p := fun a w z => S.nOw h (z ▸ w)
  refine ⟨S.len, S.dat, fun i c e hc => ?_, S.one, fun a w wz => ?_, fun a o hz => ?_, S.io, S.tab⟩
  · obtain ⟨q, h1, h2, h3⟩ := S.own i c e hc
    exact ⟨q, h1, h2, h3.ext (.refl B) (upd_ne (np q ⟨i, c, e, hc, .inl h1⟩)) fun b m => ⟨(h3.inner m).1, upd_ne (np b ⟨i, c, e, hc, .inr m⟩)⟩⟩
  · have na : a ≠ p := fun z => by rw [z, upd_same] at wz; cases wz
    rw [upd_ne na] at wz ⊢
    exact S.off a w wz
  · by_cases z : a = p
    · rw [z, upd_same] at hz
      cases hz
      rw [z]
      exact ⟨upd_same, S.free h, S.nOw h, .inr (.inr ⟨kvs, rfl⟩)⟩
    · rw [upd_ne z] at hz ⊢
      exact S.hid a o hz
theorem Sv.rehide {p : Addr} {xs ys : List V} (S : Sv K as (upd Z p (.lst xs)) ρ σ B H) : H p = some (.lst xs) ∧ Sv K as (upd Z p (.lst ys)) ρ σ B (upd H p (.lst ys)) := by
  obtain ⟨k1, k2, k3, _⟩ := S.hid p _ upd_same
  have np : ∀ a, Ow ρ σ a → a ≠ p := fun a w z => k3 (z ▸ w)
  refine ⟨k1, S.len, S.dat, fun i c e hc => ?_, S.one, fun a w wz => ?_, fun a o hz => ?_, S.io, S.tab⟩
  · obtain ⟨q, h1, h2, h3⟩ := S.own i c e hc
    exact ⟨q, h1, h2, h3.ext (.refl B) (upd_ne (np q ⟨i, c, e, hc, .inl h1⟩)) fun b m => ⟨(h3.inner m).1, upd_ne (np b ⟨i, c, e, hc, .inr m⟩)⟩⟩
  · have na : a ≠ p := fun z => by rw [z, upd_same] at wz; cases wz
    rw [upd_ne na] at wz ⊢
    exact S.off a w (by rw [upd_ne na]; exact wz)
  · by_cases z : a = p
    · rw [z, upd_same] at hz
      cases hz
      rw [z]
      exact ⟨upd_same, k2, k3, .inl ⟨ys, rfl⟩⟩
    · rw [upd_ne z] at hz ⊢
      exact S.hid a o (by rw [upd_ne z]; exact hz)
theorem Sv.unhide {p : Addr} {o : HO} (S : Sv K as (upd Z p o) ρ σ B H) (hz : Z p = none) : ∃ H0, Sv K as Z ρ σ B H0 ∧ H0 p = none ∧ H = upd H0 p o := by
  obtain ⟨k1, k2, k3, _⟩ := S.hid p _ upd_same
  have np : ∀ a, Ow ρ σ a → a ≠ p := fun a w z => k3 (z ▸ w)
  refine ⟨fun a => if a = p then none else H a, ⟨S.len, S.dat, fun i c e hc => ?_, S.one, fun a w wz => ?_, fun a o hz2 => ?_, S.io, S.tab⟩, if_pos rfl, ?_⟩
  · obtain ⟨q, h1, h2, h3⟩ := S.own i c e hc
    exact ⟨q, h1, h2, h3.ext (.refl B) (if_neg (np q ⟨i, c, e, hc, .inl h1⟩)) fun b m => ⟨(h3.inner m).1, if_neg (np b ⟨i, c, e, hc, .inr m⟩)⟩⟩
  · show (if a = p then none else H a) = B a
    by_cases z : a = p
    · rw [if_pos z, z, k2]
    · rw [if_neg z]
      exact S.off a w (by rw [upd_ne z]; exact wz)
  · have na : a ≠ p := fun z => by rw [z, hz] at hz2; cases hz2
    obtain ⟨h1, h2, h3, h4⟩ := S.hid a o (by rw [upd_ne na]; exact hz2)
    exact ⟨(if_neg na).trans h1, h2, h3, h4⟩
  · funext a
    by_cases z : a = p
    · rw [z, upd_same, k1]
    · rw [upd_ne z]
      exact (if_neg z).symm
end
def wYes : WT := fun ρ P => P true ρ
def wLc (wi : WN) (g : WG) (tt : WT) (te : WE) (vs : List Nat) : WN := fun ρ P => wi ρ fun ds ρ1 => ∃ W : Nat → List D → En → Prop, W 0 [] (wipeE ρ1 vs) ∧
  (∀ i acc ρ d, W i acc ρ → ds[i]? = some d → g d ρ fun ρ2 => tt ρ2 fun b ρ3 => if b = true then te ρ3 fun c ρ4 => ∃ y, c = .d y ∧ acc.length < sizeLine ∧ W (i + 1) (acc ++ [y]) (wipeE ρ4 vs) else W (i + 1) acc (wipeE ρ3 vs)) ∧
  ∀ acc ρ, W ds.length acc ρ → P acc ρ
theorem up_lc {K : Fg} {as : As} {wi : WN} {g : WG} {gt : TG} {sl vs : List Nat} {tt : WT} {te : WE} {tt' : TT} (htt : ∀ σ H Q, upT K as tt σ H Q → tt' σ H Q)
    (fg : GOk K as gt g sl)
    (hsl : ∀ j ∈ sl, j ∈ vs) {σ : L2.St} {H : Hp} {Q : VK} (h : upN K as (wLc wi g tt te vs) σ H Q) : tLc (upI K as wi) gt tt' (up K as te) vs σ H Q := by
  obtain ⟨Z, ρ, B, P, S, h, k⟩ := h
  refine ⟨Z, ρ, B, _, S, h, fun ds ρ1 B1 H1 J h1 x1 S1 wk D hD => ?_⟩
  obtain ⟨W, w0, turn, fin⟩ := h1
  have hZ : Z D = none := S1.nZ hD
  obtain ⟨B2, x2, S2⟩ := (S1.hide (xs := []) hD).wiped vs (σ' := wipe σ vs) wipe_wipe.symm
  refine ⟨fun i n H => i + n = ds.length ∧ ∃ ρ B' acc xs, (∃ ρ0, ρ = wipeE ρ0 vs) ∧ ExT B1 B' ∧ Sv K as (upd Z D (.lst xs)) ρ (wipe σ vs) B' H ∧ DqAll K B' xs acc ∧ W i acc ρ, ⟨ds.length, by omega, _, B2, [], [], ⟨_, rfl⟩, x2, S2, .nil, w0⟩, fun i n H ⟨hn, ρ, B', acc, xs, ⟨ρ0, eρ⟩, x, S, r, hw⟩ => ?_⟩
  by_cases l : i < ds.length
  · refine .inr ⟨wk.go i B' H x S.subE l, fun H' => ∃ ρ B' acc xs, (∃ ρ0, ρ = wipeE ρ0 vs) ∧ ExT B1 B' ∧ Sv K as (upd Z D (.lst xs)) ρ (wipe σ vs) B' H' ∧ DqAll K B' xs acc ∧ W (i + 1) acc ρ, fun H' hN => ⟨n - 1, by omega, by omega, hN⟩, fun v H' y => ?_⟩
    obtain ⟨d, B3, hd, al, dq⟩ := wk.yld i B' H v H' x S.subE S.tups l y
    obtain ⟨S3, x3⟩ := S.alc al
    refine fg _ ρ _ B3 H' v d _ _ S3 dq (turn i acc ρ d hw hd) fun ρ4 σ4 B4 H4 h4 x4 S4 o4 => ?_
    have weq : wipe σ4 vs = wipe σ vs := (wipe_eq o4.1 fun j hj => o4.2 j fun z => hj (hsl j z)).trans wipe_wipe
    refine ⟨weq, htt _ _ _ ⟨_, ρ4, B4, _, S4, h4, fun b ρ5 B5 H5 h5 x5 S5 => ?_⟩⟩
    have xx : ExT B' B5 := (x3.trans x4).trans x5
    cases b with
    | true =>
      rw [if_pos rfl] at h5
      refine iteT ?_
      refine ⟨_, ρ5, B5, _, S5, h5, fun c ρ6 v6 B6 H6 h6 x6 S6 o6 => ?_⟩
      obtain ⟨y, rfl, hz, hW⟩ := h6
      have o6' : Dq K B6 v6 y := o6
      have r6 := DqAll.ext (xx.trans x6) r
      obtain ⟨e6, S7⟩ := S6.rehide (ys := xs ++ [v6])
      obtain ⟨B8, x8, S8⟩ := S7.wiped vs (σ' := wipe σ vs) (weq.trans wipe_wipe.symm)
      have rl := r.len
      exact ⟨xs, e6, by omega, _, B8, acc ++ [y], xs ++ [v6], ⟨_, rfl⟩, ((x.trans xx).trans x6).trans x8, S8, DqAll.ext x8 (DqAll.app r6 (.cons o6' .nil)), hW⟩
    | false =>
      rw [if_neg Bool.false_ne_true] at h5
      refine iteF ?_
      obtain ⟨B8, x8, S8⟩ := S5.wiped vs (σ' := wipe σ vs) (weq.trans wipe_wipe.symm)
      exact ⟨_, B8, acc, xs, ⟨_, rfl⟩, (x.trans xx).trans x8, S8, DqAll.ext (xx.trans x8) r, h5⟩
  · have e : i = ds.length := by omega
    subst e
    refine .inl ⟨wk.stop _ B' H x S.subE (Nat.le_refl _), ?_⟩
    have S8 : Sv K as (upd Z D (.lst xs)) ρ σ B' H := S.irr (by rw [wipe_length]) fun i c e n => by
      rw [eρ] at e
      rw [wipe_at (wipeE_at e n).1]
    obtain ⟨H0, S9, z9, e9⟩ := S8.unhide hZ
    rw [e9]
    exact k acc ρ D xs B' H0 (fin acc ρ hw) (x1.trans x) S9 z9 r
section
variable {X : Cx} {as : As} {elt iter tg : Expr} {pos : Pos}
/-- the tests of a comprehension -/
theorem tsnil : PTs X [] (upT X.K as wYes) := ⟨fun pins s σ H Q I ⟨Z, ρ, B, P, S, h, k⟩ => pts_nil.run pins s σ H Q I (k _ _ B H h (.refl B) S)⟩
/-- the target of a comprehension -/
def gU (K : Fg) (as : As) (g : WG) (sl : List Nat) : TG := fun v σ H Q => ∃ Z ρ B d P, Sv K as Z ρ σ B H ∧ Dq K B v d ∧ g d ρ P ∧ ∀ ρ' σ' B' H', P ρ' → ExT B B' → Sv K as Z ρ' σ' B' H' → Only sl σ σ' → Q σ' H'
theorem gup {t : TG} {g : WG} {sl : List Nat} (h : GV X as tg t g sl) : PG X tg (gU X.K as g sl) := ⟨fun pins s σ H v u Q I rv ⟨Z, ρ, B, d, P, S, hd, h1, k⟩ => h.pg.run pins s σ H v u Q I rv (h.ok Z ρ σ B H v d P Q S hd h1 k)⟩
theorem gU_ok {K : Fg} {g : WG} {sl : List Nat} : GOk K as (gU K as g sl) g sl := fun Z ρ σ B H v d P Q S hd h k => ⟨Z, ρ, B, d, P, S, hd, h, k⟩
/-- [elt for tg in iter if ..] -/
theorem vlc {ifs : List Expr} {scope : Scope} {wi : WN} {g : WG} {sl : List Nat} {tt : WT} {te : WE} (vs : List (Str × Nat)) (hc : X.calm = true) (hN : X.N.Nodup) (hi : PI X tg iter (upI X.K as wi))
    (hg : ∀ (s : Shared) (H : Hp) (C : Addr) (cl : List (Str × Addr)) (fp : List Addr), PG (X.blk s H scope (compEnvC scope cl C X.env) fp) tg (gU X.K as g sl)) (ht : ∀ (s : Shared) (H : Hp) (C : Addr) (cl : List (Str × Addr)) (fp : List Addr), PTs (X.blk s H scope (compEnvC scope cl C X.env) fp) ifs (upT X.K as tt))
    (he : ∀ (s : Shared) (H : Hp) (C : Addr) (cl : List (Str × Addr)) (fp : List Addr), PE (X.blk s H scope (compEnvC scope cl C X.env) fp) elt (up X.K as te)) (ok : BlkOk X.N X.env.scope scope vs) (hsl : ∀ j ∈ sl, j ∈ vs.map (·.2)) (hs : ∀ x, foldedSetIterable iter X.env x = pure x := by intro _; rfl) :
    PE X (.ListComp elt [⟨tg, iter, ifs, 0⟩] scope pos) (upN X.K as (wLc wi g tt te (vs.map (·.2)))) :=
  pe_imp (pe_lc hc hN hi ok hg ht he hs) fun σ H Q h => up_lc (fun _ _ _ h => h) gU_ok hsl h
/-- y = [elt for tg in iter if ..], a list of the frame's own -/
theorem snewLc {ifs : List Expr} {scope : Scope} {wi : WN} {g : WG} {sl : List Nat} {tt : WT} {te : WE} {i : Nat} {y : Str} {py spos : Pos} (vs : List (Str × Nat)) (hc : X.calm = true) (hN : X.N.Nodup)
    (hsw : swapsWith (.ListComp elt [⟨tg, iter, ifs, 0⟩] scope pos) (some (.Name y py)) spos.line X.env = pure true) (hi : PI X tg iter (upI X.K as wi))
    (hg : ∀ (s : Shared) (H : Hp) (C : Addr) (cl : List (Str × Addr)) (fp : List Addr), PG (X.blk s H scope (compEnvC scope cl C X.env) fp) tg (gU X.K as g sl)) (ht : ∀ (s : Shared) (H : Hp) (C : Addr) (cl : List (Str × Addr)) (fp : List Addr), PTs (X.blk s H scope (compEnvC scope cl C X.env) fp) ifs (upT X.K as tt))
    (he : ∀ (s : Shared) (H : Hp) (C : Addr) (cl : List (Str × Addr)) (fp : List Addr), PE (X.blk s H scope (compEnvC scope cl C X.env) fp) elt (up X.K as te)) (ok : BlkOk X.N X.env.scope scope vs) (hsl : ∀ j ∈ sl, j ∈ vs.map (·.2)) (hy : X.N[i]? = some y := by rfl) (hyl : X.env.scope.names.lookup y = some .local := by rfl) (hs : ∀ x, foldedSetIterable iter X.env x = pure x := by intro _; rfl) :
    PS X (.Assign [.Name y py] (.ListComp elt [⟨tg, iter, ifs, 0⟩] scope pos) spos) (upS X.K as (wNew (wLc wi g tt te (vs.map (·.2))) i)) := by
  refine ps_imp (ps_setLc hc hN hy hyl hsw hi ok hg ht he hs) fun E σ H ⟨Z, ρ, B, w, S, h, m⟩ => ?_
  refine up_lc (fun _ _ _ h => h) gU_ok hsl ⟨Z, ρ, B, _, S, h, fun ds ρ' p xs B' H' h1 x S' hp r => ?_⟩
  obtain ⟨B2, e2, S2, _⟩ := S'.drop i
  exact m.nx _ _ B2 _ h1.2 (x.trans e2) (S2.putOwn hp rfl (fun ds z => by cases z) h1.1 ⟨xs, upd_same, DqAll.ext e2 r⟩)
end
end VL
end
section
set_option autoImplicit false
set_option maxRecDepth 100000
set_option maxHeartbeats 2000000
namespace VL
open PySem PySem.Spec PyProof.Rows L2
/-- what a def hands back: data, or a new list -/
inductive RV where
  | d (x : D) | new (ds : List D) | err (c : Str) (x : D)
abbrev Spec := En → (RV → En → Prop) → Prop
def noH : Hp := fun _ => none
/-- the promise: the arguments' cells, what is handed back and the cells behind it -/
def spV (K : Fg) (ts : List Addr) (n : Nat) (S : Spec) : Sp := fun vs H Q _ => vs.length = n ∧ ∃ ρ B P, Sv K (vs.map some, ts, nW) noH ρ (vs.map some) B H ∧ S ρ P ∧
  (∀ x ρ' v B' H', P (.d x) ρ' → ExT B B' → Sv K (vs.map some, ts, nW) noH ρ' (vs.map some) B' H' → Dq K B' v x → Q v H') ∧
  ∀ ds ρ' p xs B' H', P (.new ds) ρ' → ExT B B' → Sv K (vs.map some, ts, nW) noH ρ' (vs.map some) B' H' → H' p = none → DqAll K B' xs ds → Q (.ref p) (upd H' p (.lst xs))
section
variable {K : Fg} {as : As} {Z : Hp} {ρ : En} {σ σ' : L2.St} {B H : Hp}
/-- an own list is handed over -/
theorem Sv.pull (S : Sv K as Z ρ σ B H) {i : Nat} {io : Bool} {ds : List D} (h : ρ[i]? = some (.lst io ds)) :
    ∃ p xs H0, σ[i]? = some (some (V.ref p)) ∧ Sv K as Z (ρ.set i .un) σ B H0 ∧ H0 p = none ∧ H = upd H0 p (.lst xs) ∧ DqAll K B xs ds := by
  obtain ⟨p, h1, h2, xs, h3, h4⟩ := S.own i _ h rfl
  have key : ∀ (j : Nat) (c : Cell), (ρ.set i .un)[j]? = some c → VL.own c = true → i ≠ j ∧ ρ[j]? = some c := fun j c e hc => by
    rcases env_set e with ⟨_, z, _⟩ | z
    · rw [z] at hc
      cases hc
    · exact z
  have np : ∀ a, Ow (ρ.set i .un) σ a → a ≠ p := fun a ⟨j, c, y1, y2, y3⟩ z => by
    obtain ⟨n, y⟩ := key j c y1 y2
    exact n (S.one i j _ c p h y rfl y2 (.inl h1) (by rw [← z]; exact y3))
  refine ⟨p, xs, fun a => if a = p then none else H a, h1, ⟨by rw [List.length_set]; exact S.len, fun j d e => ?_, fun j c e hc => ?_, fun j k cj ck r hj hk oj ok ej ek => ?_, fun a w wz => ?_, fun a o hz => ?_, fun j ds e => ?_, S.tab⟩, if_pos rfl, ?_, h4⟩
  · rcases env_set e with ⟨_, z, _⟩ | ⟨_, z⟩
    · cases z
    · exact S.dat j d z
  · obtain ⟨n, z⟩ := key j c e hc
    obtain ⟨q, a1, a2, a3⟩ := S.own j c z hc
    exact ⟨q, a1, a2, a3.ext (.refl B) (if_neg (np q ⟨j, c, e, hc, .inl a1⟩)) fun b m => ⟨(a3.inner m).1, if_neg (np b ⟨j, c, e, hc, .inr m⟩)⟩⟩
  · exact S.one j k cj ck r (key j cj hj oj).2 (key k ck hk ok).2 oj ok ej ek
  · show (if a = p then none else H a) = B a
    by_cases z : a = p
    · rw [if_pos z, z, h2]
    · rw [if_neg z]
      refine S.off a (fun ⟨j, c, y1, y2, y3⟩ => w ⟨j, c, ?_, y2, y3⟩) wz
      have ne : i ≠ j := fun y => by
        subst y
        rw [h] at y1
        cases y1
        have y3 := (Hl.top rfl).mp y3
        rw [h1] at y3
        cases y3
        exact z rfl
      rw [List.getElem?_set_ne ne]
      exact y1
  · obtain ⟨a1, a2, a3, a4⟩ := S.hid a o hz
    have na : a ≠ p := fun z => a3 ⟨i, _, h, rfl, by rw [z]; exact .inl h1⟩
    exact ⟨(if_neg na).trans a1, a2, fun ⟨j, c, y1, y2, y3⟩ => a3 ⟨j, c, (key j c y1 y2).2, y2, y3⟩, a4⟩
  · rcases env_set e with ⟨_, z, _⟩ | ⟨_, z⟩
    · cases z
    · exact S.io j ds z
  · funext a
    by_cases z : a = p
    · rw [z, upd_same, h3]
    · rw [upd_ne z]
      exact (if_neg z).symm
/-- the cells of the first n slots behind a call: the caller's lists -/
def keepC : Option Cell → Cell
  | some (.lst true ds) => .lst true ds
  | _ => .un
def retE (n : Nat) (ρ : En) : En := (List.range n).map fun i => keepC ρ[i]?
def loseC (n i : Nat) : Option Cell → Bool
  | some (.lst true _) => decide (n ≤ i)
  | _ => true
def lose (n : Nat) (ρ : En) : List Nat := (List.range ρ.length).filter fun i => loseC n i ρ[i]?
theorem retE_at {n i : Nat} {c : Cell} (h : (retE n ρ)[i]? = some c) (hc : c ≠ .un) : i < n ∧ ∃ ds, c = .lst true ds ∧ ρ[i]? = some (.lst true ds) := by
  unfold retE at h
  rw [List.getElem?_map] at h
  cases e : (List.range n)[i]? with
  | none =>
    rw [e] at h
    cases h
  | some j =>
    rw [e] at h
    have l := (List.getElem?_eq_some_iff.mp e).1
    rw [List.length_range] at l
    have ej : j = i := by
      rw [List.getElem?_range l] at e
      exact (Option.some.inj e).symm
    subst ej
    have h' : keepC ρ[j]? = c := Option.some.inj h
    unfold keepC at h'
    split at h'
    · rename_i ds q
      exact ⟨l, ds, h'.symm, q⟩
    · exact (hc h'.symm).elim
theorem retE_of {n i : Nat} {ds : List D} (l : i < n) (h : ρ[i]? = some (.lst true ds)) : (retE n ρ)[i]? = some (.lst true ds) := by
  unfold retE
  rw [List.getElem?_map, List.getElem?_range l]
  show some (keepC ρ[i]?) = some _
  rw [h]
  rfl
theorem wipeE_out : ∀ {vs : List Nat} {i : Nat}, i ∉ vs → (wipeE ρ vs)[i]? = ρ[i]?
  | [], _, _ => rfl
  | v :: vs, i, h => by
    show ((wipeE ρ vs).set v .un)[i]? = ρ[i]?
    rw [List.getElem?_set_ne fun z => h (by rw [z]; exact List.mem_cons_self)]
    exact wipeE_out fun z => h (List.mem_cons_of_mem _ z)
theorem Sv.back (S : Sv K as Z ρ σ B H) (n : Nat) (hn : n ≤ as.1.length) : ∃ B', ExT B B' ∧ Sv K (as.1.take n, as.2) Z (retE n ρ) (as.1.take n) B' H := by
  obtain ⟨B1, e1, S1⟩ := S.wipeB (lose n ρ)
  have kept : ∀ (i : Nat) (ds : List D), i < n → ρ[i]? = some (.lst true ds) → (wipeE ρ (lose n ρ))[i]? = some (.lst true ds) := fun i ds l h => by
    rw [wipeE_out, h]
    intro m
    have := (List.mem_filter.mp m).2
    rw [h] at this
    have := of_decide_eq_true this
    omega
  have only : ∀ (i : Nat) (c : Cell), (wipeE ρ (lose n ρ))[i]? = some c → c ≠ .un → i < n ∧ ∃ ds, c = .lst true ds ∧ ρ[i]? = some (.lst true ds) := fun i c h hc => by
    obtain ⟨h1, h2⟩ := wipeE_at h hc
    have l : i < ρ.length := (List.getElem?_eq_some_iff.mp h2).1
    have nm : ¬ loseC n i ρ[i]? = true := fun z => h1 (List.mem_filter.mpr ⟨List.mem_range.mpr l, z⟩)
    rw [h2] at nm
    cases c with
    | lst io ds =>
      cases io with
      | true =>
        refine ⟨?_, ds, rfl, h2⟩
        have nm' : ¬ decide (n ≤ i) = true := nm
        rw [decide_eq_true_eq] at nm'
        omega
      | false => exact (nm rfl).elim
    | un => exact (hc rfl).elim
    | dat d => exact (nm rfl).elim
    | dic kvs => exact (nm rfl).elim
    | dit kvs => exact (nm rfl).elim
    | lls qs dss => exact (nm rfl).elim
  have tk : ∀ {i : Nat}, i < n → (as.1.take n)[i]? = as.1[i]? := fun l => List.getElem?_take_of_lt l
  have on : ∀ {c : Cell}, VL.own c = true → c ≠ .un := fun h z => by rw [z] at h; cases h
  have ow : ∀ a, Ow (retE n ρ) (as.1.take n) a ↔ Ow (wipeE ρ (lose n ρ)) σ a := fun a => by
    constructor
    · intro ⟨i, c, h1, h2, h3⟩
      obtain ⟨l, ds, rfl, q⟩ := retE_at h1 (on h2)
      exact ⟨i, _, kept i ds l q, rfl, (Hl.top rfl).mpr (by rw [S.io i ds q, ← tk l]; exact (Hl.top rfl).mp h3)⟩
    · intro ⟨i, c, h1, h2, h3⟩
      obtain ⟨l, ds, rfl, q⟩ := only i c h1 (on h2)
      exact ⟨i, _, retE_of l q, rfl, (Hl.top rfl).mpr (by rw [tk l, ← S.io i ds q]; exact (Hl.top rfl).mp h3)⟩
  refine ⟨B1, e1, ⟨by simp [retE, hn], fun i d h => ?_, fun i c h hc => ?_, fun i j ci cj p hi hj oi oj ei ej => ?_, fun a w wz => S1.off a (fun z => w ((ow a).mpr z)) wz, fun a o hz => ?_, fun i ds h => rfl, S1.tab⟩⟩
  · obtain ⟨_, ds, z, _⟩ := retE_at h (fun z => by cases z)
    cases z
  · obtain ⟨l, ds, rfl, q⟩ := retE_at h (on hc)
    obtain ⟨p, a1, a2, a3⟩ := S1.own i _ (kept i ds l q) rfl
    exact ⟨p, by rw [tk l, ← S.io i ds q]; exact a1, a2, a3⟩
  · obtain ⟨l1, d1, rfl, q1⟩ := retE_at hi (on oi)
    obtain ⟨l2, d2, rfl, q2⟩ := retE_at hj (on oj)
    exact S.one i j _ _ p q1 q2 rfl rfl ((Hl.top rfl).mpr (by rw [S.io i d1 q1, ← tk l1]; exact (Hl.top rfl).mp ei)) ((Hl.top rfl).mpr (by rw [S.io j d2 q2, ← tk l2]; exact (Hl.top rfl).mp ej))
  · obtain ⟨h1, h2, h3, h4⟩ := S1.hid a o hz
    exact ⟨h1, h2, fun z => h3 ((ow a).mp z), h4⟩
/-- a frame at its start: the parameters, then slots without a value -/
theorem Sv.begin {ts : List Addr} {vs : List V} (S : Sv K (vs.map some, ts, nW) Z ρ (vs.map some) B H) (m : Nat) : Sv K (vs.map some ++ List.replicate m none, ts, nW) Z (ρ ++ List.replicate m .un) (vs.map some ++ List.replicate m none) B H := by
  have hl := S.len
  have lo : ∀ (i : Nat) (c : Cell), (ρ ++ List.replicate m .un)[i]? = some c → c ≠ .un → i < ρ.length ∧ ρ[i]? = some c := fun i c h n => by
    by_cases l : i < ρ.length
    · rw [List.getElem?_append_left l] at h
      exact ⟨l, h⟩
    · rw [List.getElem?_append_right (by omega), List.getElem?_replicate] at h
      split at h
      · exact (n (Option.some.inj h).symm).elim
      · cases h
  have at_ : ∀ {i : Nat}, i < ρ.length → (vs.map some ++ List.replicate m none)[i]? = (vs.map some)[i]? := fun l => List.getElem?_append_left (by omega)
  have on : ∀ {c : Cell}, VL.own c = true → c ≠ .un := fun h z => by rw [z] at h; cases h
  have ow : ∀ a, Ow (ρ ++ List.replicate m .un) (vs.map some ++ List.replicate m none) a ↔ Ow ρ (vs.map some) a := fun a => by
    constructor
    · intro ⟨i, c, h1, h2, h3⟩
      obtain ⟨l, q⟩ := lo i c h1 (on h2)
      exact ⟨i, c, q, h2, (Hl.at' (at_ l)).mp h3⟩
    · intro ⟨i, c, h1, h2, h3⟩
      have l : i < ρ.length := (List.getElem?_eq_some_iff.mp h1).1
      exact ⟨i, c, by rw [List.getElem?_append_left l]; exact h1, h2, (Hl.at' (at_ l)).mpr h3⟩
  refine ⟨by simpa using hl, fun i d h => ?_, fun i c h hc => ?_, fun i j ci cj p hi hj oi oj ei ej => ?_, fun a w wz => S.off a (fun z => w ((ow a).mpr z)) wz, fun a o hz => ?_, fun i ds h => rfl, S.tab⟩
  · obtain ⟨l, q⟩ := lo i _ h (fun z => by cases z)
    rw [at_ l]
    exact S.dat i d q
  · obtain ⟨l, q⟩ := lo i _ h (on hc)
    rw [at_ l]
    exact S.own i c q hc
  · obtain ⟨l1, q1⟩ := lo i _ hi (on oi)
    obtain ⟨l2, q2⟩ := lo j _ hj (on oj)
    exact S.one i j ci cj p q1 q2 oi oj ((Hl.at' (at_ l1)).mp ei) ((Hl.at' (at_ l2)).mp ej)
  · obtain ⟨h1, h2, h3, h4⟩ := S.hid a o hz
    exact ⟨h1, h2, fun z => h3 ((ow a).mp z), h4⟩
end
/-- what a body's ends mean to its caller; n parameters -/
def endsV (n : Nat) (P : RV → En → Prop) : WEn where
  nx := fun ρ => P (.d .none) (retE n ρ)
  rt := fun c ρ => match c with
    | .d x => P (.d x) (retE n ρ)
    | .loc i => match ρ[i]? with
      | some (.lst false ds) => P (.new ds) (retE n (ρ.set i .un))
      | _ => False
  rn := fun ds ρ => P (.new ds) (retE n ρ)
section
variable {P : Program} {w : World} {K : Fg} {mg : Str → Option Value} {base : Heap}
theorem fnV {x qual : Str} {st : Stmt} {f : Addr} {fd : FuncData} {N ps : List Str} {k n : Nat} {t : WS} {S : Spec} {ts : List Addr} (F : Fun K x qual st f fd) (Sc : FnScope N ps (defScope st)) (hn : ps.length = n) (hN : n ≤ N.length)
    (hbody : ∀ (cdv : Value) (A : Around) (outer : List PySem.Env) (s : Shared) (H : Hp) (E : XK) (as : List (Option V)), Room k (A.deeper (envOfC qual (defScope st) s.heap.objs.size f cdv)) →
      PSs (cxOf CX0 P w K mg base N qual (defScope st) f cdv A outer s H E).nox (defBody st) (upS K (as, ts, nW) t))
    (hS : ∀ ρ Q, S ρ Q → t (endsV n Q) (ρ ++ List.replicate (N.length - n) .un)) : FnOk P w K mg base CX0 (k + 1) f fd ps (spV K ts n S) := by
  refine F.ok Sc (fun vs H Q E h => h.1.trans hn.symm) (fun cdv A outer s H vs Q E hr h => ?_)
  obtain ⟨hl, ρ, B, R, Sv0, hs, kd, kn⟩ := h
  have start_eq : start N vs = vs.map some ++ List.replicate (N.length - n) none := by rw [← hl]; rfl
  refine ⟨_, hbody cdv A outer s H E (start N vs) hr, ?_⟩
  have S1 : Sv K (start N vs, ts, nW) noH (ρ ++ List.replicate (N.length - n) .un) (start N vs) B H := by
    rw [start_eq]
    exact Sv0.begin _
  have asl : n ≤ (start N vs).length := by
    rw [start_eq, List.length_append, List.length_map]
    omega
  have ast : (start N vs).take n = vs.map some := by
    rw [start_eq, List.take_append_of_le_length (by rw [List.length_map]; omega), List.take_of_length_le (by rw [List.length_map]; omega)]
  refine ⟨noH, _, B, endsV n R, S1, hS ρ R hs, ⟨fun ρ' σ' B' H' h1 x1 S' => ?_, fun c ρ' σ' v B' H' h1 x1 S' o1 => ?_, fun ds ρ' σ' p xs B' H' h1 x1 S' hp r => ?_, fun _ _ _ _ h1 _ _ => h1.elim, fun _ _ _ _ h1 _ _ => h1.elim, fun _ _ _ _ _ _ _ h1 _ _ _ => h1.elim⟩⟩
  · obtain ⟨B2, e2, S2⟩ := S'.back n asl
    rw [show (start N vs, ts, nW).1.take n = vs.map some from ast] at S2
    exact kd .none _ .non B2 H' h1 (x1.trans e2) S2 .non
  · cases c with
    | d y =>
      obtain ⟨B2, e2, S2⟩ := S'.back n asl
      rw [show (start N vs, ts, nW).1.take n = vs.map some from ast] at S2
      exact kd y _ v B2 H' h1 (x1.trans e2) S2 (Dq.ext e2 o1)
    | loc i =>
      unfold endsV at h1
      dsimp only at h1
      split at h1
      · rename_i ds q
        obtain ⟨p, xs, H0, a1, S2, a2, a3, a4⟩ := S'.pull q
        have e := a1.symm.trans o1
        cases e
        obtain ⟨B2, e2, S3⟩ := S2.back n asl
        rw [show (start N vs, ts, nW).1.take n = vs.map some from ast] at S3
        rw [a3]
        exact kn ds _ p xs B2 H0 h1 (x1.trans e2) S3 a2 (DqAll.ext e2 a4)
      · exact h1.elim
  · obtain ⟨B2, e2, S2⟩ := S'.back n asl
    rw [show (start N vs, ts, nW).1.take n = vs.map some from ast] at S2
    exact kn ds _ p xs B2 H' h1 (x1.trans e2) S2 hp (DqAll.ext e2 r)
end
end VL
end
section
set_option autoImplicit false
set_option maxRecDepth 100000
set_option maxHeartbeats 2000000
namespace VL
open PySem PySem.Spec PyProof.Rows L2
section
variable {K : Fg} {as : As} {Z : Hp} {ρ : En} {σ : L2.St} {B H : Hp}
theorem dats_map {K : Fg} {ts : List Addr} {B : Hp} {vs : List V} {ds : List D} (r : DqAll K B vs ds) (tb : ∀ P ∈ ts, TabG B P) : Sv K (vs.map some, ts, nW) noH (ds.map .dat) (vs.map some) B B := by
  have no : ∀ (i : Nat) (c : Cell), (ds.map Cell.dat)[i]? = some c → own c = true → False := fun i c h hc => by
    rw [List.getElem?_map] at h
    cases e : ds[i]? with
    | none =>
      rw [e] at h
      cases h
    | some d =>
      rw [e] at h
      cases h
      cases hc
  refine ⟨by rw [List.length_map, List.length_map, r.len], fun i d h => ?_, fun i c h hc => (no i c h hc).elim, fun i j ci cj p hi hj oi oj ei ej => (no i ci hi oi).elim, fun a w wz => rfl, fun a o hz => (by cases hz), fun i ds h => rfl, tb⟩
  rw [List.getElem?_map] at h
  cases e : ds[i]? with
  | none =>
    rw [e] at h
    cases h
  | some d' =>
    rw [e] at h
    cases h
    obtain ⟨v, h1, h2⟩ := r.get e
    exact ⟨v, by rw [List.getElem?_map, h1]; rfl, h2⟩
theorem dats_map1 {K : Fg} {ts : List Addr} {B : Hp} {p : Addr} {vs xs : List V} {ds es : List D} (hp : B p = none) (r1 : DqAll K B xs es) (r : DqAll K B vs ds) (tb : ∀ P ∈ ts, TabG B P) : Sv K ((V.ref p :: vs).map some, ts, nW) noH (.lst true es :: ds.map .dat) ((V.ref p :: vs).map some) B (upd B p (.lst xs)) := by
  have S := dats_map (ts := ts) r tb
  have ow : ∀ a, Ow (.lst true es :: ds.map .dat) ((V.ref p :: vs).map some) a → a = p := fun a ⟨i, c, h1, h2, h3⟩ => by
    cases i with
    | zero =>
      cases h1
      have e : some (some (V.ref p)) = some (some (V.ref a)) := (Hl.top rfl).mp h3
      cases e
      rfl
    | succ i =>
      have h1' : (ds.map Cell.dat)[i]? = some c := h1
      rw [List.getElem?_map] at h1'
      cases e : ds[i]? with
      | none =>
        rw [e] at h1'
        cases h1'
      | some d =>
        rw [e] at h1'
        cases h1'
        cases h2
  have pow : Ow (.lst true es :: ds.map .dat) ((V.ref p :: vs).map some) p := ⟨0, _, rfl, rfl, .inl rfl⟩
  have zero : ∀ (i : Nat) (c : Cell), (Cell.lst true es :: ds.map Cell.dat)[i]? = some c → own c = true → i = 0 := fun i c h hc => by
    cases i with
    | zero => rfl
    | succ i =>
      have h' : (ds.map Cell.dat)[i]? = some c := h
      rw [List.getElem?_map] at h'
      cases e : ds[i]? with
      | none =>
        rw [e] at h'
        cases h'
      | some d =>
        rw [e] at h'
        cases h'
        cases hc
  refine ⟨by simp [r.len], fun i d h => ?_, fun i c h hc => ?_, fun i j ci cj q hi hj oi oj ei ej => ?_, fun a w wz => upd_ne fun z => w (z ▸ pow), fun a o hz => (by cases hz), fun i ds h => rfl, tb⟩
  · cases i with
    | zero => cases h
    | succ i => exact S.dat i d h
  · obtain rfl := zero i c h hc
    cases h
    exact ⟨p, rfl, hp, xs, upd_same, r1⟩
  · rw [zero i ci hi oi, zero j cj hj oj]
theorem own_kind {p : Addr} : ∀ {c : Cell}, OwnAt K B H p c → (∃ xs, H p = some (.lst xs)) ∨ (∃ kvs, H p = some (.dK kvs)) ∨ ∃ kvs, H p = some (.dT kvs)
  | .lst _ _, ⟨xs, h, _⟩ => .inl ⟨xs, h⟩
  | .dic _, ⟨vs, h, _⟩ => .inr (.inl ⟨vs, h⟩)
  | .dit _, ⟨vs, h, _⟩ => .inr (.inr ⟨vs, h⟩)
  | .lls _ _, ⟨h, _⟩ => .inl ⟨_, h⟩
theorem Sv.part (S : Sv K as Z ρ σ B H) : Part (fun a => Ow ρ σ a ∨ Z a ≠ none) H B where
  own := fun a w => by
    rcases w with w | w
    · refine ⟨(S.ow w).1, ?_⟩
      obtain ⟨i, c, h1, h2, h3⟩ := w
      obtain ⟨p, q1, q2, q3⟩ := S.own i c h1 h2
      rcases h3 with h3 | h3
      · rw [h3] at q1
        cases q1
        exact own_kind q3
      · exact .inl (q3.inner h3).2.2
    · cases e : Z a with
      | none => exact (w e).elim
      | some o =>
        obtain ⟨h1, h2, h3, h4⟩ := S.hid a o e
        rcases h4 with ⟨xs, rfl⟩ | ⟨kvs, rfl⟩ | ⟨kvs, rfl⟩
        · exact ⟨h2, .inl ⟨xs, h1⟩⟩
        · exact ⟨h2, .inr (.inl ⟨kvs, h1⟩)⟩
        · exact ⟨h2, .inr (.inr ⟨kvs, h1⟩)⟩
  off := fun a w => S.off a (fun z => w (.inl z)) (by
    cases e : Z a with
    | none => rfl
    | some o => exact (w (.inr (by rw [e]; exact fun z => by cases z))).elim)
/-- behind a call that was shown data alone -/
theorem Sv.called {H' : Hp} (S : Sv K as Z ρ σ B H) (e : ExT B H') (hW : ∀ a, (Ow ρ σ a ∨ Z a ≠ none) → H' a = none) : Sv K as Z ρ σ H' (ovl (fun a => Ow ρ σ a ∨ Z a ≠ none) H H') :=
  S.grow e (fun a w => ⟨hW a w, ovl_in w⟩) fun a w wz => ovl_out fun z => z.elim w fun z => z wz
/-- behind a call that was shown the own list of slot i besides -/
theorem Sv.called1 {H' : Hp} {i : Nat} {io : Bool} {p : Addr} {es es' : List D} {ys : List V} {B' : Hp} (S : Sv K as Z ρ σ B H) (hi : ρ[i]? = some (.lst io es)) (hp : σ[i]? = some (some (V.ref p))) (e : ExT B B') (s : ∀ a o, B' a = some o → H' a = some o) (hb : B' p = none) (h1 : H' p = some (.lst ys)) (h2 : DqAll K B' ys es')
    (hW : ∀ a, ((Ow ρ σ a ∧ a ≠ p) ∨ Z a ≠ none) → H' a = none) : ExT B' (fun a => if a = p then none else H' a) ∧ Sv K as Z (ρ.set i (.lst io es')) σ (fun a => if a = p then none else H' a) (ovl (fun a => (Ow ρ σ a ∧ a ≠ p) ∨ Z a ≠ none) H H') := by
  have x1 : ExT B' (fun a => if a = p then none else H' a) := .of fun a o h => by
    have na : a ≠ p := fun z => by rw [z, hb] at h; cases h
    exact (if_neg na).trans (s a o h)
  refine ⟨x1, ?_⟩
  have x := e.trans x1
  have hil : i < ρ.length := (List.getElem?_eq_some_iff.mp hi).1
  obtain ⟨p', q1, q2, q3⟩ := S.own i _ hi rfl
  rw [hp] at q1
  cases q1
  have powp : Ow ρ σ p := ⟨i, _, hi, rfl, .inl hp⟩
  have Zp : Z p = none := by
    cases z : Z p with
    | none => rfl
    | some o => exact ((S.hid p o z).2.2.1 powp).elim
  have nWp : ¬ ((Ow ρ σ p ∧ p ≠ p) ∨ Z p ≠ none) := fun z => z.elim (fun z => z.2 rfl) fun z => z Zp
  have ot : ∀ (j : Nat) (cj : Cell) (r : Addr), i ≠ j → ρ[j]? = some cj → VL.own cj = true → Hl σ j cj r → r ≠ p := fun j cj r ne h h2 h3 z => ne (S.one i j _ cj p hi h rfl h2 (.inl hp) (by rw [← z]; exact h3))
  have sameOw : ∀ a, Ow (ρ.set i (.lst io es')) σ a ↔ Ow ρ σ a := fun a => by
    constructor
    · intro ⟨j, c, y1, y2, y3⟩
      rcases env_set y1 with ⟨y, z, _⟩ | ⟨ne, z⟩
      · subst y
        subst z
        exact ⟨i, _, hi, rfl, (Hl.top rfl).mpr ((Hl.top rfl).mp y3)⟩
      · exact ⟨j, c, z, y2, y3⟩
    · intro ⟨j, c, y1, y2, y3⟩
      by_cases ij : i = j
      · subst ij
        rw [hi] at y1
        cases y1
        exact ⟨i, .lst io es', by simp [hil], rfl, (Hl.top rfl).mpr ((Hl.top rfl).mp y3)⟩
      · exact ⟨j, c, by rw [List.getElem?_set_ne ij]; exact y1, y2, y3⟩
  refine ⟨by rw [List.length_set]; exact S.len, fun j d h => ?_, fun j c h hc => ?_, fun j k cj ck r hj hk oj ok ej ek => ?_, fun a w wz => ?_, fun a o hz => ?_, fun j ds h => ?_, fun P h => x.tabs P (S.tab P h)⟩
  · rcases env_set h with ⟨_, z, _⟩ | ⟨_, z⟩
    · cases z
    · obtain ⟨v, a1, a2⟩ := S.dat j d z
      exact ⟨v, a1, Dq.ext x a2⟩
  · rcases env_set h with ⟨y, z, _⟩ | ⟨ne, z⟩
    · subst y
      subst z
      exact ⟨p, hp, if_pos rfl, ys, (ovl_out nWp).trans h1, DqAll.ext x1 h2⟩
    · obtain ⟨r, a1, a2, a3⟩ := S.own j c z hc
      have ww : ∀ b, Hl σ j c b → b ≠ p ∧ ((Ow ρ σ b ∧ b ≠ p) ∨ Z b ≠ none) := fun b y => ⟨ot j c b ne z hc y, .inl ⟨⟨j, c, z, hc, y⟩, ot j c b ne z hc y⟩⟩
      obtain ⟨np, w⟩ := ww r (.inl a1)
      exact ⟨r, a1, (if_neg np).trans (hW r w), a3.ext x (ovl_in w) fun b m => ⟨(if_neg (ww b (.inr m)).1).trans (hW b (ww b (.inr m)).2), ovl_in (ww b (.inr m)).2⟩⟩
  · rcases env_set hj with ⟨y1, z1, l1⟩ | ⟨n1, z1⟩
    · rcases env_set hk with ⟨y2, z2, l2⟩ | ⟨n2, z2⟩
      · exact y1.symm.trans y2
      · subst y1
        subst z1
        have ej := (Hl.top rfl).mp ej
        rw [hp] at ej
        cases ej
        exact (ot k ck p n2 z2 ok ek rfl).elim
    · rcases env_set hk with ⟨y2, z2, l2⟩ | ⟨n2, z2⟩
      · subst y2
        subst z2
        have ek := (Hl.top rfl).mp ek
        rw [hp] at ek
        cases ek
        exact (ot j cj p n1 z1 oj ej rfl).elim
      · exact S.one j k cj ck r z1 z2 oj ok ej ek
  · have w' : ¬ Ow ρ σ a := fun z => w ((sameOw a).mpr z)
    have na : a ≠ p := fun z => w' (z ▸ powp)
    rw [ovl_out fun z => z.elim (fun z => w' z.1) fun z => z wz]
    exact (if_neg na).symm
  · obtain ⟨a1, a2, a3, a4⟩ := S.hid a o hz
    have w : (Ow ρ σ a ∧ a ≠ p) ∨ Z a ≠ none := .inr (by rw [hz]; exact fun z => by cases z)
    have na : a ≠ p := fun z => a3 (z ▸ powp)
    exact ⟨(ovl_in w).trans a1, (if_neg na).trans (hW a w), fun z => a3 ((sameOw a).mp z), a4⟩
  · rcases env_set h with ⟨y, z, _⟩ | ⟨_, z⟩
    · subst y
      cases z
      exact S.io i es hi
    · exact S.io j ds z
end
def wCall (n : Nat) (S : Spec) (r : WA) : WE := fun ρ P => r ρ fun cs ρ1 => ∃ ds, dats cs = some ds ∧ ds.length = n ∧ S (ds.map .dat) fun rv _ => match rv with
  | .d x => P (.d x) ρ1
  | .new es => P (.d (.list es)) ρ1
  | .err _ _ => False
def wCallN (n : Nat) (S : Spec) (r : WA) : WN := fun ρ P => r ρ fun cs ρ1 => ∃ ds, dats cs = some ds ∧ ds.length = n ∧ S (ds.map .dat) fun rv _ => match rv with
  | .d _ => False
  | .new es => P es ρ1
  | .err _ _ => False
/-- the own list of slot i first, then data -/
def ioA : List CV → Option (Nat × List D)
  | .loc i :: r => (dats r).map (i, ·)
  | _ => none
def wCallIo (n : Nat) (S : Spec) (r : WA) : WE := fun ρ P => r ρ fun cs ρ1 => ∃ i ds io xs, ioA cs = some (i, ds) ∧ ds.length + 1 = n ∧ ρ1[i]? = some (.lst io xs) ∧ S (.lst true xs :: ds.map .dat) fun rv ρr => ∃ xs', ρr[0]? = some (.lst true xs') ∧ match rv with
  | .d x => P (.d x) (ρ1.set i (.lst io xs'))
  | .new es => P (.d (.list es)) (ρ1.set i (.lst io xs'))
  | .err _ _ => False
def wCallIoN (n : Nat) (S : Spec) (r : WA) : WN := fun ρ P => r ρ fun cs ρ1 => ∃ i ds io xs, ioA cs = some (i, ds) ∧ ds.length + 1 = n ∧ ρ1[i]? = some (.lst io xs) ∧ S (.lst true xs :: ds.map .dat) fun rv ρr => ∃ xs', ρr[0]? = some (.lst true xs') ∧ match rv with
  | .d _ => False
  | .new es => P es (ρ1.set i (.lst io xs'))
  | .err _ _ => False
section
variable {X : Cx} {as : As} {k n : Nat} {f : Addr} {fd : FuncData} {ps : List Str} {S : Spec} {x : Str} {p pos : Pos} {e : Expr} {es : List Expr} {r : WA}
theorem up_call {K : Fg} {σ : L2.St} {H : Hp} {Q : VK} (h : up K as (wCall n S r) σ H Q) : tCallP (spV K as.2.1 n S) (upA K as r) σ H Q := by
  obtain ⟨Z, ρ, B, P, S0, h, kk⟩ := h
  refine ⟨Z, ρ, B, _, S0, h, fun cs ρ1 vs B1 H1 h1 x1 S1 o1 => ?_⟩
  obtain ⟨ds, e1, e2, hs⟩ := h1
  have r := dats_ok o1 e1
  refine ⟨_, B1, S1.part, by rw [r.len]; exact e2, _, B1, _, dats_map r S1.tab, hs, fun y ρ' v B' H' q x2 S2 dq hW => ?_, fun fs ρ' pp xs B' H' q x2 S2 hp dq hW => ?_⟩
  · have x3 : ExT B1 H' := x2.trans S2.ext
    exact kk _ _ v H' _ q (x1.trans x3) (S1.called x3 hW) (Dq.ext S2.ext dq)
  · have x4 : ExT B' (upd H' pp (.lst xs)) := S2.ext.trans (.new hp)
    have x3 : ExT B1 (upd H' pp (.lst xs)) := x2.trans x4
    exact kk _ _ _ _ _ q (x1.trans x3) (S1.called x3 hW) (.lst (.inl (.inl upd_same)) (DqAll.ext x4 dq))
theorem io_ok {K : Fg} {σ : L2.St} {B : Hp} {vs : List V} {cs : List CV} {i : Nat} {ds : List D} (h : CvsOk K σ B vs cs) (e : ioA cs = some (i, ds)) : ∃ v ws, vs = v :: ws ∧ σ[i]? = some (some v) ∧ DqAll K B ws ds := by
  match cs, vs, h with
  | .loc j :: r, v :: ws, h =>
    have e' : (dats r).map (j, ·) = some (i, ds) := e
    cases q : dats r with
    | none =>
      rw [q] at e'
      cases e'
    | some fs =>
      rw [q] at e'
      cases e'
      exact ⟨v, ws, rfl, h.1, dats_ok h.2 q⟩
  | .d _ :: _, _, _ => cases e
  | [], _, _ => cases e
  | .loc _ :: _, [], h => exact h.elim
theorem up_callIo {K : Fg} {σ : L2.St} {H : Hp} {Q : VK} (h : up K as (wCallIo n S r) σ H Q) : tCallP (spV K as.2.1 n S) (upA K as r) σ H Q := by
  obtain ⟨Z, ρ, B, P, S0, h, kk⟩ := h
  refine ⟨Z, ρ, B, _, S0, h, fun cs ρ1 vs B1 H1 h1 x1 S1 o1 => ?_⟩
  obtain ⟨i, ds, io, xs, e1, e2, e3, hs⟩ := h1
  obtain ⟨v, ws, rfl, a1, a2⟩ := io_ok o1 e1
  obtain ⟨pp, b1, b2, zs, b3, b4⟩ := S1.own i _ e3 rfl
  rw [a1] at b1
  cases b1
  have Zp : Z pp = none := by
    cases z : Z pp with
    | none => rfl
    | some o => exact ((S1.hid pp o z).2.2.1 ⟨i, _, e3, rfl, .inl a1⟩).elim
  have part : Part (fun a => (Ow ρ1 σ a ∧ a ≠ pp) ∨ Z a ≠ none) H1 (upd B1 pp (.lst zs)) := by
    refine ⟨fun a w => ?_, fun a w => ?_⟩
    · have na : a ≠ pp := w.elim (fun z => z.2) fun z y => z (y ▸ Zp)
      rw [upd_ne na]
      exact S1.part.own a (w.imp (fun z => z.1) id)
    · by_cases na : a = pp
      · rw [na, upd_same, b3]
      · rw [upd_ne na]
        exact S1.part.off a fun z => w (z.imp (fun z => ⟨z, na⟩) id)
  refine ⟨_, _, part, by rw [List.length_cons, a2.len]; exact e2, _, B1, _, dats_map1 b2 b4 a2 S1.tab, hs, fun y ρ' v B' H' q x2 S2 dq hW => ?_, fun fs ρ' p2 ys B' H' q x2 S2 hp dq hW => ?_⟩
  · obtain ⟨xs', q0, q⟩ := q
    obtain ⟨p3, c1, c2, ys, c3, c4⟩ := S2.own 0 _ q0 rfl
    have ep : some (some (V.ref pp)) = some (some (V.ref p3)) := c1
    cases ep
    obtain ⟨x3, S3⟩ := S1.called1 e3 a1 x2 (fun a o z => S2.sub z) c2 c3 c4 hW
    exact kk _ _ v _ _ q ((x1.trans x2).trans x3) S3 (Dq.ext x3 dq)
  · obtain ⟨xs', q0, q⟩ := q
    obtain ⟨p3, c1, c2, us, c3, c4⟩ := S2.own 0 _ q0 rfl
    have ep : some (some (V.ref pp)) = some (some (V.ref p3)) := c1
    cases ep
    have n2 : p2 ≠ pp := fun z => by rw [z, c3] at hp; cases hp
    have nB : B' p2 = none := S2.free hp
    have x4 : ExT B' (upd B' p2 (.lst ys)) := .new nB
    obtain ⟨x3, S3⟩ := S1.called1 (H' := upd H' p2 (.lst ys)) e3 a1 (x2.trans x4) (fun a o z => by
      by_cases y : a = p2
      · rw [y, upd_same] at z ⊢
        exact z
      · rw [upd_ne y] at z ⊢
        exact S2.sub z) (by rw [upd_ne n2.symm]; exact c2) (by rw [upd_ne n2.symm]; exact c3) (DqAll.ext x4 c4) hW
    exact kk _ _ _ _ _ q ((x1.trans (x2.trans x4)).trans x3) S3 (.lst (.inl (.inl (by show (if p2 = pp then none else upd H' p2 (.lst ys) p2) = _; rw [if_neg n2, upd_same]))) (DqAll.ext (x4.trans x3) dq))
/-- f(e, ..) -/
structure CallOk (X : Cx) (ts : List Addr) (k n : Nat) (x : Str) (f : Addr) (fd : FuncData) (ps : List Str) (S : Spec) : Prop where
  fn : FnOk X.prog X.w X.K X.mg X.base CX0 k f fd ps (spV X.K ts n S)
  g : X.mg x = some (.ref f)
  kp : PySem.W.keepIn X.K (.ref f) = true
  b : Binds X.K fd ps []
theorem vcall (F : CallOk X as.2.1 k n x f fd ps S) (hr : Room k X.A) (ha : PA X (e :: es) (upA X.K as r)) (hg : Gl X x := by rfl) (hdb : (x == ("__debug__" : Str)) = false := by decide) (he : starEach (e :: es) X.env = (false, eval e X.env) :: starEach es X.env := by rfl) (hpl : (backTo pos (starEach es X.env)).any (·.1) = false := by rfl) :
    PE X (.Call (.Name x p) (e :: es) [] pos) (up X.K as (wCall n S r)) := pe_imp (pe_callP F.fn hr hg F.g F.kp F.b ha hdb he hpl) fun _ _ _ h => up_call h
theorem vcallIo (F : CallOk X as.2.1 k n x f fd ps S) (hr : Room k X.A) (ha : PA X (e :: es) (upA X.K as r)) (hg : Gl X x := by rfl) (hdb : (x == ("__debug__" : Str)) = false := by decide) (he : starEach (e :: es) X.env = (false, eval e X.env) :: starEach es X.env := by rfl) (hpl : (backTo pos (starEach es X.env)).any (·.1) = false := by rfl) :
    PE X (.Call (.Name x p) (e :: es) [] pos) (up X.K as (wCallIo n S r)) := pe_imp (pe_callP F.fn hr hg F.g F.kp F.b ha hdb he hpl) fun _ _ _ h => up_callIo h
end
end VL
end
section
set_option autoImplicit false
set_option maxRecDepth 100000
set_option maxHeartbeats 2000000
namespace VL
open PySem PySem.Spec PyProof.Rows L2
inductive RvAll (K : Fg) (B H : Hp) : List V → List D → Prop where
  | nil : RvAll K B H [] []
  | cons {v : V} {d : D} {vs : List V} {ds : List D} : Rv K B H v d → RvAll K B H vs ds → RvAll K B H (v :: vs) (d :: ds)
def ders (ρ : En) : List CV → Option (List D)
  | [] => some []
  | c :: r => match der ρ c, ders ρ r with
    | some d, some ds => some (d :: ds)
    | _, _ => none
theorem ders_ok {K : Fg} {as : As} {Z : Hp} {ρ : En} {σ : L2.St} {B H : Hp} (S : Sv K as Z ρ σ B H) : ∀ {vs : List V} {cs : List CV} {ds : List D}, CvsOk K σ B vs cs → ders ρ cs = some ds → RvAll K B H vs ds
  | [], [], _, _, e => by
    cases e
    exact .nil
  | v :: vs, c :: cs, ds, h, e => by
    unfold ders at e
    split at e
    · rename_i d es e1 e2
      cases e
      exact .cons (rv_of S h.1 e1) (ders_ok S h.2 e2)
    · cases e
  | [], _ :: _, _, h, _ => h.elim
  | _ :: _, [], _, h, _ => h.elim
def CallV (K : Fg) (r : List V → Hp → VK → Prop) (o : DC) : Prop := ∀ (B H : Hp) (vs : List V) (ds : List D) (P : D → Prop) (Q : VK), (∀ a u, B a = some u → H a = some u) → RvAll K B H vs ds → o ds P →
  (∀ d v B' H', P d → Al B H B' H' → Dq K B' v d → Q v H') → r vs H Q
/-- a new list comes -/
def CallVN (K : Fg) (r : List V → Hp → VK → Prop) (o : List D → (List D → Prop) → Prop) : Prop := ∀ (B H : Hp) (vs : List V) (ds : List D) (P : List D → Prop) (Q : VK), (∀ a u, B a = some u → H a = some u) → RvAll K B H vs ds → o ds P →
  (∀ es p xs, P es → H p = none → DqAll K B xs es → Q (.ref p) (upd H p (.lst xs))) → r vs H Q
def wCB (o : DC) (r : WA) : WE := fun ρ P => r ρ fun cs ρ1 => ∃ ds, ders ρ1 cs = some ds ∧ o ds fun d => P (.d d) ρ1
def wCBN (o : List D → (List D → Prop) → Prop) (r : WA) : WN := fun ρ P => r ρ fun cs ρ1 => ∃ ds, ders ρ1 cs = some ds ∧ o ds fun es => P es ρ1
section
variable {X : Cx} {as : As} {x : Str} {p pos : Pos} {a b e : Expr} {es : List Expr} {r : WA} {id T : String} {cr : List V → Hp → VK → Prop} {t : WE}
theorem up_cb {K : Fg} {o : DC} (hv : CallV K cr o) {σ : L2.St} {H : Hp} {Q : VK} (h : up K as (wCB o r) σ H Q) : tCB cr (upA K as r) σ H Q := by
  obtain ⟨Z, ρ, B, P, S, h, k⟩ := h
  refine ⟨Z, ρ, B, _, S, h, fun cs ρ1 vs B1 H1 h1 x1 S1 o1 => ?_⟩
  obtain ⟨ds, e1, h2⟩ := h1
  refine hv B1 H1 vs ds _ Q S1.subE (ders_ok S1 o1 e1) h2 fun d v B' H' q al dq => ?_
  obtain ⟨S2, x2⟩ := S1.alc al
  exact k _ _ v B' H' q (x1.trans x2) S2 dq
theorem up_cbN {K : Fg} {o : List D → (List D → Prop) → Prop} (hv : CallVN K cr o) {σ : L2.St} {H : Hp} {Q : VK} (h : upN K as (wCBN o r) σ H Q) : tCB cr (upA K as r) σ H Q := by
  obtain ⟨Z, ρ, B, P, S, h, k⟩ := h
  refine ⟨Z, ρ, B, _, S, h, fun cs ρ1 vs B1 H1 h1 x1 S1 o1 => ?_⟩
  obtain ⟨ds, e1, h2⟩ := h1
  exact hv B1 H1 vs ds _ Q S1.subE (ders_ok S1 o1 e1) h2 fun es p xs q hp dq => k es ρ1 p xs B1 H1 q x1 S1 hp dq
theorem vcb {o : DC} (hc : CallR X (.builtin id) cr) (hv : CallV X.K cr o) (hm : X.mg x = none) (hb : bootBuiltins x = some (.builtin id)) (ha : PA X (e :: es) (upA X.K as r)) (hg : Gl X x := by rfl) (hn : x ≠ "__name__" := by decide) (hdb : (x == ("__debug__" : Str)) = false := by decide)
    (he : starEach (e :: es) X.env = (false, eval e X.env) :: starEach es X.env := by rfl) (hpl : (backTo pos (starEach es X.env)).any (·.1) = false := by rfl) : PE X (.Call (.Name x p) (e :: es) [] pos) (up X.K as (wCB o r)) :=
  pe_imp (pe_callB hc hg hm hb ha hn hdb he hpl) fun _ _ _ h => up_cb hv h
theorem vct {o : DC} (hc : CallR X (.type T) cr) (hv : CallV X.K cr o) (hm : X.mg x = none) (hb : bootBuiltins x = some (.type T)) (ha : PA X (e :: es) (upA X.K as r)) (hg : Gl X x := by rfl) (hn : x ≠ "__name__" := by decide) (hdb : (x == ("__debug__" : Str)) = false := by decide)
    (he : starEach (e :: es) X.env = (false, eval e X.env) :: starEach es X.env := by rfl) (hpl : (backTo pos (starEach es X.env)).any (·.1) = false := by rfl) : PE X (.Call (.Name x p) (e :: es) [] pos) (up X.K as (wCB o r)) :=
  pe_imp (pe_callTy hc hg hm hb ha hn hdb he hpl) fun _ _ _ h => up_cb hv h
theorem vctN {o : List D → (List D → Prop) → Prop} (hc : CallR X (.type T) cr) (hv : CallVN X.K cr o) (hm : X.mg x = none) (hb : bootBuiltins x = some (.type T)) (ha : PA X (e :: es) (upA X.K as r)) (hg : Gl X x := by rfl) (hn : x ≠ "__name__" := by decide) (hdb : (x == ("__debug__" : Str)) = false := by decide)
    (he : starEach (e :: es) X.env = (false, eval e X.env) :: starEach es X.env := by rfl) (hpl : (backTo pos (starEach es X.env)).any (·.1) = false := by rfl) : PE X (.Call (.Name x p) (e :: es) [] pos) (upN X.K as (wCBN o r)) :=
  pe_imp (pe_callTy hc hg hm hb ha hn hdb he hpl) fun _ _ _ h => up_cbN hv h
end
section
variable {K : Fg}
theorem RvAll.one {B H : Hp} {vs : List V} {d : D} (h : RvAll K B H vs [d]) : ∃ v, vs = [v] ∧ Rv K B H v d := by
  cases h with
  | cons a r =>
    cases r
    exact ⟨_, rfl, a⟩
theorem RvAll.two {B H : Hp} {vs : List V} {d e : D} (h : RvAll K B H vs [d, e]) : ∃ v u, vs = [v, u] ∧ Rv K B H v d ∧ Rv K B H u e := by
  cases h with
  | cons a r =>
    obtain ⟨u, rfl, b⟩ := r.one
    exact ⟨_, u, rfl, a, b⟩
def oLen : DC := fun ds P => match ds with
  | [.list xs] => P (.int xs.length)
  | [.tuple xs] => P (.int xs.length)
  | [.str z] => z.length ≤ sizeLine ∧ P (.int z.length)
  | _ => False
theorem cv_len : CallV K (fun xs H Q => ∃ x n, xs = [x] ∧ LenV K x H n ∧ Q (.int n) H) oLen := by
  intro B H vs ds P Q e a c k
  unfold oLen at c
  split at c
  · obtain ⟨v, rfl, b⟩ := a.one
    obtain ⟨l, xs, rfl, h1, r1⟩ := b.list e
    exact ⟨_, xs.length, rfl, .inl ⟨xs, h1, rfl⟩, by rw [r1.len]; exact k _ _ _ _ c .no (.int _)⟩
  · obtain ⟨v, rfl, b⟩ := a.one
    obtain ⟨l, xs, rfl, h1, r1⟩ := b.tup e
    exact ⟨_, xs.length, rfl, .inr ⟨xs, h1, rfl⟩, by rw [r1.len]; exact k _ _ _ _ c .no (.int _)⟩
  · obtain ⟨v, rfl, b⟩ := a.one
    cases b.str
    exact ⟨_, _, rfl, ⟨c.1, rfl⟩, k _ _ _ _ c.2 .no (.int _)⟩
  · exact c.elim
def oInt1 (g : Int → D) : DC := fun ds P => match ds with
  | [.int i] => P (g i)
  | _ => False
def oInt2 (g : Int → Int → D) : DC := fun ds P => match ds with
  | [.int i, .int j] => P (g i j)
  | _ => False
abbrev oAbs : DC := oInt1 fun i => .int (if i < 0 then -i else i)
abbrev oMax2 : DC := oInt2 fun i j => .int (if j > i then j else i)
abbrev oMin2 : DC := oInt2 fun i j => .int (if j < i then j else i)
abbrev oGcd : DC := oInt2 fun i j => .int (Int.gcd i j)
theorem cv_i2 {g : Int → Int → V} {gd : Int → Int → D} (hg : ∀ B i j, Dq K B (g i j) (gd i j)) : CallV K (fun xs H Q => ∃ i j, xs = [.int i, .int j] ∧ Q (g i j) H) (oInt2 gd) := by
  intro B H vs ds P Q e a c k
  unfold oInt2 at c
  split at c
  · obtain ⟨v, u, rfl, b1, b2⟩ := a.two
    cases b1.int
    cases b2.int
    exact ⟨_, _, rfl, k _ _ _ _ c .no (hg B _ _)⟩
  · exact c.elim
def oToInt : DC := fun ds P => match ds with
  | [.int i] => P (.int i)
  | [.bool b] => P (.int (if b then 1 else 0))
  | _ => False
theorem cv_int : CallV K (fun xs H Q => (∃ i, xs = [.int i] ∧ Q (.int i) H) ∨ ∃ k, xs = [.bl k] ∧ Q (.int (if k then 1 else 0)) H) oToInt := by
  intro B H vs ds P Q e a c k
  unfold oToInt at c
  split at c
  · obtain ⟨v, rfl, b⟩ := a.one
    cases b.int
    exact .inl ⟨_, rfl, k _ _ _ _ c .no (.int _)⟩
  · obtain ⟨v, rfl, b⟩ := a.one
    cases b.bool
    exact .inr ⟨_, rfl, k _ _ _ _ c .no (.int _)⟩
  · exact c.elim
def oSeqN : List D → (List D → Prop) → Prop := fun ds P => match ds with
  | [.list xs] => P xs
  | [.tuple xs] => P xs
  | _ => False
theorem cv_list : CallVN K (fun xs H Q => ∃ p ys, xs = [.ref p] ∧ (SqL K H p ys ∨ SqT K H p ys) ∧ ∀ l, H l = none → Q (.ref l) (upd H l (.lst ys))) oSeqN := by
  intro B H vs ds P Q e a c k
  unfold oSeqN at c
  split at c
  · obtain ⟨v, rfl, b⟩ := a.one
    obtain ⟨l, xs, rfl, h1, r1⟩ := b.list e
    exact ⟨l, xs, rfl, .inl h1, fun p hp => k _ p xs c hp r1⟩
  · obtain ⟨v, rfl, b⟩ := a.one
    obtain ⟨l, xs, rfl, h1, r1⟩ := b.tup e
    exact ⟨l, xs, rfl, .inr h1, fun p hp => k _ p xs c hp r1⟩
  · exact c.elim
def oTupOf : DC := fun ds P => match ds with
  | [.list xs] => P (.tuple xs)
  | [.tuple xs] => P (.tuple xs)
  | _ => False
theorem free_of {B H : Hp} (e : ∀ a u, B a = some u → H a = some u) {p : Addr} (h : H p = none) : B p = none := by
  cases z : B p with
  | none => rfl
  | some o =>
    rw [e p o z] at h
    cases h
theorem cv_tuple : CallV K (fun xs H Q => ∃ p ys, xs = [.ref p] ∧ ((SqL K H p ys ∧ ∀ l, H l = none → Q (.ref l) (upd H l (.tup ys))) ∨ (SqT K H p ys ∧ Q (.ref p) H))) oTupOf := by
  intro B H vs ds P Q e a c k
  unfold oTupOf at c
  split at c
  · obtain ⟨v, rfl, b⟩ := a.one
    obtain ⟨l, xs, rfl, h1, r1⟩ := b.list e
    exact ⟨l, xs, rfl, .inl ⟨h1, fun p hp => k _ _ _ _ c (.new hp) (.tup upd_same (DqAll.ext (.new (free_of e hp)) r1))⟩⟩
  · obtain ⟨v, rfl, b⟩ := a.one
    cases b with
    | dp b =>
      cases b with
      | tup h1 r1 => exact ⟨_, _, rfl, .inr ⟨sqT_ext (.of e) (tupS h1), k _ _ _ _ c .no (.tup h1 r1)⟩⟩
  · exact c.elim
end
def realD : List (D × D) → Bool
  | (.list _, _) :: _ => false
  | _ => true
def tyD : D → String
  | .none => "NoneType"
  | .bool _ => "bool"
  | .int _ => "int"
  | .str _ => "str"
  | .list _ => "list"
  | .tuple _ => "tuple"
  | .dict kvs => if realD kvs = true then "dict" else "set"
theorem tyD_dict {K : Fg} {B : Hp} {vs : List (Key × V)} {ds : List (D × D)} (r : DqPs K B vs ds) : tyD (.dict ds) = "dict" := by
  cases r with
  | nil => rfl
  | @cons k v d r s h t => cases k <;> rfl
/-- what isinstance is told of a value: the library's, and of a dict for good with tuples as keys -/
def TyY (K : Fg) (H : Hp) (v : V) (t : Value) : Prop := TyX K H v t ∨ ∃ (a : Addr) (o : Obj) (kvs : List (List Key × V)), v = .ref a ∧ t = .type "dict" ∧ H a = some (.frz o (.dT kvs))
theorem kit_y {X : Cx} {pins : List (Addr × Obj)} {σ : L2.St} {H : Hp} {s : Shared} {x : V} {u t : Value} (I : Inv X pins σ H s) (r : RelV x u) (y : TyY X.K H x t) : ∃ P : Heap → Prop, PySem.W.KitX X.K u t P ∧ P s.heap ∧ u ≠ .builtin "__main__.__loader__#opaque" := by
  rcases y with y | ⟨a, o, kvs, rfl, rfl, h⟩
  · exact kit_of I r y
  · obtain rfl : u = Value.ref a := r
    obtain ⟨_, e, x, _⟩ := I.frzT h
    exact ⟨_, PySem.W.kitx_dict, ⟨o, e, x.1⟩, fun z => nomatch z⟩
def rIsiY (K : Fg) : List V → Hp → VK → Prop := fun xs H Q => ∃ x c t u b, xs = [x, c] ∧ ClsV c u ∧ TyY K H x t ∧ PySem.W.kitOne K t u = some b ∧ Q (.bl b) H
def rIsiTY (K : Fg) : List V → Hp → VK → Prop := fun xs H Q => ∃ x tp cs t us b, xs = [x, .ref tp] ∧ H tp = some (.tup cs) ∧ Paired ClsV cs us ∧ TyY K H x t ∧ PySem.W.kitAny K t us = some b ∧ Q (.bl b) H
theorem call_isiY {X : Cx} : CallR X (.builtin "isinstance") (rIsiY X.K) := by
  rintro pins s σ H xs us Q I r ⟨x, c, t, u, b, rfl, cl, y, e, q⟩
  obtain ⟨u1, u2, rfl, r1, r2⟩ := vals2 r
  obtain rfl := cl.eq r2
  obtain ⟨P, z, p, n⟩ := kit_y I r1 y
  exact PySem.W.kia_one z I.kIn p e n fun tk => ⟨.bl b, H, I.tok tk, rfl, q⟩
theorem call_isiTY {X : Cx} : CallR X (.builtin "isinstance") (rIsiTY X.K) := by
  rintro pins s σ H xs us Q I r ⟨x, tp, cs, t, ws, b, rfl, ht, pc, y, e, q⟩
  obtain ⟨u1, u2, rfl, r1, r2⟩ := vals2 r
  obtain rfl : u2 = Value.ref tp := r2
  obtain ⟨P, z, p, n⟩ := kit_y I r1 y
  obtain ⟨_, its, rv, ob, g1, g2, m, g3⟩ := (show ObjOk X.prog X.w H s.heap tp (.tup cs) from I.hok tp _ ht)
  obtain rfl := ClsV.all pc rv
  obtain ⟨oc, od, dt, sl⟩ := ob
  simp only at g2 g3
  subst g2 g3
  exact PySem.W.kia_tup z I.kIn p g1 e n fun tk => ⟨.bl b, H, I.tok tk, rfl, q⟩
theorem tyX_of {K : Fg} {B H : Hp} (e : ∀ a u, B a = some u → H a = some u) {v : V} {d : D} (h : Rv K B H v d) : TyY K H v (.type (tyD d)) := by
  cases h with
  | ls h r => exact .inl (.base (.lst h))
  | dp h =>
    cases h with
    | non => exact .inl (.base .non)
    | bl b => exact .inl (.base (.bl b))
    | int i => exact .inl (.base (.int i))
    | str x => exact .inl (.base (.str x))
    | lst h r =>
      rcases h with (h | ⟨o, h⟩) | ⟨o, its, n, h1, h2, _⟩
      · exact .inl (.base (.lst (e _ _ h)))
      · exact .inl (.base (.frz (e _ _ h)))
      · exact .inl (.kList h1 h2)
    | tup h r => exact .inl (.base (.tup (e _ _ h)))
    | dct h r =>
      rw [tyD_dict r]
      rcases h with h | ⟨o, h⟩
      · exact .inl (.base (.dK (e _ _ h)))
      · exact .inl (.fDict (e _ _ h))
    | st h r => exact .inl (.set (e _ _ h))
    | dtt h r => exact .inr ⟨_, _, _, rfl, rfl, e _ _ h⟩
/-- isinstance of data, T one of int, bool, str, list, tuple, dict -/
def isiD (T : String) (d : D) : Bool := match d with
  | .bool _ => T == "bool" || T == "int"
  | .dict kvs => realD kvs && (T == "dict")
  | d => tyD d == T
def goodTy (T : String) : Bool := ["int", "bool", "str", "list", "tuple", "dict"].contains T
theorem isi_kit {T : String} (h : goodTy T = true) (d : D) : kitB (tyD d) T = some (isiD T d) := by
  have h' : T ∈ ["int", "bool", "str", "list", "tuple", "dict"] := by simpa [goodTy] using h
  simp only [List.mem_cons, List.not_mem_nil, or_false] at h'
  rcases h' with rfl | rfl | rfl | rfl | rfl | rfl <;> cases d <;> first | decide +kernel | rfl | (rename_i ds; simp only [isiD, tyD]; cases realD ds <;> first | decide +kernel | rfl)
def wIsi (T : String) (t : WE) : WE := fun ρ P => t ρ fun c ρ1 => ∃ d, der ρ1 c = some d ∧ P (.d (.bool (isiD T d))) ρ1
def wIsi2 (T U : String) (t : WE) : WE := fun ρ P => t ρ fun c ρ1 => ∃ d, der ρ1 c = some d ∧ P (.d (.bool (isiD T d || isiD U d))) ρ1
section
variable {X : Cx} {as : As} {x : Str} {p pos q1 q2 q3 : Pos} {a b e : Expr} {es : List Expr} {t : WE}
theorem visi {T : String} {n : Str} (hm : X.mg "isinstance" = none) (hT : X.mg n = none) (bT : bootBuiltins n = some (.type T)) (ha : PE X a (up X.K as t)) (gT : goodTy T = true := by decide) (hg : Gl X "isinstance" := by rfl) (hgT : Gl X n := by rfl) (hn : n ≠ "__name__" := by decide) (hd : (n == ("__debug__" : Str)) = false := by decide)
    (he : starEach [a, .Name n q1] X.env = (false, eval a X.env) :: starEach [.Name n q1] X.env := by rfl) (he1 : starEach [.Name n q1] X.env = (false, eval (.Name n q1) X.env) :: starEach [] X.env := by rfl) (hpl : (backTo pos (starEach [.Name n q1] X.env)).any (·.1) = false := by rfl) :
    PE X (.Call (.Name "isinstance" p) [a, .Name n q1] [] pos) (up X.K as (wIsi T t)) := by
  refine pe_imp (pe_callB call_isiY hg hm (by decide +kernel) (pa_cons ha (pa_cons (pe_bltn (v := .ty T) hgT hT bT rfl hn hd) pa_nil he1) he) (by decide) (by decide) he hpl) fun σ H Q ⟨Z, ρ, B, P, S, h, k⟩ => ⟨Z, ρ, B, _, S, h, fun c ρ1 v B1 H1 h1 x1 S1 o1 => ?_⟩
  obtain ⟨d, e1, h2⟩ := h1
  exact ⟨v, .ty T, _, _, _, rfl, .ty T, tyX_of S1.subE (rv_of S1 o1 e1), kit_ty (isi_kit gT d), k _ _ _ B1 H1 h2 x1 S1 (.bl _)⟩
theorem visi2 {T U : String} {n m : Str} {k1 : _} (hm : X.mg "isinstance" = none) (hT : X.mg n = none) (bT : bootBuiltins n = some (.type T)) (hU : X.mg m = none) (bU : bootBuiltins m = some (.type U)) (ha : PE X a (up X.K as t)) (gT : goodTy T = true := by decide) (gU : goodTy U = true := by decide) (hg : Gl X "isinstance" := by rfl) (hgT : Gl X n := by rfl) (hn : n ≠ "__name__" := by decide) (hd : (n == ("__debug__" : Str)) = false := by decide) (hgU : Gl X m := by rfl) (hnU : m ≠ "__name__" := by decide) (hdU : (m == ("__debug__" : Str)) = false := by decide)
    (he : starEach [a, .Tuple [.Name n q1, .Name m q2] k1 q3] X.env = (false, eval a X.env) :: starEach [.Tuple [.Name n q1, .Name m q2] k1 q3] X.env := by rfl) (he1 : starEach [.Tuple [.Name n q1, .Name m q2] k1 q3] X.env = (false, eval (.Tuple [.Name n q1, .Name m q2] k1 q3) X.env) :: starEach [] X.env := by rfl)
    (he2 : starEach [.Name n q1, .Name m q2] X.env = (false, eval (.Name n q1) X.env) :: starEach [.Name m q2] X.env := by rfl) (he3 : starEach [.Name m q2] X.env = (false, eval (.Name m q2) X.env) :: starEach [] X.env := by rfl) (hpl : (backTo pos (starEach [.Tuple [.Name n q1, .Name m q2] k1 q3] X.env)).any (·.1) = false := by rfl) :
    PE X (.Call (.Name "isinstance" p) [a, .Tuple [.Name n q1, .Name m q2] k1 q3] [] pos) (up X.K as (wIsi2 T U t)) := by
  refine pe_imp (pe_callB call_isiTY hg hm (by decide +kernel) (pa_cons ha (pa_cons (pe_tup (pa_cons (pe_bltn (v := .ty T) hgT hT bT rfl hn hd) (pa_cons (pe_bltn (v := .ty U) hgU hU bU rfl hnU hdU) pa_nil he3) he2)) pa_nil he1) he) (by decide) (by decide) he hpl) fun σ H Q ⟨Z, ρ, B, P, S, h, k⟩ => ⟨Z, ρ, B, _, S, h, fun c ρ1 v B1 H1 h1 x1 S1 o1 => ?_⟩
  obtain ⟨d, e1, h2⟩ := h1
  refine ⟨by show 2 ≤ sizeLine; decide, fun tp htp => ?_⟩
  have S2 := S1.al (o := .tup [.ty T, .ty U]) htp
  have x2 := ExT.new (o := .tup [.ty T, .ty U]) (S1.free htp)
  have o2 : CvOk X.K σ (upd B1 tp (.tup [.ty T, .ty U])) v c := o1.ext x2
  have kT : PySem.W.kitOne X.K (.type (tyD d)) (.type T) = some (isiD T d) := kit_ty (isi_kit gT d)
  have kU : PySem.W.kitOne X.K (.type (tyD d)) (.type U) = some (isiD U d) := kit_ty (isi_kit gU d)
  have kA : PySem.W.kitAny X.K (.type (tyD d)) [.type T, .type U] = some (isiD T d || isiD U d) := kitAny_cons kT (fun z => by
      rw [z]
      refine kitAny_cons kU (fun y => ?_) (fun y => ?_)
      · rw [y]
        rfl
      · rw [y]
        rfl) fun z => by rw [z]; rfl
  exact ⟨v, tp, [.ty T, .ty U], _, [.type T, .type U], _, rfl, upd_same, .cons (.ty T) (.cons (.ty U) .nil), tyX_of S2.subE (rv_of S2 o2 e1), kA, k _ _ _ _ _ h2 (x1.trans x2) S2 (.bl _)⟩
end
end VL
end
section
set_option autoImplicit false
set_option maxRecDepth 100000
set_option maxHeartbeats 2000000
namespace VL
open PySem PySem.Spec PyProof.Rows L2
section
variable {X : Cx} {as : As} {a b e : Expr} {es : List Expr} {t u : WE} {pos : Pos} {x : Str}
/-- the object of the own list in slot i -/
theorem own_at {K : Fg} {Z : Hp} {ρ : En} {σ : L2.St} {B H : Hp} (S : Sv K as Z ρ σ B H) {i : Nat} {io : Bool} {ds : List D} (h : ρ[i]? = some (.lst io ds)) : ∃ p xs, σ[i]? = some (some (V.ref p)) ∧ H p = some (.lst xs) ∧ DqAll K B xs ds := by
  obtain ⟨p, h1, _, xs, h3, h4⟩ := S.own i _ h rfl
  exact ⟨p, xs, h1, h3, h4⟩
theorem Sv.store {K : Fg} {Z : Hp} {ρ : En} {σ : L2.St} {B H : Hp} (S : Sv K as Z ρ σ B H) {i : Nat} {io : Bool} {ds es : List D} {p : Addr} {ys : List V} (h : ρ[i]? = some (.lst io ds)) (hp : σ[i]? = some (some (V.ref p))) (r : DqAll K B ys es) : Sv K as Z (ρ.set i (.lst io es)) σ B (upd H p (.lst ys)) :=
  S.mut h rfl hp rfl (fun fs z => by
    cases z
    exact ⟨ds, rfl⟩) ⟨ys, upd_same, r⟩
/-- x.append(e), x an own list -/
def wApp (i : Nat) (t : WE) : WS := fun w ρ => (∃ io ds, ρ[i]? = some (.lst io ds)) ∧ t ρ fun c ρ1 => ∃ y io ds, c = .d y ∧ ρ1[i]? = some (.lst io ds) ∧ ds.length < sizeLine ∧ w.nx (ρ1.set i (.lst io (ds ++ [y])))
theorem sapp (i : Nat) {p1 p2 cpos : Pos} (ha : PE X e (up X.K as t)) (hN : X.N[i]? = some x := by rfl) (hv : Vis X.env.scope x := by first | exact Or.inl rfl | exact Or.inr (Or.inl rfl) | exact Or.inr (Or.inr rfl)) (hd : (x == ("__debug__" : Str)) = false := by decide) (hcd : (x == ("__classdict__" : Str)) = false := by decide)
    (hs : swapsWith (.Call (.Attribute (.Name x p1) "append" p2) [e] [] cpos) none pos.line X.env = pure false := by rfl) (hbase : attributeBase (.Name x p1) "append" X.env (eval (.Name x p1) X.env) = eval (.Name x p1) X.env := by rfl)
    (hfew : ((backTo cpos (starEach (e :: []) X.env)).all (fun x => !x.1) && (backToKw cpos (keywordEach [] X.env)).all (fun x => x.1.isSome) && decide ((e :: []).length + ([] : List Keyword).length + (if ([] : List Keyword).isEmpty then 0 else 1) < 30)) = true := by rfl)
    (hline : (p2.endLine == cpos.line) = true := by rfl) (he : starEach (e :: []) X.env = (false, eval e X.env) :: starEach [] X.env := by rfl) (hplain : (backTo cpos (starEach [] X.env)).any (·.1) = false := by rfl) :
    PS X (.Expr (.Call (.Attribute (.Name x p1) "append" p2) [e] [] cpos) pos) (upS X.K as (wApp i t)) := by
  refine ps_imp (ps_expr (pe_bm PySem.F.plainAttrs_list PySem.F.slot_list_append PySem.F.type_list_append mt_append (pe_var hN hv hd hcd) (pa_cons ha pa_nil he) hbase hfew hline he hplain) hs) fun E σ H ⟨Z, ρ, B, w, S, h, m⟩ => ?_
  obtain ⟨⟨io, ds, h0⟩, h⟩ := h
  obtain ⟨p, xs, q1, q2, q3⟩ := own_at S h0
  refine ⟨.ref p, q1, .inl ⟨rfl, xs, .inl (.inl q2)⟩, Z, ρ, B, _, S, h, fun c ρ1 v B1 H1 h1 x1 S1 o1 => ?_⟩
  obtain ⟨y, io1, ds1, rfl, h2, hl, h3⟩ := h1
  obtain ⟨p1, ys, r1, r2, r3⟩ := own_at S1 h2
  rw [q1] at r1
  cases r1
  have rl := r3.len
  exact ⟨p, ys, v, rfl, rfl, r2, by omega, m.nx _ _ B1 _ h3 x1 (S1.store h2 q1 (DqAll.app r3 (.cons o1 .nil)))⟩
/-- x.extend(e), e a new list -/
def wExt (i : Nat) (t : WN) : WS := fun w ρ => (∃ io ds, ρ[i]? = some (.lst io ds)) ∧ t ρ fun fs ρ1 => ∃ io ds, ρ1[i]? = some (.lst io ds) ∧ ds.length + fs.length ≤ sizeLine ∧ w.nx (ρ1.set i (.lst io (ds ++ fs)))
/-- x.insert(i, e) -/
def wIns (i : Nat) (r : WA) : WS := fun w ρ => (∃ io ds, ρ[i]? = some (.lst io ds)) ∧ r ρ fun cs ρ1 => ∃ k y io ds, cs = [.d (.int k), .d y] ∧ ρ1[i]? = some (.lst io ds) ∧ ds.length < sizeLine ∧ 0 ≤ k ∧ k < 2 ^ 63 ∧ w.nx (ρ1.set i (.lst io (ds.take k.toNat ++ [y] ++ ds.drop k.toNat)))
/-- x[k] = e -/
def wSetIt (i : Nat) (u t : WE) : WS := fun w ρ => t ρ fun c ρ1 => ∃ y, c = .d y ∧ (∃ io ds, ρ1[i]? = some (.lst io ds)) ∧ u ρ1 fun c2 ρ2 => ∃ k j io ds, c2 = .d (.int k) ∧ ρ2[i]? = some (.lst io ds) ∧ ixN ds.length k = some j ∧ w.nx (ρ2.set i (.lst io (ds.set j y)))
theorem ssetit (i : Nat) {p1 p2 : Pos} (he : PE X e (up X.K as t)) (hk : PE X b (up X.K as u)) (hN : X.N[i]? = some x := by rfl) (hv : Vis X.env.scope x := by first | exact Or.inl rfl | exact Or.inr (Or.inl rfl) | exact Or.inr (Or.inr rfl)) (hd : (x == ("__debug__" : Str)) = false := by decide) (hcd : (x == ("__classdict__" : Str)) = false := by decide)
    (ha : ∀ v, assign (.Subscript (.Name x p1) b p2) X.env v = (do
      let ov ← holding [v] (eval (.Name x p1) X.env)
      let iv ← holding [v, ov] (eval b X.env)
      standAt p2
      holding [v, ov, iv] (setItem ov iv v)
      release [v, ov, iv] []) := by intro _; rfl)
    (hs : swapsWithSole [.Subscript (.Name x p1) b p2] e pos.line X.env = pure false := by rfl) (hw : swappedStores [.Subscript (.Name x p1) b p2] e X.env = pure none := by rfl)
    (h1 : (assignEach [.Subscript (.Name x p1) b p2] X.env).map (·.2) = [assign (.Subscript (.Name x p1) b p2) X.env] := by rfl) : PS X (.Assign [.Subscript (.Name x p1) b p2] e pos) (upS X.K as (wSetIt i u t)) := by
  refine ps_imp (ps_asg he (pg_sub (pe_var hN hv hd hcd) hk set_list ha) hs hw h1) fun E σ H ⟨Z, ρ, B, w, S, h, m⟩ => ⟨Z, ρ, B, _, S, h, fun c ρ1 v B1 H1 h1 x1 S1 o1 => ?_⟩
  obtain ⟨y, rfl, ⟨io, ds, h0⟩, h⟩ := h1
  obtain ⟨p, xs, q1, q2, q3⟩ := own_at S1 h0
  refine ⟨.ref p, q1, Z, ρ1, B1, _, S1, h, fun c2 ρ2 v2 B2 H2 h2 x2 S2 o2 => ?_⟩
  obtain ⟨k, j, io2, ds2, rfl, h3, h4, h5⟩ := h2
  cases o2
  obtain ⟨p1, ys, r1, r2, r3⟩ := own_at S2 h3
  rw [q1] at r1
  cases r1
  exact ⟨p, ys, k, j, rfl, rfl, r2, by rw [r3.len]; exact h4, m.nx _ _ B2 _ h5 (x1.trans x2) (S2.store h3 q1 (DqAll.set _ r3 (Dq.ext x2 o1)))⟩
abbrev WO := En → (Option Int → En → Prop) → Prop
def wNoPart : WO := fun ρ P => P none ρ
def wPart (t : WE) : WO := fun ρ P => t ρ fun c ρ1 => match c with
  | .d (.int i) => P (some i) ρ1
  | _ => False
def cutD (ds : List D) (lo hi : Option Int) : List D := (ds.drop (HT.sIx ds.length 0 lo)).take (HT.sIx ds.length ds.length hi - HT.sIx ds.length 0 lo)
def wSl (t : WE) (lo hi : WO) : WE := fun ρ P => t ρ fun c ρ1 => lo ρ1 fun l ρ2 => hi ρ2 fun u ρ3 => match der ρ3 c with
  | some (.tuple ds) => P (.d (.tuple (cutD ds l u))) ρ3
  | some (.list ds) => P (.d (.list (cutD ds l u))) ρ3
  | _ => False
def wSlN (t : WE) (lo hi : WO) : WN := fun ρ P => t ρ fun c ρ1 => lo ρ1 fun l ρ2 => hi ρ2 fun u ρ3 => match der ρ3 c with
  | some (.list ds) => P (cutD ds l u) ρ3
  | _ => False
def flatD : D → Bool
  | .list _ => false
  | .tuple _ => false
  | .dict _ => false
  | _ => true
def inD (x : D) (ds : List D) : Bool := ds.any fun z => PyData.eqv z x
/-- x in a list or a tuple: of flat things, or data of any depth in a list -/
def oIn (neg : Bool) : DO := fun x y P => match y with
  | .list ds => ((flatD x = true ∧ ds.all flatD = true) ∨ (SeqAt.shaped x = true ∧ SeqAt.shaped (.list ds) = true)) ∧ P (.bool (if neg then !inD x ds else inD x ds))
  | .tuple ds => (flatD x = true ∧ ds.all flatD = true) ∧ P (.bool (if neg then !inD x ds else inD x ds))
  | _ => False
end
end VL
end
section
set_option autoImplicit false
set_option maxRecDepth 100000
set_option maxHeartbeats 2000000
namespace VL
open PySem PySem.Spec PyProof.Rows L2
section
variable {X : Cx} {as : As} {a b c e : Expr} {es : List Expr} {t u v : WE} {pos : Pos} {st : Stmt} {sts : List Stmt}
def wChain (o1 o2 : DO) (t u v : WE) : WE := fun ρ P => t ρ fun c1 ρ1 => u ρ1 fun c2 ρ2 => ∃ x y, der ρ2 c1 = some x ∧ der ρ2 c2 = some y ∧ o1 x y fun d =>
  (d = .bool true ∧ v ρ2 fun c3 ρ3 => ∃ y' z, der ρ3 c2 = some y' ∧ der ρ3 c3 = some z ∧ o2 y' z fun d' => P (.d d') ρ3) ∨ (d = .bool false ∧ P (.d (.bool false)) ρ2)
def wNeg (t : WE) : WE := fun ρ P => t ρ fun c ρ' => match c with
  | .d (.int i) => P (.d (.int (-i))) ρ'
  | _ => False
def valD {κ : Type} [DecidableEq κ] (kvs : List (κ × D)) (k : κ) : Option D := (kvs.find? fun kv => decide (kv.1 = k)).map (·.2)
def putD {κ : Type} [DecidableEq κ] (kvs : List (κ × D)) (k : κ) (v : D) : List (κ × D) :=
  if (kvs.any fun kv => decide (kv.1 = k)) = true then kvs.map (fun kv => if kv.1 = k then (kv.1, v) else kv) else kvs ++ [(k, v)]
theorem DqKV.any {κ : Type} [DecidableEq κ] {K : Fg} {B : Hp} (k : κ) : ∀ {vs : List (κ × V)} {ds : List (κ × D)}, DqKV K B vs ds → (vs.any fun kv => decide (kv.1 = k)) = ds.any fun kv => decide (kv.1 = k)
  | _, _, .nil => rfl
  | _, _, .cons h r => by rw [List.any_cons, List.any_cons, DqKV.any k r]
theorem DqKV.app {κ : Type} [DecidableEq κ] {K : Fg} {B : Hp} {ws : List (κ × V)} {es : List (κ × D)} (s : DqKV K B ws es) : ∀ {vs : List (κ × V)} {ds : List (κ × D)}, DqKV K B vs ds → DqKV K B (vs ++ ws) (ds ++ es)
  | _, _, .nil => s
  | _, _, .cons h r => .cons h (DqKV.app s r)
theorem DqKV.repl {κ : Type} [DecidableEq κ] {K : Fg} {B : Hp} {k : κ} {y : V} {d : D} (h : Dq K B y d) : ∀ {vs : List (κ × V)} {ds : List (κ × D)}, DqKV K B vs ds → DqKV K B (vs.map fun kv => if kv.1 = k then (kv.1, y) else kv) (ds.map fun kv => if kv.1 = k then (kv.1, d) else kv)
  | _, _, .nil => .nil
  | (k', v) :: vs, (_, d') :: ds, .cons h1 r => by
    rw [List.map_cons, List.map_cons]
    by_cases e : k' = k
    · simp only [e, if_true]
      exact .cons h (DqKV.repl h r)
    · simp only [e, if_false]
      exact .cons h1 (DqKV.repl h r)
theorem DqKV.put {κ : Type} [DecidableEq κ] {K : Fg} {B : Hp} {k : κ} {y : V} {d : D} {vs : List (κ × V)} {ds : List (κ × D)} (r : DqKV K B vs ds) (h : Dq K B y d) : DqKV K B (putK vs k y) (putD ds k d) := by
  unfold putK putD
  rw [DqKV.any k r]
  split
  · exact DqKV.repl h r
  · exact DqKV.app (.cons h .nil) r
theorem DqKV.val {κ : Type} [DecidableEq κ] {K : Fg} {B : Hp} (k : κ) : ∀ {vs : List (κ × V)} {ds : List (κ × D)}, DqKV K B vs ds → (valD ds k = none ∧ valV vs k = none) ∨ ∃ d v, valD ds k = some d ∧ valV vs k = some v ∧ Dq K B v d
  | _, _, .nil => .inl ⟨rfl, rfl⟩
  | (k', v) :: vs, (_, d') :: ds, .cons h1 r => by
    by_cases e : k' = k
    · refine .inr ⟨d', v, ?_, ?_, h1⟩
      · simp [valD, List.find?_cons, e]
      · exact valV_pos (p := (k', v)) e
    · have ih := DqKV.val k r
      rw [valV_neg (p := (k', v)) e, show valD ((k', d') :: ds) k = valD ds k by simp [valD, List.find?_cons, e]]
      exact ih
theorem DqKV.len {κ : Type} [DecidableEq κ] {K : Fg} {B : Hp} : ∀ {vs : List (κ × V)} {ds : List (κ × D)}, DqKV K B vs ds → vs.length = ds.length
  | _, _, .nil => rfl
  | _, _, .cons _ r => congrArg (· + 1) (DqKV.len r)
theorem Dq.key {K : Fg} {B : Hp} {v : V} : ∀ {k : Key}, Dq K B v (keyD k) → v = kV k
  | .inl i, h => by
    cases h
    rfl
  | .inr x, h => by
    cases h
    rfl
def wDnew (i : Nat) : WS := fun w ρ => i < ρ.length ∧ w.nx (ρ.set i (.dic []))
def wDput (i : Nat) (u t : WE) : WS := fun w ρ => t ρ fun c ρ1 => ∃ y, c = .d y ∧ (∃ kvs, ρ1[i]? = some (.dic kvs)) ∧ u ρ1 fun c2 ρ2 => ∃ k kvs, c2 = .d (keyD k) ∧ ρ2[i]? = some (.dic kvs) ∧ kvs.length < sizeLine ∧ w.nx (ρ2.set i (.dic (putD kvs k y)))
def wDget (i : Nat) (u : WE) : WE := fun ρ P => (∃ kvs, ρ[i]? = some (.dic kvs)) ∧ u ρ fun c ρ1 => ∃ k kvs y, c = .d (keyD k) ∧ ρ1[i]? = some (.dic kvs) ∧ valD kvs k = some y ∧ P (.d y) ρ1
def wDin (i : Nat) (u : WE) : WT := fun ρ P => u ρ fun c ρ1 => ∃ k kvs, c = .d (keyD k) ∧ ρ1[i]? = some (.dic kvs) ∧ P (valD kvs k).isSome ρ1
def wDnin (i : Nat) (u : WE) : WT := fun ρ P => u ρ fun c ρ1 => ∃ k kvs, c = .d (keyD k) ∧ ρ1[i]? = some (.dic kvs) ∧ P (!(valD kvs k).isSome) ρ1
theorem DqKV.isSome {K : Fg} {B : Hp} (k : Key) {vs : List (Key × V)} {ds : List (Key × D)} (r : DqKV K B vs ds) : (valV vs k).isSome = (valD ds k).isSome := by
  rcases r.val k with ⟨z, z2⟩ | ⟨d, vv, z1, z2, z3⟩
  · rw [z, z2]
    rfl
  · rw [z1, z2]
    rfl
def firstAt (ds : List D) (y : D) (j : Nat) : Prop := (∃ z, ds[j]? = some z ∧ PyData.eqv z y = true) ∧ ∀ (m : Nat) (z' : D), m < j → ds[m]? = some z' → PyData.eqv z' y = false
def wIndex (t0 t : WE) : WE := fun ρ P => t0 ρ fun c0 ρ0 => (∃ ds0, der ρ0 c0 = some (.list ds0)) ∧ t ρ0 fun c ρ1 => ∃ y ds j, c = .d y ∧ der ρ1 c0 = some (.list ds) ∧ flatD y = true ∧ ds.all flatD = true ∧ firstAt ds y j ∧ P (.d (.int j)) ρ1
def wRev (t : WE) : WE := fun ρ P => t ρ fun c ρ1 => match der ρ1 c with
  | some (.list ds) => P (.d (.list ds.reverse)) ρ1
  | _ => False
/-- a, b = a new list of the frame's own, data -/
def wParNE (i j : Nat) (n : WN) (t : WE) : WS := fun w ρ => n ρ fun ds ρ1 => t ρ1 fun c ρ2 => ∃ y, c = .d y ∧ i < ρ2.length ∧ w.nx ((ρ2.set i (.lst false ds)).set j (.dat y))
/-- a, b = data, a new list of the frame's own -/
def wParEN (i j : Nat) (t : WE) (n : WN) : WS := fun w ρ => t ρ fun c ρ1 => ∃ y, c = .d y ∧ n ρ1 fun ds ρ2 => j < ρ2.length ∧ w.nx ((ρ2.set i (.dat y)).set j (.lst false ds))
/-- a, b, c = data -/
def wPar3 (i j l : Nat) (r : WA) : WS := fun w ρ => r ρ fun cs ρ' => ∃ x y z, cs = [.d x, .d y, .d z] ∧ w.nx (((ρ'.set i (.dat x)).set j (.dat y)).set l (.dat z))
end
end VL
end
section
set_option autoImplicit false
set_option maxRecDepth 100000
set_option maxHeartbeats 2000000
namespace VL
open PySem PySem.Spec PyProof.Rows L2
/-- the places pm of xs -/
def gP {α : Type} (pm : List Nat) (xs : List α) : List α := pm.filterMap fun i => xs[i]?
theorem vals_at {vs : List V} {us : List Value} (r : Vals vs us) (i : Nat) : (vs[i]? = none ∧ us[i]? = none) ∨ ∃ v u, vs[i]? = some v ∧ us[i]? = some u ∧ RelV v u := by
  by_cases h : i < vs.length
  · obtain ⟨u, hu, ru⟩ := r.get (List.getElem?_eq_getElem h)
    exact .inr ⟨_, u, List.getElem?_eq_getElem h, hu, ru⟩
  · have l := r.length
    exact .inl ⟨List.getElem?_eq_none (by omega), List.getElem?_eq_none (by omega)⟩
theorem vals_gP {vs : List V} {us : List Value} (r : Vals vs us) : ∀ pm : List Nat, Vals (gP pm vs) (gP pm us)
  | [] => .nil
  | i :: pm => by
    rcases vals_at r i with ⟨h1, h2⟩ | ⟨v, u, h1, h2, h3⟩
    · have e1 : gP (i :: pm) vs = gP pm vs := by simp [gP, h1]
      have e2 : gP (i :: pm) us = gP pm us := by simp [gP, h2]
      rw [e1, e2]
      exact vals_gP r pm
    · have e1 : gP (i :: pm) vs = v :: gP pm vs := by simp [gP, h1]
      have e2 : gP (i :: pm) us = u :: gP pm us := by simp [gP, h2]
      rw [e1, e2]
      exact .cons h3 (vals_gP r pm)
theorem dqs_gP {K : Fg} {B : Hp} {vs : List V} {ds : List D} (r : DqAll K B vs ds) : ∀ pm : List Nat, DqAll K B (gP pm vs) (gP pm ds)
  | [] => .nil
  | i :: pm => by
    cases h : vs[i]? with
    | none =>
      have h2 : ds[i]? = none := by
        have l := r.len
        rw [List.getElem?_eq_none_iff] at h ⊢
        omega
      have e1 : gP (i :: pm) vs = gP pm vs := by simp [gP, h]
      have e2 : gP (i :: pm) ds = gP pm ds := by simp [gP, h2]
      rw [e1, e2]
      exact dqs_gP r pm
    | some v =>
      obtain ⟨d, h2, h3⟩ := r.getV h
      have e1 : gP (i :: pm) vs = v :: gP pm vs := by simp [gP, h]
      have e2 : gP (i :: pm) ds = d :: gP pm ds := by simp [gP, h2]
      rw [e1, e2]
      exact .cons h3 (dqs_gP r pm)
theorem CvsOk.len {K : Fg} {σ : L2.St} {B : Hp} : ∀ {vs : List V} {cs : List CV}, CvsOk K σ B vs cs → vs.length = cs.length
  | [], [], _ => rfl
  | _ :: _, _ :: _, h => congrArg (· + 1) (CvsOk.len h.2)
  | [], _ :: _, h => h.elim
  | _ :: _, [], h => h.elim
theorem CvsOk.app {K : Fg} {σ : L2.St} {B : Hp} {ws : List V} {es : List CV} (s : CvsOk K σ B ws es) : ∀ {vs : List V} {cs : List CV}, CvsOk K σ B vs cs → CvsOk K σ B (vs ++ ws) (cs ++ es)
  | [], [], _ => s
  | _ :: _, _ :: _, h => ⟨h.1, CvsOk.app s h.2⟩
  | [], _ :: _, h => h.elim
  | _ :: _, [], h => h.elim
/-- how a call with keywords binds -/
structure KwB (K : Fg) (fd : FuncData) (ps : List Str) (n : Nat) (ks : List Str) (pm : List Nat) : Prop where
  to : ∀ (s : Shared) (us ws : List Value), K.In s.heap → us.length = n → ws.length = ks.length → BindsTo s fd ⟨us, ks.zip ws⟩ (ps.zip (gP pm (us ++ ws)))
theorem kw_of {K : Fg} {x qual : Str} {st : Stmt} {f : Addr} {fd : FuncData} {ps ks : List Str} {n : Nat} {pm : List Nat} (F : Fun K x qual st f fd)
    (h : ∀ (kV doc pmv : Value) (an : Option Addr) (cdv ct : Value) (us ws : List Value), us.length = n → ws.length = ks.length → bindArgs (PySem.W.fnOf x qual (defArgs st) (defBody st) (defScope st) .none kV doc pmv an cdv ct) ⟨us, ks.zip ws⟩ = pure (ps.zip (gP pm (us ++ ws)))) : KwB K fd ps n ks pm := by
  obtain ⟨oc, od, kV, doc, pmv, an, cdv, ct, osl, rfl, lk, hcd⟩ := F.ex
  exact ⟨fun s us ws _ h1 h2 => BindsTo.of_eq (h kV doc pmv an cdv ct us ws h1 h2)⟩
section
variable {X : Cx} {k n m : Nat} {f : Addr} {fd : FuncData} {ps ks : List Str} {sp : Sp} {pm : List Nat}
theorem run_partK {W : Addr → Prop} {H B : Hp} {pins : List (Addr × Obj)} {σ : L2.St} {s : Shared} {Q : VK} {us ws : List Value} {vs zs : List V} (F : FnOk X.prog X.w X.K X.mg X.base CX0 k f fd ps sp) (hr : Room k X.A) (hb : KwB X.K fd ps n ks pm) (I : Inv X pins σ H s) (p : Part W H B) (r : Vals vs us) (rz : Vals zs ws)
    (l1 : vs.length = n) (l2 : zs.length = ks.length) (h : sp (gP pm (vs ++ zs)) B (fun v B' => (∀ a, W a → B' a = none) → Q v (ovl W H B')) E0) : wpAny (model X.prog X.w) X.A (call (.ref f) us (ks.zip ws)) (EP X pins σ Q) X.xe s := by
  have rr := vals_gP (r.append rz) pm
  have e0 := I.env0
  have nB : ∀ b, H b = none → B b = none := fun b n => by
    cases e : B b with
    | none => rfl
    | some o =>
      rw [p.sub e] at n
      cases n
  have e1 : Env0 X.prog X.w X.K X.mg X.base X.A X.stack s B := ⟨e0.frames, e0.mod, fun b o e => ⟨(e0.bs b o e).1, nB b (e0.bs b o e).2⟩, e0.bsz, e0.funs, fun b hb => nB b (e0.frf b hb), p.ok e0.hok, e0.bare⟩
  refine wpAny_call (codeAny_mono (F.run X.A X.stack s B ⟨us, ks.zip ws⟩ (gP pm (us ++ ws)) (gP pm (vs ++ zs)) _ E0 hr e1 (hb.to s us ws I.kIn (r.length.symm.trans l1) (rz.length.symm.trans l2)) rr h) fun r s' hq => ?_)
  cases r with
  | error e => exact False.elim hq
  | ok fl =>
    cases fl with
    | ret u =>
      obtain ⟨v, B', os, bare, un, hok, rv, q⟩ := hq
      obtain ⟨u1, u2, u3⟩ := p.un un I.hok hok e0.frf
      exact I.after ⟨v, _, os, bare, u1, u2, rv, q u3⟩
    | next => exact False.elim hq
    | brk => exact False.elim hq
    | cont => exact False.elim hq
def tCallKP (sp : Sp) (pm : List Nat) (n m : Nat) (t tk : TA) : TE := fun σ H Q => t σ H fun vs H1 => tk σ H1 fun zs H2 => ∃ (W : Addr → Prop) (B : Hp), Part W H2 B ∧ vs.length = n ∧ zs.length = m ∧ sp (gP pm (vs ++ zs)) B (fun v B' => (∀ a, W a → B' a = none) → Q v (ovl W H2 B')) E0
theorem pe_callKP0 {x : Str} {p pos : Pos} {kws : List Keyword} {tk : TA} (F : FnOk X.prog X.w X.K X.mg X.base CX0 k f fd ps sp) (hr : Room k X.A) (hg : Gl X x) (hm : X.mg x = some (.ref f)) (hk : PySem.W.keepIn X.K (.ref f) = true) (hb : KwB X.K fd ps 0 ks pm)
    (hkw : PK X kws tk) (hl : ks.length = m) (hall : (backToKw pos (keywordEach kws X.env)).all (·.1.isSome) = true := by rfl) (hks : (backToKw pos (keywordEach kws X.env)).filterMap (·.1) = ks := by rfl)
    (hdb : (x == ("__debug__" : Str)) = false := by decide)
    (hpl : ((backTo pos (starEach [] X.env)).any (·.1) || (backToKw pos (keywordEach kws X.env)).any (·.1.isNone)) = false := by rfl) :
    PE X (.Call (.Name x p) [] kws pos) (tCallKP sp pm 0 m tNil tk) := by
  refine ⟨fun pins s σ H Q I h => ?_⟩
  refine wpAny_Call_Name_kw (ld_glob I hg hm ?_ hdb)
  refine PySem.W.callWith_KW0 (h₀ := X.base) I.ok.mod.kin hk hall ?_ hpl
  refine thn (hkw.run pos pins s σ H _ I h) fun ws s2 ⟨zs, H2, I2, rz, W, B, p, l1, l2, q2⟩ => ⟨I2.kIn, ?_⟩
  rw [hks]
  exact run_partK (us := []) (vs := []) F hr hb I2 p .nil rz l1 (l2.trans hl.symm) q2
end
def wCallK (n m : Nat) (pm : List Nat) (S : Spec) (r rk : WA) : WE := fun ρ P => r ρ fun cs ρ0 => rk ρ0 fun zs ρ1 => ∃ ds, dats (cs ++ zs) = some ds ∧ cs.length = n ∧ zs.length = m ∧ (gP pm ds).length = pm.length ∧ S ((gP pm ds).map .dat) fun rv _ => match rv with
  | .d x => P (.d x) ρ1
  | .new es => P (.d (.list es)) ρ1
  | .err _ _ => False
section
variable {X : Cx} {as : As} {k n m : Nat} {f : Addr} {fd : FuncData} {ps ks : List Str} {S : Spec} {x : Str} {p pos kpos : Pos} {e : Expr} {es : List Expr} {kws : List Keyword} {r rk : WA} {pm : List Nat} {t : WE} {nm : Option Str}
theorem aknil : PK X [] (upA X.K as wNil) := ⟨fun pos pins s σ H Q I ⟨Z, ρ, B, P, S, h, kk⟩ => pk_nil.run pos pins s σ H Q I (kk _ _ [] B H h (.refl B) S True.intro)⟩
theorem akcons (ha : PE X e (up X.K as t)) (hr : PK X kws (upA X.K as r)) : PK X (⟨nm, e, kpos⟩ :: kws) (upA X.K as (wCons t r)) :=
  ⟨fun pos pins s σ H Q I ⟨Z, ρ, B, P, S, h, kk⟩ => (pk_cons ha hr).run pos pins s σ H Q I ⟨Z, ρ, B, _, S, h, fun c ρ1 v B1 H1 h1 x1 S1 o1 => ⟨Z, ρ1, B1, _, S1, h1, fun cs ρ2 vs B2 H2 h2 x2 S2 o2 => kk _ _ (v :: vs) B2 H2 h2 (x1.trans x2) S2 ⟨o1.ext x2, o2⟩⟩⟩⟩
theorem up_callK {K : Fg} {σ : L2.St} {H : Hp} {Q : VK} (h : up K as (wCallK n m pm S r rk) σ H Q) : tCallKP (spV K as.2.1 pm.length S) pm n m (upA K as r) (upA K as rk) σ H Q := by
  obtain ⟨Z, ρ, B, P, S0, h, kk⟩ := h
  refine ⟨Z, ρ, B, _, S0, h, fun cs ρ0 vs B0 H0 h0 x0 S00 o0 => ⟨Z, ρ0, B0, _, S00, h0, fun zs ρ1 ws B1 H1 h1 x1' S1 o1 => ?_⟩⟩
  obtain ⟨ds, e1, e2, e3, e4, hs⟩ := h1
  have x1 := x0.trans x1'
  have o := CvsOk.app o1 (CvsOk.ext x1' o0)
  have r0 := dats_ok o e1
  have r := dqs_gP r0 pm
  refine ⟨_, B1, S1.part, by rw [o0.len]; exact e2, by rw [o1.len]; exact e3, by rw [r.len]; exact e4, _, B1, _, dats_map r S1.tab, hs, fun y ρ' v B' H' q x2 S2 dq hW => ?_, fun fs ρ' pp xs B' H' q x2 S2 hp dq hW => ?_⟩
  · have x3 : ExT B1 H' := x2.trans S2.ext
    exact kk _ _ v H' _ q (x1.trans x3) (S1.called x3 hW) (Dq.ext S2.ext dq)
  · have x4 : ExT B' (upd H' pp (.lst xs)) := S2.ext.trans (.new hp)
    have x3 : ExT B1 (upd H' pp (.lst xs)) := x2.trans x4
    exact kk _ _ _ _ _ q (x1.trans x3) (S1.called x3 hW) (.lst (.inl (.inl upd_same)) (DqAll.ext x4 dq))
theorem up_nil0 {K : Fg} {σ : L2.St} {H : Hp} {Q : VK} {sp : Sp} {tk : TA} (h : tCallKP sp pm 0 m (upA K as wNil) tk σ H Q) : tCallKP sp pm 0 m tNil tk σ H Q := by
  obtain ⟨Z, ρ, B, P, S, h, k⟩ := h
  exact k _ _ [] B H h (.refl B) S True.intro
theorem vcallK0 (F : CallOk X as.2.1 k pm.length x f fd ps S) (hr : Room k X.A) (hb : KwB X.K fd ps 0 ks pm) (hkw : PK X kws (upA X.K as rk)) (hl : ks.length = m := by rfl) (hg : Gl X x := by rfl) (hall : (backToKw pos (keywordEach kws X.env)).all (·.1.isSome) = true := by rfl) (hks : (backToKw pos (keywordEach kws X.env)).filterMap (·.1) = ks := by rfl)
    (hdb : (x == ("__debug__" : Str)) = false := by decide)
    (hpl : ((backTo pos (starEach [] X.env)).any (·.1) || (backToKw pos (keywordEach kws X.env)).any (·.1.isNone)) = false := by rfl) :
    PE X (.Call (.Name x p) [] kws pos) (up X.K as (wCallK 0 m pm S wNil rk)) := pe_imp (pe_callKP0 F.fn hr hg F.g F.kp hb hkw hl hall hks hdb hpl) fun _ _ _ h => up_nil0 (up_callK h)
end
end VL
end
section
set_option autoImplicit false
set_option maxRecDepth 100000
set_option maxHeartbeats 2000000
namespace VL
open PySem PySem.Spec PyProof.Rows L2
def CSh (i j : Int) : Prop := 0 ≤ j ∧ (i.natAbs.log2 : Int) + j ≤ 1000000
abbrev oShl' : DO := oI CSh fun i j => .int (i * 2 ^ j.toNat)
structure FOk (P : Program) (w : World) (K : Fg) (ts : List Addr) (mg : Str → Option Value) (base : Heap) (k n : Nat) (x : Str) (f : Addr) (fd : FuncData) (ps : List Str) (S : Spec) : Prop where
  fn : FnOk P w K mg base CX0 k f fd ps (spV K ts n S)
  g : mg x = some (.ref f)
  kp : PySem.W.keepIn K (.ref f) = true
  b : Binds K fd ps []
theorem hu65 {A : Around} {k : Nat} (hr : Room k A) : A.units + 65 < cLine := by
  have := hr.un
  omega
end VL
end
section
set_option autoImplicit false
set_option maxRecDepth 100000
set_option maxHeartbeats 2000000
namespace VL
open PySem PySem.Spec PyProof.Rows L2
theorem no_spec {P : Program} {w : World} {K : Fg} {mg : Str → Option Value} {base : Heap} {x qual : Str} {st : Stmt} {f : Addr} {fd : FuncData} {N ps : List Str} {k n : Nat} {ts : List Addr} {S : VL.Spec} (F : Fun K x qual st f fd) (Sc : FnScope N ps (defScope st)) (hn : ps.length = n) (hN : n ≤ N.length)
    (hS : ∀ ρ Q, S ρ Q → False) : FnOk P w K mg base CX0 (k + 1) f fd ps (spV K ts n S) := by
  refine F.ok Sc (fun vs H Q E h => h.1.trans hn.symm) (fun cdv A outer s H vs Q E hr h => ?_)
  obtain ⟨hl, ρ, B, R, Sv0, hs, _⟩ := h
  exact (hS ρ R hs).elim
theorem atI_0 {α : Type} {x : α} {r : List α} : atI (x :: r) 0 = some x := by
  unfold atI
  rw [show ixN (x :: r).length 0 = some 0 by simp [ixN]]
  rfl
theorem atI_1 {α : Type} {x y : α} {r : List α} : atI (x :: y :: r) 1 = some y := by
  unfold atI
  rw [show ixN (x :: y :: r).length 1 = some 1 by simp [ixN]; omega]
  rfl
theorem atI_2 {α : Type} {x y z : α} {r : List α} : atI (x :: y :: z :: r) 2 = some z := by
  unfold atI
  rw [show ixN (x :: y :: z :: r).length 2 = some 2 by simp [ixN]; omega]
  rfl
theorem shp_int {i : Int} : shp (.int i) = true := rfl
theorem shp_bool {i : Bool} : shp (.bool i) = true := rfl
theorem shp_none : shp .none = true := rfl
theorem eqv_int {i j : Int} : PyData.eqv (.int i) (.int j) = decide (i = j) := by
  simp only [PyData.eqv]
  by_cases h : i = j <;> simp [h]
theorem eqv_bool {i j : Bool} : PyData.eqv (.bool i) (.bool j) = decide (i = j) := by cases i <;> cases j <;> rfl
theorem ixN_20 : ixN 2 0 = some 0 := rfl
theorem ixN_21 : ixN 2 1 = some 1 := rfl
end VL
namespace VL
open PySem PySem.Spec PyProof.Rows L2
/-- the law's own call: a list of ints that stays -/
theorem law_sp {K : Fg} {H : Hp} {a : Addr} {ns : List Int} {ts : List Addr} {S : VL.Spec} (hT : ∀ p ∈ ts, H p = some (.tbl #[])) (hS : SqL K H a (ns.map V.int)) (h : S [.dat (.list (ns.map .int))] fun rv _ => rv = .d (.bool true)) : spV K ts 1 S [.ref a] H (fun v _ => v = V.bl true) fun _ _ _ => False := by
  refine ⟨rfl, _, H, _, dats_map (.cons (.lst hS (dqAll_ints ns)) .nil) (fun P hP => .of0 (hT P hP)), h, fun x ρ' v B' H' q x2 S2 dq => ?_, fun ds ρ' p xs B' H' q x2 S2 hp dq => ?_⟩
  · cases q
    cases dq
    rfl
  · cases q
end VL
end
section
set_option autoImplicit false
set_option maxRecDepth 100000
set_option maxHeartbeats 2000000
namespace VL
open PySem PySem.Spec PyProof.Rows L2
def mergeD (kvs more : List (Key × D)) : List (Key × D) := more.foldl (fun acc kv => putD acc kv.1 kv.2) kvs
/-- the pairs, from the left; the keys are written out -/
def wPairs : List (Key × WE) → En → (List (Key × D) → En → Prop) → Prop
  | [], ρ, P => P [] ρ
  | (k, t) :: r, ρ, P => t ρ fun c ρ1 => ∃ y, c = .d y ∧ wPairs r ρ1 fun kvs ρ2 => P ((k, y) :: kvs) ρ2
section
variable {X : Cx} {as : As} {e : Expr} {t : WE} {pos kp : Pos} {ks : List (Option Expr)} {vs : List Expr} {trs : List (TE × TE)} {ws : List (Key × WE)}
/-- {}, {k: e, ..} as data -/
def wDisp0 : WE := fun ρ P => P (.d (.dict [])) ρ
def wDisp (ws : List (Key × WE)) : WE := fun ρ P => wPairs ws ρ fun kvs ρ' => kvs.length ≤ 15 ∧ P (.d (.dict ((mergeD [] kvs).map fun kv => (keyD kv.1, kv.2)))) ρ'
end
end VL
end
section
set_option autoImplicit false
set_option maxRecDepth 100000
set_option maxHeartbeats 2000000
namespace VL
open PySem PySem.Spec PyProof.Rows L2
def oLcm : DC := fun ds P => match ds with
  | [.int i, .int j] => i.natAbs < 2 ^ 64 ∧ j.natAbs < 2 ^ 64 ∧ P (.int ((Int.lcm i j : Nat) : Int))
  | _ => False
section
variable {X : Cx} {as : As} {x : Str}
theorem DqAll.dropLast {K : Fg} {B : Hp} {xs : List V} {ds : List D} (r : DqAll K B xs ds) : DqAll K B xs.dropLast ds.dropLast := by
  rw [List.dropLast_eq_take, List.dropLast_eq_take, r.len]
  exact DqAll.take _ r
def wPop (i : Nat) : WE := fun ρ P => ∃ io ds y, ρ[i]? = some (.lst io ds) ∧ ds[ds.length - 1]? = some y ∧ P (.d y) (ρ.set i (.lst io ds.dropLast))
def wRevM (i : Nat) : WE := fun ρ P => ∃ io ds, ρ[i]? = some (.lst io ds) ∧ P (.d .none) (ρ.set i (.lst io ds.reverse))
def wClearM (i : Nat) : WE := fun ρ P => ∃ io ds, ρ[i]? = some (.lst io ds) ∧ P (.d .none) (ρ.set i (.lst io []))
end
end VL
end
section
set_option autoImplicit false
set_option maxRecDepth 100000
set_option maxHeartbeats 2000000
namespace VL
open PySem PySem.Spec PyProof.Rows L2
abbrev WR := En → (Int → Int → En → Prop) → Prop
def wR1 (t : WE) : WR := fun ρ P => t ρ fun c ρ' => ∃ i, c = .d (.int i) ∧ P 0 i ρ'
def wR2 (t u : WE) : WR := fun ρ P => t ρ fun c ρ' => ∃ i, c = .d (.int i) ∧ u ρ' fun c' ρ2 => ∃ j, c' = .d (.int j) ∧ P i j ρ2
section
variable {X : Cx} {as : As} {a b e : Expr} {t u : WE} {r : WR} {p pos : Pos}
def wTupRg (r : WR) : WE := fun ρ P => r ρ fun i j ρ' => RgOk i j ∧ P (.d (.tuple (rngD i j))) ρ'
def wListRg (r : WR) : WN := fun ρ P => r ρ fun i j ρ' => RgOk i j ∧ P (rngD i j) ρ'
end
end VL
end
section
set_option autoImplicit false
set_option maxRecDepth 100000
set_option maxHeartbeats 2000000
namespace VL
open PySem PySem.Spec PyProof.Rows L2
section
variable {X : Cx} {as : As} {elt iter tg : Expr} {pos : Pos}
theorem ssetLc {ifs : List Expr} {scope : Scope} {wi : WN} {g : WG} {sl : List Nat} {tt : WT} {te : WE} {i : Nat} {y : Str} {py spos : Pos} (vs : List (Str × Nat)) (hc : X.calm = true) (hN : X.N.Nodup)
    (hsw : swapsWith (.ListComp elt [⟨tg, iter, ifs, 0⟩] scope pos) (some (.Name y py)) spos.line X.env = pure true) (hi : PI X tg iter (upI X.K as wi))
    (hg : ∀ (s : Shared) (H : Hp) (C : Addr) (cl : List (Str × Addr)) (fp : List Addr), PG (X.blk s H scope (compEnvC scope cl C X.env) fp) tg (gU X.K as g sl)) (ht : ∀ (s : Shared) (H : Hp) (C : Addr) (cl : List (Str × Addr)) (fp : List Addr), PTs (X.blk s H scope (compEnvC scope cl C X.env) fp) ifs (upT X.K as tt))
    (he : ∀ (s : Shared) (H : Hp) (C : Addr) (cl : List (Str × Addr)) (fp : List Addr), PE (X.blk s H scope (compEnvC scope cl C X.env) fp) elt (up X.K as te)) (ok : BlkOk X.N X.env.scope scope vs) (hsl : ∀ j ∈ sl, j ∈ vs.map (·.2)) (hy : X.N[i]? = some y := by rfl) (hyl : X.env.scope.names.lookup y = some .local := by rfl) (hs : ∀ x, foldedSetIterable iter X.env x = pure x := by intro _; rfl) :
    PS X (.Assign [.Name y py] (.ListComp elt [⟨tg, iter, ifs, 0⟩] scope pos) spos) (upS X.K as (wAsg (wStay (wLc wi g tt te (vs.map (·.2)))) (wSet i))) := by
  refine ps_imp (ps_setLc hc hN hy hyl hsw hi ok hg ht he hs) fun E σ H ⟨Z, ρ, B, w, S, h, m⟩ => ?_
  refine up_lc (fun _ _ _ h => h) gU_ok hsl ⟨Z, ρ, B, _, S, h, fun ds ρ' p xs B' H' h1 x S' hp r => ?_⟩
  have x2 : ExT B' (upd B' p (.lst xs)) := .new (S'.free hp)
  obtain ⟨B3, e3, S3, _⟩ := (S'.al (o := .lst xs) hp).drop i
  have hd : Dq X.K B3 (.ref p) (.list ds) := Dq.ext e3 (.lst (.inl (.inl upd_same)) (DqAll.ext x2 r))
  exact m.nx _ _ B3 _ h1 ((x.trans x2).trans e3) (S3.put hd)
def wRevN (t : WE) : WN := fun ρ P => t ρ fun c ρ1 => match der ρ1 c with
  | some (.list ds) => P ds.reverse ρ1
  | _ => False
end
end VL
end
section
set_option autoImplicit false
set_option maxRecDepth 100000
set_option maxHeartbeats 2000000
namespace VL
open PySem PySem.Spec PyProof.Rows L2
/-- a tuple (not empty) times 1 .. 1000 -/
def oRepT : DO := fun x y P => match x, y with
  | .tuple ds, .int k => ds ≠ [] ∧ ds.length ≤ 1000 ∧ 1 ≤ k ∧ k ≤ 1000 ∧ P (.tuple (List.replicate k.toNat ds).flatten)
  | _, _ => False
def oRepL : DO := fun x y P => match x, y with
  | .list ds, .int k => 0 ≤ k ∧ k < 2 ^ 62 ∧ ds.length * k.toNat ≤ sizeLine ∧ P (.list (List.replicate k.toNat ds).flatten)
  | _, _ => False
end VL
end
section
set_option autoImplicit false
namespace VL
open PySem PySem.Spec PyProof.Rows L2
end VL
end
section
set_option autoImplicit false
set_option maxRecDepth 100000
set_option maxHeartbeats 2000000
namespace VL
open PySem PySem.Spec PyProof.Rows L2 GenW GxR
/-- while the generator sleeps its consumer changes its own objects; all else is kept -/
structure Woke (P P' : List (Addr × Obj)) (s s' : Shared) : Prop where
  os : s'.os = s.os
  bare : AllBare s'.gens
  keep : ∀ b o, b ∉ P.map (·.1) → s.heap.get? b = some o → s'.heap.get? b = some o
  adr : P'.map (·.1) = P.map (·.1)
  own : ∀ p ∈ P', s'.heap.get? p.1 = some p.2 ∧ ∀ v, p.2.data ≠ .cell v
theorem inv_woken {X : Cx} {P P' pins : List (Addr × Obj)} {σ : L2.St} {H : Hp} {s s' : Shared} (hA : ∀ p ∈ P, X.s_0.heap.objs.size ≤ p.1 ∧ ∀ q ∈ X.pn ++ pins, q.1 ≠ p.1) (I : Inv X (P ++ pins) σ H s) (z : Woke P P' s s') : Inv X (P' ++ pins) σ H s' := by
  have pP : ∀ b ∈ P.map (·.1), H b = none ∧ b ≠ X.env.locals ∧ b ∉ X.fs ∧ (∀ x c, X.env.cells.lookup x = some c → c ≠ b) ∧ X.s_0.heap.objs.size ≤ b ∧ ∀ q ∈ X.pn ++ pins, q.1 ≠ b := fun b hb => by
    obtain ⟨p, hp, rfl⟩ := List.mem_map.mp hb
    obtain ⟨h1, h2, h3, h4, h5⟩ := I.pin p (List.mem_append_right _ (List.mem_append_left _ hp))
    refine ⟨h2, h3, h4, fun x c e q => ?_, (hA p hp).1, (hA p hp).2⟩
    obtain ⟨v, ob, ho, hd⟩ := I.cell x c e
    rw [q, h1] at ho
    cases ho
    exact h5 _ hd
  have I0 : Inv X pins σ H s := I.pins_of fun p hp => I.pin p (List.mem_append_right _ (List.mem_append_right _ hp))
  have nt : ∀ b u, H b = some u → b ∉ P.map (·.1) := fun b u q hb => by
    rw [(pP b hb).1] at q
    cases q
  have nL : X.env.locals ∉ P.map (·.1) := fun hb => (pP _ hb).2.1 rfl
  obtain ⟨z1, z2, z3, z4, z5⟩ := z
  obtain ⟨hh, g, d, t, o⟩ := s'
  have ho : o = s.os := z1
  subst ho
  have J : Inv X pins σ H { s with heap := hh, gens := g, drawn := d, toks := t } := by
    refine I0.step (g' := g) (t' := t) (d' := d) (ch := P.map (·.1)) (fun b hb => ?_)
      (fun b ob _ _ hc q _ => z3 b ob hc q) (fun b ob _ _ hc q _ => ⟨ob.slots, z3 b ob hc q⟩) (fun _ _ _ _ n => n) (fun b ob hc q => ⟨ob, z3 b ob hc q⟩)
      (fun _ _ q => q) (fun _ _ _ q => q) (fun b ps q => ⟨#[], by rw [q]; simp⟩) (fun m hm => ?_) (fun b u q => ?_) z2
    · obtain ⟨_, p2, _, p4, p5, p6⟩ := pP b hb
      exact ⟨.inr p5, p2, p4, p6⟩
    · obtain ⟨ob, es, ep, ho, r⟩ := hm
      exact ⟨ob, es, ep, z3 _ ob nL ho, r⟩
    · refine (I0.hok b u q).stay (fun c v hc y => z3 c v ?_ y) (fun _ y => y) fun _ _ y => y
      rcases hc with y | y
      · rw [y]; exact nt b u q
      · exact nt c _ y
  refine J.pins_of fun p hp => ?_
  rcases List.mem_append.mp hp with hp | hp
  · have hb : p.1 ∈ P.map (·.1) := by rw [← z4]; exact List.mem_map_of_mem hp
    obtain ⟨p1, p2, p3, _⟩ := pP _ hb
    exact ⟨(z5 p hp).1, p1, p2, p3, (z5 p hp).2⟩
  · exact J.pin p (List.mem_append_right _ hp)
/-- the context of a generator expression's body: it starts at s (ahead of its frame), its iterator's objects at fp, its own object in pn -/
abbrev _root_.L2.Cx.gx (X : Cx) (s : Shared) (H : Hp) (cenv : Env) (A : Around) (fp : List Addr) (pn : List (Addr × Obj)) : Cx :=
  { X with A := A, s_0 := s, H_0 := H, env := cenv, outer := X.stack, stack := cenv :: X.stack, ex := fp, fn := fun _ => false, pn := pn, xe := fun _ _ => False }
theorem gx_start {X : Cx} {pins P : List (Addr × Obj)} {σ : L2.St} {H : Hp} {s4 s6 : Shared} {scope : Scope} {own : List (Str × Nat)} {fp : List Addr} {A : Around} {code : Value} {cenv : Env} {m0 : Str → Option Value} {a : Addr} {go : Obj}
    (I : Inv X pins σ H s4) (ok : BlkOk X.N X.env.scope scope own) (hcell : ∀ y ∈ scope.names, y.2 ≠ .cell) (hN : X.N.Nodup) (hfp : ∀ b ∈ fp, FpOk X pins H b ∧ b < s4.heap.objs.size)
    (hC : cenv = genEnv scope (cloFrom X.env.cells scope.names []) s4.heap.objs.size code builtinsNs X.env) (hA : A.handled = none) (hAf : A.frames = some (cenv :: X.stack))
    (hn : s6.heap.Ns s4.heap.objs.size m0) (kp : ∀ b o, s4.heap.get? b = some o → s6.heap.get? b = some o) (os6 : s6.os = s4.os) (ba : AllBare s6.gens)
    (hP : ∀ p ∈ (a, go) :: P, s6.heap.get? p.1 = some p.2 ∧ s4.heap.objs.size < p.1 ∧ ∀ v, p.2.data ≠ .cell v) :
    Inv (X.gx s4 H cenv A fp [(a, go)]) P (wipe σ (own.map (·.2))) H s6 := by
  have hfree : ∀ y ∈ scope.names, y.2 = .free → ∃ c, X.env.cells.lookup y.1 = some c := fun y hy e => by
    rcases ok.free y hy e with k | k
    · exact I.ok.has _ (.inl k)
    · exact I.ok.has _ (.inr k)
  have hL : cenv.locals = s4.heap.objs.size := by rw [hC]; rfl
  have hcl : cenv.cells = cloFrom X.env.cells scope.names [] := by rw [hC]; rfl
  have hsc : cenv.scope = scope := by rw [hC]; rfl
  have cm : ∀ {y c}, cenv.cells.lookup y = some c → X.env.cells.lookup y = some c ∧ c < s4.heap.objs.size := fun {y c} e => by
    rw [hcl] at e
    rcases cloFrom_mem (PySem.mem_of_lookup e) with hm | ⟨h1, rfl⟩
    · cases hm
    · obtain ⟨c, hc⟩ := hfree _ h1 rfl
      rw [hc]
      obtain ⟨w, z⟩ := I.cell _ _ hc
      exact ⟨rfl, z.lt⟩
  have look : ∀ {y}, scope.names.lookup y = some .free → ∃ c, cenv.cells.lookup y = some c ∧ X.env.cells.lookup y = some c := fun {y} hl => by
    have hy : (y, NameKind.free) ∈ scope.names := PySem.mem_of_lookup hl
    obtain ⟨c', e'⟩ := mem_lookup (cloFrom_has (cells := X.env.cells) (acc := []) hy)
    rw [← hcl] at e'
    exact ⟨c', e', (cm e').1⟩
  have kind : ∀ {y k}, cenv.scope.names.lookup y = some k → scope.names.lookup y = some k := fun {y k} e => by rw [hsc] at e; exact e
  have nocell : ∀ {y}, cenv.scope.names.lookup y ≠ some .cell := fun {y} e => hcell _ (PySem.mem_of_lookup (kind e)) rfl
  have okB : (X.gx s4 H cenv A fp [(a, go)]).Ok := by
    refine ⟨I.ok.mod, by show cenv.scope.kind = _; rw [hsc]; exact ok.kind, by show cenv.globals = _; rw [hC]; exact I.ok.glob, by show cenv.builtins = _; rw [hC]; rfl, by show s4.heap.objs.size ≤ cenv.locals; rw [hL]; exact Nat.le_refl _,
      fun y z c e1 e2 => I.ok.inj y z c (cm e1).1 (cm e2).1, fun y hy => ?_, fun y c z e => absurd (show false = true from z) Bool.false_ne_true, fun _ => hA, hAf, .inr ⟨rfl, by show cenv.frame = some cenv.locals; rw [hC]; rfl⟩, fun b hb => ⟨?_, fun y c e z => ?_⟩, I.bs, Nat.le_trans I.ok.bsz I.sz, fun b o e hb => ?_, fun b hb z => ?_, I.stack, I.stkFree⟩
    · rcases hy with hy | hy
      · exact absurd (show cenv.scope.names.lookup y = some .cell from hy) nocell
      · obtain ⟨c, h1, _⟩ := look (kind (show cenv.scope.names.lookup y = some .free from hy))
        exact ⟨c, h1⟩
    · show b ≠ cenv.locals
      rw [hL]; exact Nat.ne_of_lt (hfp b hb).2
    · exact (hfp b hb).1.2.2.2.2.1 y c (cm e).1 z
    · rcases (hfp b hb).1.2.2.2.1 with z | z
      · exact I.ok.noex b o e z
      · exact absurd (Nat.lt_of_lt_of_le (Heap.lt_size e) (Nat.le_trans I.ok.bsz z)) (Nat.lt_irrefl _)
    · rcases List.mem_cons.mp (I.stkSub b z) with z | z
      · exact (hfp b hb).1.2.1 z
      · exact (hfp b hb).1.2.2.1 z
  refine ⟨okB, os6, ba, Un.kept kp, ⟨m0, by show Heap.Ns _ cenv.locals _; rw [hL]; exact hn, fun i y av e1 e2 e3 => ?_⟩, fun y c e => ?_, ?_, fun y c e => ?_, fun p hp => ?_, I.hok.kept kp, by rw [wipe_length]; exact I.len⟩
  · obtain ⟨e2, hne⟩ := wipe_some e2
    have e3 : Vis cenv.scope y := e3
    have no : ¬ (scope.names.lookup y = some .local ∨ scope.names.lookup y = some .cell) := fun hh => by
      have w : y ∈ own.map (·.1) ∨ y ∉ X.N := by
        rcases hh with q | q
        · exact ok.own _ (PySem.mem_of_lookup q) (.inl rfl)
        · exact ok.own _ (PySem.mem_of_lookup q) (.inr rfl)
      rcases w with e' | e'
      · obtain ⟨p, hp, hpy⟩ := List.mem_map.mp e'
        have e3 := ok.ix p hp
        have : p.1 = y := hpy
        rw [this] at e3
        exact hne (List.mem_map.mpr ⟨p, hp, nodup_ix hN e3 e1⟩)
      · exact e' (List.mem_of_getElem? e1)
    have hfr : scope.names.lookup y = some .free := by
      rcases e3 with e3 | e3 | e3
      · exact absurd (.inl (kind e3)) no
      · exact absurd (.inr (kind e3)) no
      · exact kind e3
    obtain ⟨m, hn, hl⟩ := I.loc
    have hvis : Vis X.env.scope y := (ok.free _ (PySem.mem_of_lookup hfr) rfl).elim (fun k => .inr (.inl k)) (fun k => .inr (.inr k))
    obtain ⟨w, r, q⟩ := hl i y av e1 e2 hvis
    refine ⟨w, r, .inr ⟨.inr (by show cenv.scope.names.lookup y = _; rw [hsc]; exact hfr), ?_⟩⟩
    obtain ⟨c, h1, h2⟩ := look hfr
    rcases q with ⟨k, _⟩ | ⟨_, c', e', z⟩
    · have k : X.env.scope.names.lookup y = some .local := k
      rcases ok.free _ (PySem.mem_of_lookup hfr) rfl with k' | k' <;> rw [show X.env.scope.names.lookup y = _ from k'] at k <;> cases k
    · rw [h2] at e'; cases e'
      exact ⟨c, h1, z.keeps kp⟩
  · obtain ⟨w, z⟩ := I.cell y c (cm e).1
    exact ⟨w, z.keeps kp⟩
  · show H cenv.locals = none
    rw [hL]; exact I.hok.fresh (Nat.le_refl _)
  · exact I.freeC y c (cm e).1
  · obtain ⟨p1, p2, p3⟩ := hP p hp
    refine ⟨p1, I.hok.fresh (Nat.le_of_lt p2), by show p.1 ≠ cenv.locals; rw [hL]; exact Nat.ne_of_gt p2, fun z => ?_, p3⟩
    have z : p.1 ∈ frs X.stack := z
    rcases List.mem_cons.mp (I.stkSub _ z) with z | z
    · rw [z] at p2
      exact absurd (Nat.lt_trans p2 I.lt) (Nat.lt_irrefl _)
    · exact I.nofs (Nat.le_of_lt p2) z
abbrev CPt := List V → List (Addr × Obj) → Prop
/-- the end -/
def GXR (GB : List (Addr × Obj) → Hp → Shared → Prop) (CP : CPt) (QE : List V → Hp → Prop) : GenEnd := fun _ s₀ r s => r = .ok .next ∧ ∃ ys P H, CP ys P ∧ GB P H s ∧ QE ys H ∧ ∀ p ∈ P, s₀.heap.get? p.1 = some p.2
/-- an item is handed out -/
def GXY (GB : List (Addr × Obj) → Hp → Shared → Prop) (CP : CPt) (okY : List V → V → Hp → Prop) (stp : V → Bool) (QE : List V → Hp → Prop) : Protocol := fun _ s₀ v s kap =>
  ∃ ys y P H, RelV y v ∧ CP ys P ∧ GB P H s ∧ okY ys y H ∧ (∀ p ∈ P, s₀.heap.get? p.1 = some p.2) ∧ (stp y = true → QE (ys ++ [y]) H) ∧ (stp y = false → ∀ P' s', Woke P P' s s' → CP (ys ++ [y]) P' → kap (.send .none) s')
/-- a turn of the generator -/
def GTurn (J : It) (g : TG) (tt : TT) (te : TE) (vs : List Nat) (σ : L2.St) (okY : List V → V → Hp → Prop) (stp : V → Bool) (QE : List V → Hp → Prop) (W : Nat → Nat → List V → Hp → Prop) : Prop :=
  ∀ i m ys H, W i m ys H → (J.stop i H ∧ QE ys H) ∨ (0 < m ∧ J.go i H ∧ ∃ Nx : List V → Hp → Prop, (∀ ys' H', Nx ys' H' → ∃ m', m' < m ∧ W (i + 1) m' ys' H') ∧
    ∀ x H', J.yld i H x H' → g x (wipe σ vs) H' fun σ2 H2 => wipe σ2 vs = wipe σ vs ∧ tt σ2 H2 fun b H3 =>
      if b = true then te σ2 H3 fun y H4 => okY ys y H4 ∧ (if stp y = true then QE (ys ++ [y]) H4 else Nx (ys ++ [y]) H4) else Nx ys H3)
theorem seg_gx {X : Cx} {A : Around} {elt tg iter : Expr} {ifs : List Expr} {scope : Scope} {gpos : Pos} {it : Addr} {fp : List Addr} {tn : Nat → Heap → Prop} {J : It} {g : TG} {tt : TT} {te : TE} {vs : List Nat} {σ : L2.St}
    {GB : List (Addr × Obj) → Hp → Shared → Prop} {CP : CPt} {okY : List V → V → Hp → Prop} {stp : V → Bool} {QE : List V → Hp → Prop} {lo : Nat} {W : Nat → Nat → List V → Hp → Prop}
    (hc : X.calm = true) (hx : X.xe = fun _ _ => False) (hXA : A.over (.compLoop (.GeneratorExp elt [⟨tg, iter, ifs, 0⟩] scope gpos) 0 (.ref it) .none X.env) [] = X.A) (hco : X.env.scope.isCoroutine = false)
    (T : Turn X.prog X.w X.K tg J fp it tn) (hfx : ∀ b ∈ fp, b ∈ X.ex ∧ b < lo ∧ ∀ p ∈ X.pn, p.1 ≠ b) (hpn : ∀ p ∈ X.pn, p.1 < lo) (hs0 : X.s_0.heap.objs.size ≤ lo) (hCP : ∀ ys P, CP ys P → ∀ p ∈ P, lo ≤ p.1)
    (pg : PG X tg g) (pt : PTs X ifs tt) (pe : PE X elt te) (hGB : ∀ P σ H s, Inv X P σ H s → GB P H s) (turn : GTurn J g tt te vs σ okY stp QE W) :
    ∀ (m n i : Nat) (ys : List V) (P : List (Addr × Obj)) (s₀ s : Shared) (H : Hp), m ≤ n → W i m ys H → CP ys P → Inv X P (wipe σ vs) H s → tn i s.heap → (∀ b ∈ fp, H b = none) → (∀ p ∈ P, s₀.heap.get? p.1 = some p.2) →
      Seg (model X.prog X.w) A (GXR GB CP QE) (GXY GB CP okY stp QE) n s₀ (.compLoop (.GeneratorExp elt [⟨tg, iter, ifs, 0⟩] scope gpos) 0 (.ref it) .none X.env)
        ((model X.prog X.w).den (.compLoop (.GeneratorExp elt [⟨tg, iter, ifs, 0⟩] scope gpos) 0 (.ref it) .none X.env)) [] s := by
  have stat : ∀ {P : List (Addr × Obj)} {ys : List V} {σ' : L2.St} {H' : Hp} {s' : Shared}, CP ys P → Inv X P σ' H' s' → (∀ b ∈ fp, H' b = none) → ∀ b ∈ fp, FpOk X P H' b := fun {P ys σ' H' s'} cp I' hn b hb =>
    ⟨hn b hb, (I'.ok.exf b (hfx b hb).1).1, I'.ok.exfs b (hfx b hb).1, .inl (hfx b hb).1, fun x c e => (I'.ok.exf b (hfx b hb).1).2 x c e, fun p hp => by
      rcases List.mem_append.mp hp with z | z
      · exact (hfx b hb).2.2 p z
      · exact Nat.ne_of_gt (Nat.lt_of_lt_of_le (hfx b hb).2.1 (hCP ys P cp p z))⟩
  have thx : ∀ {α : Type} {t : Sem α} {Q Q' : α → Shared → Prop} {M : Model} {E : Value → Shared → Prop} {s : Shared}, wpAny M X.A t Q X.xe s → (∀ a s, Q a s → Q' a s) → wpAny M X.A t Q' E s := fun {α t Q Q' M E s} h hQ => by
    rw [hx] at h
    exact thnF h hQ
  intro m
  induction m using Nat.strongRecOn with
  | ind m ih =>
    intro n i ys P s₀ s H hmn hw hcp I st nfp hP0
    show Seg _ A _ _ n s₀ _ ((compTurn (.GeneratorExp elt [⟨tg, iter, ifs, 0⟩] scope gpos) 0 (.ref it) .none X.env).onRaise (leaving X.env)) [] s
    rw [compTurn_gen, Sem.onRaise_eq_wrap]
    refine seg_bind_wrap (wpAny_standAt ?_)
    rcases turn i m ys H hw with ⟨stop, qq⟩ | ⟨hm0, go, Nx, hNx, step⟩
    · refine seg_bind_wrap ?_
      rw [hXA]
      refine thnF (T.done X rfl rfl rfl hc i P s _ H (fun _ _ => False) I (stat hcp I nfp) st stop) fun r s6 ⟨hr, I6⟩ => ?_
      subst hr
      exact seg_end (.ok .next) ⟨rfl, ys, P, H, hcp, hGB _ _ _ _ I6, qq, hP0⟩
    · refine seg_bind_wrap ?_
      rw [hXA]
      refine thnF (T.item X rfl rfl rfl hc i P s _ H (fun _ _ => False) I (stat hcp I nfp) st go) fun r s6 ⟨u, hr, h6⟩ => ?_
      subst hr
      refine seg_bind_wrap ?_
      rw [hXA]
      refine thnF h6 fun _ s7 ⟨x, H7, I7, r7, y7, st7, n7⟩ => ?_
      have I7' := I7.pinned (stat hcp I7 n7) (T.obj _ _ st7)
      refine seg_bind_wrap ?_
      rw [hXA]
      refine thx (pg.run _ s7 _ H7 x u _ I7' r7 (step x H7 y7)) fun _ s8 ⟨σ8, H8, I8, hw8, q8⟩ => ?_
      refine seg_bind_wrap ?_
      rw [hXA]
      refine thx (pt.run _ s8 σ8 H8 _ I8 q8) fun b s9 ⟨H9, I9, q9⟩ => ?_
      -- the turn's end
      have fin : ∀ {n : Nat} {s₀ s' : Shared} {H' : Hp} {ys' : List V} {P' : List (Addr × Obj)}, Inv X (P' ++ pinsAt fp s7.heap) σ8 H' s' → CP ys' P' → (∀ m', m' < m → m' ≤ n) → Nx ys' H' → (∀ p ∈ P', s₀.heap.get? p.1 = some p.2) →
          Seg (model X.prog X.w) A (GXR GB CP QE) (GXY GB CP okY stp QE) n s₀ (.compLoop (.GeneratorExp elt [⟨tg, iter, ifs, 0⟩] scope gpos) 0 (.ref it) .none X.env)
            (.pure (.again (.compLoop (.GeneratorExp elt [⟨tg, iter, ifs, 0⟩] scope gpos) 0 (.ref it) .none X.env))) [] s' := fun {n s₀ s' H' ys' P'} I' cp' hn nx hP0' => by
        obtain ⟨m', hm, w'⟩ := hNx ys' H' nx
        have pin' : ∀ b ∈ fp, ∀ o, s7.heap.get? b = some o → s'.heap.get? b = some o ∧ H' b = none := fun b hb o e =>
          let z := I'.pin (b, o) (List.mem_append_right _ (List.mem_append_right _ (mem_pinsAt hb e)))
          ⟨z.1, z.2.1⟩
        have hl : (wipe σ vs).length = σ8.length := by rw [← hw8, wipe_length]
        refine seg_again rfl (ih m' hm n (i + 1) ys' P' s₀ s' H' (hn m' hm) w' cp' ((I'.unpinned (pins := P')).weak hl (fun j v e => ?_)) (T.keep _ _ _ st7 fun b hb o e => (pin' b hb o e).1) (fun b hb => ?_) hP0')
        · rw [← hw8] at e
          exact (wipe_some e).1
        · obtain ⟨o, e, _⟩ := T.obj _ _ st7 b hb
          exact (pin' b hb o e).2
      cases b with
      | false =>
        simp only [Bool.false_eq_true, if_false] at q9 ⊢
        exact fin I9 hcp (fun m' h => by omega) q9 hP0
      | true =>
        simp only [if_true] at q9 ⊢
        have hy : ∀ v, yieldOut X.env v = yieldValue v := fun v => by simp only [yieldOut, hco, Bool.false_eq_true, if_false]
        simp only [hy]
        rw [Sem.bind_eq_wrap', Sem.bind_eq_wrap', Sem.wrap_wrap, Sem.wrap_wrap]
        refine seg_wrap ?_
        rw [hXA]
        refine thx (pe.run _ s9 σ8 H9 _ I9 q9) fun z s10 ⟨yv, H10, I10, r10, hok, nx⟩ => ?_
        obtain ⟨k, rfl⟩ : ∃ k, n = k + 1 := ⟨n - 1, by omega⟩
        refine seg_at (seg_yield rfl rfl rfl ⟨ys, yv, P, H10, r10, hcp, hGB _ _ _ _ I10.unpinned, hok, hP0, fun h => ?_, fun h P' s' wk cp' => ?_⟩)
        · rw [if_pos h] at nx
          exact nx
        · rw [if_neg (by rw [h]; exact Bool.false_ne_true)] at nx
          refine fin (inv_woken (fun p hp => ?_) I10 wk) cp' (fun m' h => by omega) nx fun p hp => (wk.own p hp).1
          have lp := hCP ys P hcp p hp
          refine ⟨Nat.le_trans hs0 lp, fun q hq => ?_⟩
          rcases List.mem_append.mp hq with q1 | q1
          · exact Nat.ne_of_lt (Nat.lt_of_lt_of_le (hpn q q1) lp)
          · exact Nat.ne_of_lt (Nat.lt_of_lt_of_le (hfx q.1 (of_pinsAt q1).1).2.1 lp)
end VL
end
section
set_option autoImplicit false
set_option maxRecDepth 100000
set_option maxHeartbeats 2000000
namespace VL
open PySem PySem.Spec PyProof.Rows L2 GenW GxR
theorem over_gx {A : Around} {elt : Expr} {gs : List Comprehension} {scope : Scope} {p : Pos} {it acc : Value} {env : Env} : A.over (.compLoop (.GeneratorExp elt gs scope p) 0 it acc env) [] = A.deeper env := by
  first
    | rfl
    | (obtain ⟨hd, d, fr, gs, u⟩ := A; simp [Around.over, Around.deeper, marksOver, frameCount, unitsOf, envsOf, guardsOf, pushEnvs, pushGuards, Code.envs, Code.env?, Code.isFrame, Code.guards, Code.isGuard, Code.weight, Code.frames, Code.isCreation, Code.isCaller, Code.cUnits])
/-- as it stands when an item is out, or at the end -/
def GBo (X : Cx) (s4 : Shared) (H4 : Hp) (fp : List Addr) (a : Addr) (g : Nat) (P : List (Addr × Obj)) (H : Hp) (s : Shared) : Prop :=
  s.os = s4.os ∧ AllBare s.gens ∧ Un (frs X.stack) fp H4 H s4.heap s.heap ∧ HOk X.prog X.w H s.heap ∧ s.heap.IsGen a g ∧ s.heap.NoLimit ∧ ∀ p ∈ P, s.heap.get? p.1 = some p.2 ∧ H p.1 = none
/-- what a generator expression gives: a generator that has not begun -/
def GMadeX (X : Cx) (k : Nat) (pins : List (Addr × Obj)) (σ : L2.St) (okY : List V → V → Hp → Prop) (stp : V → Bool) (QE : List V → Hp → Prop) (u : Value) (s5 : Shared) : Prop :=
  ∃ (a : Addr) (g : Nat) (c : Code) (s4 : Shared) (H4 : Hp) (fp : List Addr), u = .ref a ∧ Inv X pins σ H4 s4 ∧ (∀ b ∈ fp, FpOk X pins H4 b) ∧ a < s5.heap.objs.size ∧ s5.heap.IsGen a g ∧ s5.gens[g]? = some (.fresh c) ∧ s5.os = s4.os ∧ AllBare s5.gens ∧ s5.heap.NoLimit ∧
    (∀ b o, s4.heap.get? b = some o → s5.heap.get? b = some o) ∧ s4.heap.objs.size < s5.heap.objs.size ∧
    ∀ (A : Around) (CP : CPt) (P : List (Addr × Obj)) (s6 : Shared), Room (k + 1) A → A.frames = some X.stack → (∀ ys P, CP ys P → ∀ p ∈ P, s5.heap.objs.size ≤ p.1) → CP [] P → (∀ p ∈ P, s6.heap.get? p.1 = some p.2 ∧ ∀ v, p.2.data ≠ .cell v) →
      (∀ b o, s5.heap.get? b = some o → s6.heap.get? b = some o) → s6.os = s5.os → AllBare s6.gens →
      ∃ n, Seg (model X.prog X.w) A (GXR (GBo X s4 H4 fp a g) CP QE) (GXY (GBo X s4 H4 fp a g) CP okY stp QE) n s6 c ((model X.prog X.w).den c) [] s6
theorem codeAmong_app {pos : Pos} (m : List Value) : ∀ (n : Nat) (l : List Value), l.length ≤ n → TriplesOk l → codeAmong pos (l ++ m) = (codeAmong pos l).or (codeAmong pos m)
  | _, [], _, _ => by simp [codeAmong]
  | 0, _ :: _, h, _ => by simp at h
  | _, [x], _, h => by cases x <;> exact h.elim
  | _, [x, y], _, h => by cases x <;> first | exact h.elim | (cases y <;> exact h.elim)
  | n + 1, x :: y :: v :: r, l, h => by
    cases x <;> first | exact h.elim | (cases y <;> first | exact h.elim | skip)
    rename_i a ta b tb
    have h' : TriplesOk r := h
    have ih := codeAmong_app (pos := pos) m n r (by simp at l; omega) h'
    have e1 : codeAmong pos (.int a ta :: .int b tb :: v :: (r ++ m)) = if (a == ↑pos.line && b == ↑pos.col) = true then some v else codeAmong pos (r ++ m) := rfl
    have e2 : codeAmong pos (.int a ta :: .int b tb :: v :: r) = if (a == ↑pos.line && b == ↑pos.col) = true then some v else codeAmong pos r := rfl
    show codeAmong pos (.int a ta :: .int b tb :: v :: (r ++ m)) = _
    rw [e1, e2]
    split
    · rfl
    · exact ih
theorem ne_lt {a b n : Nat} (h : b < n) (k : n ≤ a) : a ≠ b := by omega
theorem inv_lay {X : Cx} {pins : List (Addr × Obj)} {σ : L2.St} {H2 H : Hp} {s2 s : Shared} (I2 : Inv X pins σ H2 s2) (I : Inv X pins σ H s) {a : Addr} {o : HO} (la : s2.heap.objs.size ≤ a) (n : H a = none) (ok : ObjOk X.prog X.w (upd H a o) s.heap a o) : Inv X pins σ (upd H a o) s := by
  have ne : ∀ {b : Addr} {u : Obj}, s2.heap.get? b = some u → b ≠ a := fun e => (ne_lt (Heap.lt_size e) la).symm
  obtain ⟨h, g, d, t, os⟩ := s
  refine I.step (ch := [a]) (fun b hb => ?_) (fun _ _ _ _ _ q _ => q) (fun _ o _ _ _ q _ => ⟨o.slots, q⟩) (fun b u hb _ q => by rw [upd_ne (fun z => hb (by rw [z]; exact List.mem_singleton.mpr rfl))]; exact q) (fun _ u _ q => ⟨u, q⟩) (fun b xs q => by rw [upd_ne (ne_of_none q n)]; exact q) (fun b o u q => by rw [upd_ne (ne_of_none q n)]; exact q) (fun b ps q => ⟨#[], by rw [upd_ne (ne_of_none q n), q]; simp⟩) (fun _ q => q) (fun b u q => ?_) I.bare
  · rw [List.mem_singleton.mp hb]
    refine ⟨.inr (Nat.le_trans I2.sz la), ne_lt I2.lt la, fun x c e => ?_, fun p hp z => ?_⟩
    · obtain ⟨v, w⟩ := I2.cell x c e
      exact (ne_lt w.lt la).symm
    · exact ne (I2.pin p hp).1 z
  · by_cases z : b = a
    · rw [z, upd_same] at q
      cases q
      rw [z]
      exact ok
    · rw [upd_ne z] at q
      exact (I.hok b u q).stay (fun _ _ _ e => e) (fun c e => by rw [upd_ne (ne_of_none e n)]; exact e) fun c xs e => by rw [upd_ne (ne_of_none e n)]; exact e
/-- the table P holds the code cd, whose own table is Q -/
def CodeIn (H : Hp) (P : Addr) (cd : Value) (Q : Addr) : Prop := ∃ c o ps pos, cd = .ref c ∧ c ≠ Q ∧ H c = some (frzC c o) ∧ CodeAt o Q ∧ H P = some (.tbl ps) ∧ codeAmong pos ps.toList = some (.ref c)
/-- from the table R to the table P by codes -/
inductive Reach (H : Hp) (R : Addr) : Addr → Prop
  | refl : Reach H R R
  | step {P Q : Addr} {cd : Value} : Reach H R P → CodeIn H P cd Q → Reach H R Q
theorem Reach.tab {H : Hp} {R P : Addr} (h : Reach H R P) (t : TabG H R) : TabG H P := by
  induction h with
  | refl => exact t
  | step _ k ih =>
    obtain ⟨c, o, ps, pos, _, a2, a3, a4, a5, a6⟩ := k
    obtain ⟨qs, h1, h2, h3⟩ := ih.out
    rw [a5] at h1
    cases h1
    obtain ⟨c', Q, o', b1, b2, b3, b4, b5⟩ := h3 _ _ a6
    cases b1
    rw [a3] at b3
    have e : frzC c o = frzC c o' := Option.some.inj b3
    have e : o = o' := by
      unfold frzC at e
      cases e
      rfl
    subst e
    rw [a4.uniq b4]
    exact b5
theorem Reach.un {H H' : Hp} {R P : Addr} {fs ex : List Addr} {h h' : Heap} (u : Un fs ex H H' h h') (t : TabG H R) (k : Reach H R P) : Reach H' R P := by
  induction k with
  | refl => exact .refl
  | step k0 k ih =>
    obtain ⟨c, o, ps, pos, a1, a2, a3, a4, a5, a6⟩ := k
    obtain ⟨qs, h1, h2, _⟩ := (k0.tab t).out
    rw [a5] at h1
    cases h1
    obtain ⟨more, e⟩ := u.tbls _ _ a5
    refine .step ih ⟨c, o, _, pos, a1, a2, u.frzs _ _ _ a3, a4, e, ?_⟩
    rw [Array.toList_append, codeAmong_app _ _ _ (Nat.le_refl _) h2, a6]
    rfl
/-- cd is a code that R leads to, P' its table -/
def InOk (H : Hp) (R : Addr) (cd : Value) (P' : Addr) : Prop := ∃ c o, cd = .ref c ∧ c ≠ P' ∧ H c = some (frzC c o) ∧ CodeAt o P' ∧ Reach H R P' ∧ TabG H R
theorem CodeAt.hd {h : Heap} {c P : Addr} {o : Obj} (k : CodeAt o P) (e : h.get? c = some o) (n : c ≠ P) : PySem.W.CodeHd h c P := by
  obtain ⟨vs, f, tf, fl, tg, b, x, tt, k1, k2, k3, k4, k5, k6, k7, k8⟩ := k
  exact ⟨o, vs, f, tf, fl, tg, b, x, tt, e, k1, k2, k3, k4, k5, k6, k7, k8, n⟩
/-- the running code's own table is P -/
def CodeOk (X : Cx) (R P : Addr) : Prop := ∃ c, X.env.code = .ref c ∧ ∀ (pins : List (Addr × Obj)) (σ : L2.St) (H : Hp) (s : Shared), Inv X pins σ H s → TabG H R → Reach H R P ∧ PySem.W.CodeHd s.heap c P ∧ X.base.BuiltinsAt X.mg P ∧ mainGlobals ≠ P
theorem CodeOk.top {X : Cx} {c P : Addr} (TB : TabB X.base X.mg c P) (hcode : X.env.code = .ref c) : CodeOk X P P :=
  ⟨c, hcode, fun _ _ _ _ I _ => ⟨.refl, TB.code.keeps fun b u e => I.bk b u e, TB.bm, TB.gP⟩⟩
/-- a code that was made now -/
theorem code_made {X : Cx} {pins : List (Addr × Obj)} {σ : L2.St} {H : Hp} {s : Shared} {P c' : Addr} {ps : Array Value} {h3 : Heap} {tk : Nat} {gpos : Pos} (I : Inv X pins σ H s) (hP : H P = some (.tbl ps)) (ht : TriplesOk ps.toList)
    (hx : Heap.ExtBut P s.heap h3) (hc : s.heap.objs.size ≤ c') (htab : h3.get? P = some { cls := .none, data := .fields (ps ++ #[rawInt ↑gpos.line, rawInt ↑gpos.col, .ref c']) }) (ht3 : TriplesOk (ps ++ #[rawInt ↑gpos.line, rawInt ↑gpos.col, .ref c']).toList)
    (hf : codeAmong gpos ps.toList = none) (hin : ∃ P', s.heap.objs.size ≤ P' ∧ h3.IsCode c' P' #[] ∧ h3.TableAt c' P' #[]) :
    ∃ H4 P', Inv X pins σ H4 { s with heap := h3, toks := tk } ∧ Grown P H H4 ∧ (∀ b, b ≠ P → b < s.heap.objs.size → H4 b = H b) ∧ CodeIn H4 P (.ref c') P' ∧ (∃ o, H4 c' = some (frzC c' o) ∧ CodeAt o P' ∧ c' ≠ P') ∧ H4 P = some (.tbl (ps ++ #[rawInt ↑gpos.line, rawInt ↑gpos.col, .ref c'])) := by
  obtain ⟨P', hP', hic, hta⟩ := hin
  obtain ⟨o, vs, file, tf, fl, tg, inF, tx, tt, op, g1, g2, g3, g4, g5, g6, g7, g8, g9, g10, g11⟩ := hic
  obtain ⟨⟨o2, vs2, k1, k2, k3, k4⟩, k5⟩ := hta
  rw [g1] at k1
  cases k1
  rw [g2] at k3
  cases k3
  have ca : CodeAt o P' := ⟨vs, file, tf, fl, tg, inF, tx, tt, k2, g2, k4, g3, g4, g5, g6, g7⟩
  have Psz : P < s.heap.objs.size := Heap.lt_size (I.hok P _ hP : s.heap.get? P = some { cls := .none, data := .fields ps })
  have J1 : Inv X pins σ (upd H P (.tbl (ps ++ #[rawInt ↑gpos.line, rawInt ↑gpos.col, .ref c']))) { s with heap := h3, toks := tk } :=
    inv_tab (g' := s.gens) (d' := s.drawn) (t' := tk) I hP (fun b u hb e => hx b u hb e) htab I.bare
  have n1 : H c' = none := I.hok.fresh hc
  have n2 : H P' = none := I.hok.fresh hP'
  have cP : c' ≠ P := ne_lt Psz hc
  have PP : P' ≠ P := ne_lt Psz hP'
  have J2 := inv_lay (o := frzC c' o) I J1 hc (by rw [upd_ne cP]; exact n1) ⟨g1, g1, ⟨_, g1⟩, fun h1 h2 a b => b _ a⟩
  have J3 := inv_lay (o := .tbl #[]) I J2 hP' (by rw [upd_ne (Ne.symm g11), upd_ne PP]; exact n2) k5
  have at0 : upd (upd (upd H P (.tbl (ps ++ #[rawInt ↑gpos.line, rawInt ↑gpos.col, .ref c']))) c' (frzC c' o)) P' (.tbl #[]) P = some (.tbl (ps ++ #[rawInt ↑gpos.line, rawInt ↑gpos.col, .ref c'])) := by rw [upd_ne (Ne.symm PP), upd_ne (Ne.symm cP), upd_same]
  have atc : upd (upd (upd H P (.tbl (ps ++ #[rawInt ↑gpos.line, rawInt ↑gpos.col, .ref c']))) c' (frzC c' o)) P' (.tbl #[]) c' = some (frzC c' o) := by rw [upd_ne g11, upd_same]
  have old : ∀ b, b ≠ P → b ≠ c' → b ≠ P' → upd (upd (upd H P (.tbl (ps ++ #[rawInt ↑gpos.line, rawInt ↑gpos.col, .ref c']))) c' (frzC c' o)) P' (.tbl #[]) b = H b := fun b h1 h2 h3 => by rw [upd_ne h3, upd_ne h2, upd_ne h1]
  have own : ∀ pos v, codeAmong pos [rawInt ↑gpos.line, rawInt ↑gpos.col, Value.ref c'] = some v → v = .ref c' := fun pos v e => by
    simp only [rawInt, codeAmong] at e
    split at e
    · cases e
      rfl
    · cases e
  have hit : codeAmong gpos [rawInt ↑gpos.line, rawInt ↑gpos.col, Value.ref c'] = some (.ref c') := by
    simp [rawInt, codeAmong]
  refine ⟨_, P', J3, ⟨fun b u hb e => ?_, ps, _, hP, at0, ht3, fun pos v e => ?_⟩, fun b hb lb => old b hb (ne_lt lb hc).symm (ne_lt lb hP').symm, ⟨c', o, _, gpos, rfl, g11, atc, ca, at0, ?_⟩, ⟨o, atc, ca, g11⟩, at0⟩
  · rw [old b hb (ne_of_none e n1) (ne_of_none e n2)]
    exact e
  · rw [Array.toList_append, codeAmong_app _ _ _ (Nat.le_refl _) ht] at e
    cases q : codeAmong pos ps.toList with
    | some w =>
      rw [q] at e
      exact .inl e
    | none =>
      rw [q] at e
      exact .inr ⟨c', P', o, own pos v e, g11, atc, ca, upd_same, n1, n2⟩
  · rw [Array.toList_append, codeAmong_app _ _ _ (Nat.le_refl _) ht, hf]
    exact hit
def tGx (R P : Addr) (wi : TI) (g : TG) (tt : TT) (te : TE) (vs : List Nat) (okY : List V → V → Hp → Prop) (stp : V → Bool) (QE : List V → Hp → Prop) : L2.St → Hp → Prop := fun σ H =>
  wi σ H fun J H1 => TabG H1 R ∧ ∀ H2, Grown P H1 H2 → ∃ W : Nat → Nat → List V → Hp → Prop, (∃ m, W 0 m [] H2) ∧ GTurn J g tt te vs σ okY stp QE W
theorem gx_make {X : Cx} {pins : List (Addr × Obj)} {σ : L2.St} {H : Hp} {s : Shared} {R P : Addr} {k : Nat} {elt tg iter : Expr} {ifs : List Expr} {scope : Scope} {own : List (Str × Nat)} {gpos : Pos} {wi : TI} {g : TG} {tt : TT} {te : TE}
    {okY : List V → V → Hp → Prop} {stp : V → Bool} {QE : List V → Hp → Prop}
    (hc : X.calm = true) (hN : X.N.Nodup) (hd : X.A.handled = none) (hdp : X.A.depth < recursionLimit) (CO : CodeOk X R P) (ok : BlkOk X.N X.env.scope scope own) (hcell : ∀ y ∈ scope.names, y.2 ≠ .cell) (hdot : scope.names.lookup (".0" : Str) = some NameKind.local)
    (hco : scope.isCoroutine = false) (hi : PI X tg iter wi)
    (hg : ∀ (s : Shared) (H : Hp) (cl : List (Str × Addr)) (C : Addr) (cd : Value) (A : Around) (fp : List Addr) (pn : List (Addr × Obj)), PG (X.gx s H (genEnv scope cl C cd builtinsNs X.env) A fp pn) tg g)
    (ht : ∀ (s : Shared) (H : Hp) (cl : List (Str × Addr)) (C : Addr) (cd : Value) (A : Around) (fp : List Addr) (pn : List (Addr × Obj)) (P' : Addr), InOk H R cd P' → Room k A → PTs (X.gx s H (genEnv scope cl C cd builtinsNs X.env) A fp pn) ifs tt)
    (he : ∀ (s : Shared) (H : Hp) (cl : List (Str × Addr)) (C : Addr) (cd : Value) (A : Around) (fp : List Addr) (pn : List (Addr × Obj)) (P' : Addr), InOk H R cd P' → Room k A → PE (X.gx s H (genEnv scope cl C cd builtinsNs X.env) A fp pn) elt te)
    (hs : ∀ v, genFold iter X.env v = pure v) (I : Inv X pins σ H s) (h : tGx R P wi g tt te (own.map (·.2)) okY stp QE σ H) :
    wpAny (model X.prog X.w) X.A (eval (.GeneratorExp elt [⟨tg, iter, ifs, 0⟩] scope gpos) X.env) (GMadeX X k pins σ okY stp QE) X.xe s := by
  have hfree : ∀ y ∈ scope.names, y.2 = .free → ∃ c, X.env.cells.lookup y.1 = some c := fun y hy e => by
    rcases ok.free y hy e with k | k
    · exact I.ok.has _ (.inl k)
    · exact I.ok.has _ (.inr k)
  refine wpAny_GeneratorExp_make hco (closure_ok hfree) hcell hdot ok.kind hdp (thn (hi.run pins s σ H _ I h) fun xv s1 hx => thn hx fun itv s2 h2 => ?_) hs
  obtain ⟨it, fp, tn, J, H1, e, I1, T, st1, f1, tR, q⟩ := h2
  subst e
  obtain ⟨c, hcode, CO⟩ := CO
  obtain ⟨rh, cd, bmP, gP⟩ := CO _ _ _ _ I1 tR
  obtain ⟨ps, hP, htr, cds⟩ := (rh.tab tR).out
  refine ⟨I1.nolimit, ?_⟩
  have hPs : s2.heap.get? P = some { cls := .none, data := .fields ps } := I1.hok P _ hP
  have fpP : ∀ b ∈ fp, b ≠ P := fun b hb z => by
    have := (f1 b hb).1
    rw [z, hP] at this
    cases this
  have cont : ∀ (code : Value) (h3 : Heap) (tk : Nat) (H4 : Hp) (P' : Addr), Heap.ExtBut P s2.heap h3 → Inv X pins σ H4 { s2 with heap := h3, toks := tk } → Grown P H1 H4 → (∀ b, b ≠ P → b < s2.heap.objs.size → H4 b = H1 b) → InOk H4 R code P' →
      wpAny (model X.prog X.w) X.A (builtinsFor X.env.globals X.env.builtins) (fun bi s₄ =>
        ∀ h', h'.Ns s₄.heap.objs.size (fun y => if y = ".0" then some (.ref it) else none) → Heap.SameBut s₄.heap.objs.size (s₄.heap.push { cls := .type "frame", data := .dict #[] }) h' →
          GMadeX X k pins σ okY stp QE (.ref h'.objs.size) { s₄ with
            gens := s₄.gens.push (.fresh (.compStart (.GeneratorExp elt [⟨tg, iter, ifs, 0⟩] scope gpos) 0 (.ref it) .none (genEnv scope (cloFrom X.env.cells scope.names []) s₄.heap.objs.size code bi X.env))),
            toks := s₄.toks + 1 + 1 + 1,
            heap := h'.push { cls := .type "generator", data := .fields #[.int s₄.gens.size 0, .str "<genexpr>" (s₄.toks + 1), .str (X.env.qual ++ "<genexpr>") (s₄.toks + 1 + 1)] } }) X.xe { s2 with heap := h3, toks := tk } := by
    intro code h3 tk H4 P' hx I4 gr hold hin
    obtain ⟨bm, ob, e1, e2, e3, e4, e5, e6, e7, e8⟩ := bmP
    have keep3 : ∀ b u, b ≠ P → s2.heap.get? b = some u → h3.get? b = some u := fun b u hb e => hx b u hb e
    refine wpAny_builtinsFor (m := X.mg) (by rw [I1.ok.glob]; exact (I1.mod.glob.keeps I1.bk).extBut hx gP) e1 e2 (keep3 _ _ e4 (I1.bk _ _ e5)) e6 e7 e8 ?_
    intro h' hn' hs'
    have fpo : ∀ b ∈ fp, FpOk X pins H4 b := fun b hb => ⟨by
      obtain ⟨o, e, _⟩ := T.obj _ _ st1 b hb
      rw [hold b (fpP b hb) (Heap.lt_size e)]
      exact (f1 b hb).1, (f1 b hb).2⟩
    have st4 : tn 0 h3 := T.keep _ _ _ st1 fun b hb o e => keep3 b o (fpP b hb) e
    have flt : ∀ b ∈ fp, b < h3.objs.size := fun b hb => by
      obtain ⟨o, e, _⟩ := T.obj _ _ st4 b hb
      exact Heap.lt_size e
    have hsz : h'.objs.size = h3.objs.size + 1 := by rw [hs'.1, Heap.size_push]
    have hlt3 : h3.objs.size < h'.objs.size := by rw [hsz]; exact Nat.lt_succ_self _
    have keep' : ∀ b o, h3.get? b = some o → h'.get? b = some o := fun b o e => hs'.extBut b o (Nat.ne_of_lt (Heap.lt_size e)) (Heap.get?_push_of_some _ e)
    have keep5 : ∀ go b o, h3.get? b = some o → (h'.push go).get? b = some o := fun go b o e => Heap.get?_push_of_some _ (keep' b o e)
    obtain ⟨W, ⟨m0, w0⟩, turn⟩ := q _ gr
    generalize hgo : ({ cls := .type "generator", data := .fields #[.int s2.gens.size 0, .str "<genexpr>" (tk + 1), .str (X.env.qual ++ "<genexpr>") (tk + 1 + 1)] } : Obj) = go
    have hat : (h'.push go).get? h'.objs.size = some go := Heap.get?_push_size _ (by rw [← hgo]; rfl)
    have hisg : ∀ hh : Heap, hh.get? h'.objs.size = some go → hh.IsGen h'.objs.size s2.gens.size := fun hh e => ⟨go, _, _, e, by rw [← hgo], by rw [← hgo], by rw [← hgo]⟩
    have hgc : ∀ v, go.data ≠ .cell v := fun v z => by
      rw [← hgo] at z
      cases z
    show GMadeX X k pins σ okY stp QE (.ref h'.objs.size) { s2 with gens := s2.gens.push (.fresh (.compStart (.GeneratorExp elt [⟨tg, iter, ifs, 0⟩] scope gpos) 0 (.ref it) .none (genEnv scope (cloFrom X.env.cells scope.names []) h3.objs.size code builtinsNs X.env))), toks := tk + 1 + 1 + 1, heap := h'.push go }
    refine ⟨h'.objs.size, s2.gens.size, _, { s2 with heap := h3, toks := tk }, _, fp, rfl, I4, fpo, ?_, hisg _ hat, Array.getElem?_push_size .., rfl, I1.bare.push rfl, I4.nolimit.keeps fun b o e => keep5 go b o e, fun b o e => keep5 go b o e, ?_, ?_⟩
    · show h'.objs.size < (h'.push go).objs.size
      rw [Heap.size_push]
      exact Nat.lt_succ_self _
    · show h3.objs.size < (h'.push go).objs.size
      rw [Heap.size_push]
      omega
    intro A CP Pc s6 hr6 hf6 hlow hcp0 hPc kp6 os6 ba6
    have kp6' : ∀ b o, (h'.push go).get? b = some o → s6.heap.get? b = some o := kp6
    have low : ∀ {ys : List V} {P' : List (Addr × Obj)}, CP ys P' → ∀ p ∈ P', h'.objs.size + 1 ≤ p.1 := fun {ys P'} cp p hp => by
      have q1 : (h'.push go).objs.size ≤ p.1 := hlow ys P' cp p hp
      rw [Heap.size_push] at q1
      exact q1
    generalize hce : genEnv scope (cloFrom X.env.cells scope.names []) h3.objs.size code builtinsNs X.env = ce
    have hR : Room k (A.deeper ce) := hr6.deeper ce
    have I6 : Inv (X.gx { s2 with heap := h3, toks := tk } H4 ce (A.deeper ce) fp [(h'.objs.size, go)]) Pc (wipe σ (own.map (·.2))) H4 s6 := by
      refine gx_start (code := code) I4 ok hcell hN (fun b hb => ⟨fpo b hb, flt b hb⟩) hce.symm hR.hd (Around.frames_deeper hf6) (hn'.keeps fun b o e => kp6' b o (Heap.get?_push_of_some _ e)) (fun b o e => kp6' b o (keep5 go b o e)) os6 ba6 fun p hp => ?_
      rcases List.mem_cons.mp hp with z | z
      · rw [z]
        exact ⟨kp6' _ _ hat, hlt3, hgc⟩
      · have := low hcp0 p z
        exact ⟨(hPc p z).1, Nat.lt_trans hlt3 this, (hPc p z).2⟩
    have st6 : tn 0 s6.heap := T.keep _ _ _ st4 fun b _ o e => kp6' b o (keep5 go b o e)
    have pg := hg { s2 with heap := h3, toks := tk } H4 (cloFrom X.env.cells scope.names []) h3.objs.size code (A.deeper ce) fp [(h'.objs.size, go)]
    have pt := ht { s2 with heap := h3, toks := tk } H4 (cloFrom X.env.cells scope.names []) h3.objs.size code (A.deeper ce) fp [(h'.objs.size, go)] P' hin hR
    have pe := he { s2 with heap := h3, toks := tk } H4 (cloFrom X.env.cells scope.names []) h3.objs.size code (A.deeper ce) fp [(h'.objs.size, go)] P' hin hR
    rw [hce] at pg pt pe
    have hces : ce.scope = scope := by rw [← hce]; rfl
    have gb : ∀ P' σ' H' s', Inv (X.gx { s2 with heap := h3, toks := tk } H4 ce (A.deeper ce) fp [(h'.objs.size, go)]) P' σ' H' s' → GBo X { s2 with heap := h3, toks := tk } H4 fp h'.objs.size s2.gens.size P' H' s' := fun P' σ' H' s' I' => by
      refine ⟨I'.os, I'.bare, I'.base, I'.hok, hisg _ (I'.pin (h'.objs.size, go) (List.mem_append_left _ (List.mem_singleton.mpr rfl))).1, I'.nolimit, fun p hp => ?_⟩
      obtain ⟨h1, h2, _⟩ := I'.pin p (List.mem_append_right _ hp)
      exact ⟨h1, h2⟩
    have loop := fun s₀ => seg_gx (X := X.gx { s2 with heap := h3, toks := tk } H4 ce (A.deeper ce) fp [(h'.objs.size, go)]) (A := A) (iter := iter) (scope := scope) (gpos := gpos) (GB := GBo X { s2 with heap := h3, toks := tk } H4 fp h'.objs.size s2.gens.size) (CP := CP) (lo := h'.objs.size + 1)
      hc rfl over_gx (by show ce.scope.isCoroutine = false; rw [hces]; exact hco) T (fun b hb => ⟨hb, Nat.lt_succ_of_lt (Nat.lt_trans (flt b hb) hlt3), fun p hp => by
        rw [List.mem_singleton.mp hp]
        exact Nat.ne_of_gt (Nat.lt_trans (flt b hb) hlt3)⟩) (fun p hp => by rw [List.mem_singleton.mp hp]; exact Nat.lt_succ_self _) (Nat.le_succ_of_le (Nat.le_of_lt hlt3)) (fun ys P' cp p hp => low cp p hp) pg pt pe gb turn m0 m0 0 [] Pc s₀ s6 _ (Nat.le_refl _) w0 hcp0 I6 st6 (fun b hb => (fpo b hb).1)
    refine ⟨m0, ?_⟩
    · show Seg _ A _ _ m0 s6 _ ((compStart (.GeneratorExp elt [⟨tg, iter, ifs, 0⟩] scope gpos) 0 (.ref it) .none ce).onRaise (leaving ce)) [] s6
      unfold compStart
      rw [Sem.onRaise_eq_wrap]
      show Seg _ A _ _ _ s6 _ ((ask >>= _).wrap _ _ _ _) [] s6
      refine seg_bind_wrap (wpAny_askSetting ?_)
      split
      · exact seg_again rfl (loop s6 fun p hp => (hPc p hp).1)
      · first
          | exact seg_bind_wrap (wpAny_rule (seg_bind_wrap (wpAny_standAt (seg_bind_wrap (T.self _ 0 s6 _ _ st6 (seg_again rfl (loop s6 fun p hp => (hPc p hp).1)))))))
          | (refine seg_bind_wrap (wpAny_rule ?_); show Seg _ A _ _ _ s6 _ ((standAt iter.pos >>= _).wrap _ _ _ _) [] s6; exact seg_bind_wrap (wpAny_standAt (seg_bind_wrap (T.self _ 0 s6 _ _ st6 (seg_again rfl (loop s6 fun p hp => (hPc p hp).1))))))
  cases hf : codeAmong gpos ps.toList with
  | none =>
    refine wpAny_genexprCodeX hcode (cd.code hPs htr) (cd.tab hPs) hf fun c' h' tk hx hge hlt hco' _ htab' hin' => ?_
    obtain ⟨o1, vs, f1', tf, fl, tg, inF, tx, tt, op, _, _, _, _, _, _, _, _, _, htr', _⟩ := hco'
    obtain ⟨H4, P', J4, gr, hold, cin, ⟨o, e, ca, ne⟩, _⟩ := code_made (tk := tk) I1 hP htr hx hge htab'.2 htr' hf hin'
    exact cont _ h' tk H4 P' hx J4 gr hold ⟨c', o, rfl, ne, e, ca, .step (CO _ _ _ _ J4 (gr.tab tR)).1 cin, gr.tab tR⟩
  | some cv =>
    refine wpAny_genexprCode_hit hcode (cd.code hPs htr) hf ?_
    obtain ⟨c', P', o, rfl, n, e, ca, _⟩ := cds _ _ hf
    exact cont _ s2.heap s2.toks H1 P' (Heap.ExtBut.refl _ _) I1 ⟨fun _ _ _ e => e, ps, ps, hP, hP, htr, fun _ _ e => .inl e⟩ (fun _ _ _ => rfl) ⟨c', o, rfl, n, e, ca, .step rh ⟨c', o, ps, gpos, rfl, n, e, ca, hP, hf⟩, tR⟩
end VL
end
section
set_option autoImplicit false
set_option maxRecDepth 100000
set_option maxHeartbeats 2000000
namespace VL
open PySem PySem.Spec PyProof.Rows L2 GenW GxR
theorem GBo.ext {X : Cx} {s4 : Shared} {H4 : Hp} {fp : List Addr} {a : Addr} {g : Nat} {P : List (Addr × Obj)} {H : Hp} {s s' : Shared} (h : GBo X s4 H4 fp a g P H s) (os : s'.os = s.os) (b : AllBare s'.gens) (k : ∀ b o, s.heap.get? b = some o → s'.heap.get? b = some o) : GBo X s4 H4 fp a g P H s' := by
  obtain ⟨h1, _, h3, h4, h5, h6, h7⟩ := h
  exact ⟨os.trans h1, b, h3.trans (Un.kept k), h4.kept k, h5.keeps k, h6.keeps k, fun p hp => ⟨k _ _ (h7 p hp).1, (h7 p hp).2⟩⟩
/-- back in the def's context -/
theorem GBo.back {X : Cx} {pins P : List (Addr × Obj)} {σ : L2.St} {s4 s : Shared} {H4 H : Hp} {fp : List Addr} {a : Addr} {g : Nat} (I : Inv X pins σ H4 s4) (hf : ∀ b ∈ fp, FpOk X pins H4 b) (h : GBo X s4 H4 fp a g P H s) : Inv X pins σ H s := by
  obtain ⟨h1, h2, h3, h4, h5, h6, h7⟩ := h
  exact I.call' (ch := fp) h1 h3 h4 h2 fun b hb => ⟨(hf b hb).2.2.2.1, (hf b hb).2.1, (hf b hb).2.2.2.2.1, (hf b hb).2.2.2.2.2⟩
/-- next -/
theorem gx_pull {P : Program} {w : World} {A : Around} {E : Value → Shared → Prop} {s : Shared} {X : Cx} {s4 : Shared} {H4 : Hp} {fp : List Addr} {a : Addr} {g n : Nat} {gs : GenState} {CP : CPt} {okY : List V → V → Hp → Prop} {stp : V → Bool} {QE : List V → Hp → Prop} {Q : Option Value → Shared → Prop}
    (hh : A.handled = none) (hroom : A.depth < recursionLimit) (hl : s.heap.NoLimit) (hg : s.heap.IsGen a g) (hgs : s.gens[g]? = some gs)
    (hgo : gs.Goes (model P w) A.in1 (GXR (GBo X s4 H4 fp a g) CP QE) (GXY (GBo X s4 H4 fp a g) CP okY stp QE) n (.send .none) (s.setGen g .running))
    (hY : ∀ v s' gs' ys y Pc H, RelV y v → CP ys Pc → GBo X s4 H4 fp a g Pc H s' → s'.gens[g]? = some gs' → okY ys y H → (∀ p ∈ Pc, s.heap.get? p.1 = some p.2) → (stp y = true → QE (ys ++ [y]) H) →
      (stp y = false → ∀ P' s'', Woke Pc P' s' s'' → CP (ys ++ [y]) P' → ∃ m, m < n ∧ gs'.Goes (model P w) A.in1 (GXR (GBo X s4 H4 fp a g) CP QE) (GXY (GBo X s4 H4 fp a g) CP okY stp QE) m (.send .none) s'') → Q (some v) s')
    (hP : ∀ s' ys Pc H, CP ys Pc → GBo X s4 H4 fp a g Pc H s' → QE ys H → (∀ p ∈ Pc, s.heap.get? p.1 = some p.2) → Q none s') : wpAny (model P w) A (pyNext (.ref a)) Q E s := by
  have hgl : g < s.gens.size := (Array.getElem?_eq_some_iff.mp hgs).1
  refine wpAny_gsz (n := g + 1) hgl (wpAny_pyNext_genexpQ (P := fun _ s₀ s₁ => ∃ ys Pc H, CP ys Pc ∧ GBo X s4 H4 fp a g Pc H s₁ ∧ QE ys H ∧ ∀ p ∈ Pc, s₀.heap.get? p.1 = some p.2) hh hl hroom hg hgs hgo (fun v s₁ gs' hb hv => ?_) (fun s₁ hp h' hk => ?_))
  · intro hsz
    have hsz1 : g < s₁.gens.size := by
      have q : (s₁.setGen g gs').gens.size = s₁.gens.size := setGen_size _ _ _
      have hsz' : g + 1 ≤ (s₁.setGen g gs').gens.size := hsz
      omega
    obtain ⟨ys, y, Pc, H, rv, cp, gb, oky, hP0, q1, q2⟩ := hv
    refine hY v _ gs' ys y Pc H rv cp (gb.ext rfl (allBare_setGen gb.2.1 hb) fun _ _ e => e) (setGen_at hsz1) oky hP0 q1 fun hst P' s'' wk cp' => ?_
    have q3 := q2 hst P' s'' ⟨wk.os, wk.bare, wk.keep, wk.adr, wk.own⟩ cp'
    cases n with
    | zero => exact q3.elim
    | succ m => exact ⟨m, Nat.lt_succ_self m, q3⟩
  · intro _
    obtain ⟨ys, Pc, H, cp, gb, q, hP0⟩ := hp
    exact hP _ ys Pc H cp (gb.ext rfl (allBare_setGen gb.2.1 rfl) hk) q hP0
def isF : V → Bool
  | .bl false => true
  | _ => false
def okB : List V → V → Hp → Prop := fun _ y _ => ∃ b, y = .bl b
def cpB (stp : V → Bool) : CPt := fun ys P => P = [] ∧ ∀ y ∈ ys, stp y = false
theorem all_loop {P : Program} {w : World} {A : Around} {R : Result → Shared → Prop} {X : Cx} {s4 : Shared} {H4 : Hp} {fp : List Addr} {a : Addr} {g : Nat} {QE : List V → Hp → Prop} (hh : A.handled = none) (hroom : A.depth < recursionLimit)
    (hR : ∀ s' ys Pc H, GBo X s4 H4 fp a g Pc H s' → QE ys H → R (.ok (.ret (.bool (!(ys.any isF))))) s') :
    ∀ (n : Nat) (s : Shared), s.heap.IsGen a g → s.heap.NoLimit →
      (∃ gs, s.gens[g]? = some gs ∧ gs.Goes (model P w) A.in1.in1 (GXR (GBo X s4 H4 fp a g) (cpB isF) QE) (GXY (GBo X s4 H4 fp a g) (cpB isF) okB isF QE) n (.send .none) (s.setGen g .running)) →
      codeAny (model P w) A (.builtin "all.loop" ⟨[.ref a], []⟩) R s := by
  intro n
  induction n using Nat.strongRecOn with
  | ind n ih =>
    intro s hg hl ⟨gs, hgs, hgo⟩
    refine codeAny_builtin F.entry_all_loop ?_
    rw [Around.under_plainId F.plain_all_loop _]
    show wpAny _ A.in1 (pyNext (.ref a) >>= _) _ _ s
    refine wpAny_bind (gx_pull (A := A.in1) hh hroom hl hg hgs hgo (fun v s' gs' ys y Pc H rv cp gb hgs' oky _ q1 q2 => ?_) fun s' ys Pc H cp gb q _ => ?_)
    · obtain ⟨b, rfl⟩ := oky
      obtain rfl : v = Value.bool b := rv
      refine wpAny_bind (wpAny_holding (wpAny_truthy_bool ?_))
      refine wpAny_bind (wpAny_letGo ?_)
      cases b with
      | true =>
        simp only [if_true]
        obtain ⟨rfl, hall⟩ := cp
        have gbr : GBo X s4 H4 fp a g [] H (s'.setGen g .running) := gb.ext rfl (allBare_setGen gb.2.1 rfl) fun _ _ e => e
        obtain ⟨m, hm, go⟩ := q2 rfl [] (s'.setGen g .running) ⟨rfl, gbr.2.1, fun _ _ _ e => e, rfl, fun p hp => by simp at hp⟩ ⟨rfl, fun z hz => by
          rcases List.mem_append.mp hz with hz | hz
          · exact hall z hz
          · rw [List.mem_singleton.mp hz]
            rfl⟩
        exact wpAny_pure ⟨plainId_quiet F.plain_all_loop _, ih m hm s' gb.2.2.2.2.1 gb.2.2.2.2.2.1 ⟨gs', hgs', go⟩⟩
      | false =>
        simp only [Bool.false_eq_true, if_false]
        refine wpAny_bind (wpAny_rule (wpAny_pure ?_))
        have := hR s' _ Pc H gb (q1 rfl)
        rw [List.any_append] at this
        have e : [V.bl false].any isF = true := rfl
        rw [e, Bool.or_true] at this
        exact this
    · refine wpAny_bind (wpAny_rule (wpAny_pure ?_))
      have := hR s' ys Pc H gb q
      have e : ys.any isF = false := by
        rw [List.any_eq_false]
        intro y hy
        rw [cp.2 y hy]
        exact Bool.false_ne_true
      rw [e] at this
      exact this
section
variable {X : Cx} {R P : Addr} {k : Nat} {elt tg iter : Expr} {ifs : List Expr} {scope : Scope} {own : List (Str × Nat)} {gpos p pos : Pos} {wi : TI} {g : TG} {tt : TT} {te : TE}
/-- how the generator's own parts are read -/
structure GxOk (X : Cx) (k : Nat) (R P : Addr) (elt tg iter : Expr) (ifs : List Expr) (scope : Scope) (own : List (Str × Nat)) (wi : TI) (g : TG) (tt : TT) (te : TE) : Prop where
  hc : X.calm = true
  hN : X.N.Nodup
  hr : Room (k + 2) X.A
  CO : CodeOk X R P
  ok : BlkOk X.N X.env.scope scope own
  hcell : ∀ y ∈ scope.names, y.2 ≠ .cell
  hdot : scope.names.lookup (".0" : Str) = some NameKind.local
  hco : scope.isCoroutine = false
  hi : PI X tg iter wi
  hg : ∀ (s : Shared) (H : Hp) (cl : List (Str × Addr)) (C : Addr) (cd : Value) (A : Around) (fp : List Addr) (pn : List (Addr × Obj)), PG (X.gx s H (genEnv scope cl C cd builtinsNs X.env) A fp pn) tg g
  ht : ∀ (s : Shared) (H : Hp) (cl : List (Str × Addr)) (C : Addr) (cd : Value) (A : Around) (fp : List Addr) (pn : List (Addr × Obj)) (P' : Addr), InOk H R cd P' → Room k A → PTs (X.gx s H (genEnv scope cl C cd builtinsNs X.env) A fp pn) ifs tt
  he : ∀ (s : Shared) (H : Hp) (cl : List (Str × Addr)) (C : Addr) (cd : Value) (A : Around) (fp : List Addr) (pn : List (Addr × Obj)) (P' : Addr), InOk H R cd P' → Room k A → PE (X.gx s H (genEnv scope cl C cd builtinsNs X.env) A fp pn) elt te
  hs : ∀ v, genFold iter X.env v = pure v
theorem GxOk.make {pins : List (Addr × Obj)} {σ : L2.St} {H : Hp} {s : Shared} {okY : List V → V → Hp → Prop} {stp : V → Bool} {QE : List V → Hp → Prop} (G : GxOk X k R P elt tg iter ifs scope own wi g tt te) (I : Inv X pins σ H s) (h : tGx R P wi g tt te (own.map (·.2)) okY stp QE σ H) :
    wpAny (model X.prog X.w) X.A (eval (.GeneratorExp elt [⟨tg, iter, ifs, 0⟩] scope gpos) X.env) (GMadeX X k pins σ okY stp QE) X.xe s :=
  gx_make G.hc G.hN G.hr.hd (by have := G.hr.dp; omega) G.CO G.ok G.hcell G.hdot G.hco G.hi G.hg G.ht G.he G.hs I h
def tGAll (R P : Addr) (wi : TI) (g : TG) (tt : TT) (te : TE) (vs : List Nat) : TE := fun σ H Q => tGx R P wi g tt te vs okB isF (fun ys H' => Q (.bl (!(ys.any isF))) H') σ H
theorem room2 {A : Around} (r : Room (k + 2) A) : Room (k + 1) A.in1.in1 := ⟨r.hd, by have := r.dp; show A.depth + 3 * (k + 1) + 5 < _; omega, by have := r.un; show A.units + 1 + 1 + 16 * (k + 1) + 200 < _; omega⟩
theorem pe_gall (G : GxOk X k R P elt tg iter ifs scope own wi g tt te) (hgl : Gl X "all") (hm : X.mg "all" = none) (hb : bootBuiltins "all" = some (.builtin "all"))
    (hst : starEach [.GeneratorExp elt [⟨tg, iter, ifs, 0⟩] scope gpos] X.env = (false, eval (.GeneratorExp elt [⟨tg, iter, ifs, 0⟩] scope gpos) X.env) :: starEach [] X.env := by rfl) :
    PE X (.Call (.Name "all" p) [.GeneratorExp elt [⟨tg, iter, ifs, 0⟩] scope gpos] [] pos) (tGAll R P wi g tt te (own.map (·.2))) := by
  refine ⟨fun pins s σ H Q I h => ?_⟩
  refine wpAny_Call_Name_kw (ld_blt I hgl hm hb ?_)
  refine PyProof.Rows.callWith_builtin1 ?_ hst (by rfl)
  rw [hst]
  show wpAny _ _ (spliced ((false, eval (.GeneratorExp elt [⟨tg, iter, ifs, 0⟩] scope gpos) X.env) :: backTo pos (starEach [] X.env))) _ _ s
  refine Calls.spliced_cons (thn (G.make I h) fun u s5 hG => ?_)
  obtain ⟨a, gn, cd, s4, H4, fp, rfl, I4, hf, ha, hg, hgs, os, ba, hl, kp, sz, wake⟩ := hG
  refine Calls.spliced_nil ?_
  refine call_function_tree F.kind_all F.plain_all F.entry_all (F.args_all1 _) ?_
  unfold Builtin.«all»
  refine wpAny_bind (m := oneArg "all" _) (wpAny_pure ?_)
  refine wpAny_bind (wpAny_pyIter_gen hg ?_)
  have bar : AllBare (s5.setGen gn .running).gens := allBare_setGen ba rfl
  obtain ⟨n, sg⟩ := wake X.A.in1.in1 (cpB isF) [] (s5.setGen gn .running) (room2 G.hr) I4.ok.frames (fun ys P' cp p hp => by rw [cp.1] at hp; simp at hp) ⟨rfl, fun y hy => by simp at hy⟩ (fun p hp => by simp at hp) (fun _ _ e => e) rfl bar
  refine wpAny_pure ⟨plainId_quiet F.plain_all_loop _, all_loop G.hr.hd (by have := G.hr.dp; omega) (fun s' ys Pc H' gb q => ?_) n s5 hg hl ⟨_, hgs, rfl, sg⟩⟩
  exact ⟨.bl _, H', gb.back I4 hf, rfl, q⟩
end
end VL
end
section
set_option autoImplicit false
set_option maxRecDepth 100000
set_option maxHeartbeats 2000000
namespace VL
open PySem PySem.Spec PyProof.Rows L2 GenW GxR
def cpL (S : Addr) : CPt := fun ys P => ∃ acc c, P = [(S, lstObj acc c)] ∧ Vals ys acc.toList
def okL : List V → V → Hp → Prop := fun ys _ _ => ys.length < sizeLine
def goOn : V → Bool := fun _ => false
theorem ext_loop {P : Program} {w : World} {A : Around} {R : Result → Shared → Prop} {X : Cx} {s4 : Shared} {H4 : Hp} {fp : List Addr} {S a : Addr} {g : Nat} {QE : List V → Hp → Prop} {res : Value} (hh : A.handled = none) (hroom : A.depth < recursionLimit) (hSa : S ≠ a) (hSc : S ≠ cStatics)
    (hR : ∀ (s' : Shared) (ys : List V) (acc : Array Value) (c : Nat) (H : Hp), GBo X s4 H4 fp a g [(S, lstObj acc c)] H s' → Vals ys acc.toList → QE ys H → R (.ok (.ret res)) s') :
    ∀ (n : Nat) (s : Shared), s.heap.IsGen a g → s.heap.NoLimit →
      (∃ gs, s.gens[g]? = some gs ∧ gs.Goes (model P w) A.in1.in1 (GXR (GBo X s4 H4 fp a g) (cpL S) QE) (GXY (GBo X s4 H4 fp a g) (cpL S) okL goOn QE) n (.send .none) (s.setGen g .running)) →
      codeAny (model P w) A (.builtin "list.extend.loop" ⟨[.ref S, .ref a, res], []⟩) R s := by
  intro n
  induction n using Nat.strongRecOn with
  | ind n ih =>
    intro s hg hl ⟨gs, hgs, hgo⟩
    refine codeAny_builtin F.entry_extend_loop ?_
    rw [Around.under_plainId F.plain_extend_loop _]
    show wpAny _ A.in1 (pyNext (.ref a) >>= _) _ _ s
    refine wpAny_bind (gx_pull (A := A.in1) hh hroom hl hg hgs hgo (fun v s' gs' ys y Pc H rv cp gb hgs' oky _ q1 q2 => ?_) fun s' ys Pc H cp gb q _ => ?_)
    · obtain ⟨acc, c, rfl, rl⟩ := cp
      have hS1 : s'.heap.get? S = some (lstObj acc c) := (gb.2.2.2.2.2.2 (S, lstObj acc c) (List.mem_singleton.mpr rfl)).1
      have hasz : acc.size < sizeLine := by
        have e1 := rl.length
        have e2 : acc.toList.length = acc.size := by simp
        have e3 : ys.length < sizeLine := oky
        omega
      show wpAny _ A.in1 (updateSeq S (·.push v) >>= _) _ _ _
      refine wpAny_bind ?_
      refine wpAny_updateSeq hS1 rfl (wpAny_pure ⟨plainId_quiet F.plain_extend_loop _, ?_⟩) (Nat.le_of_lt hasz) (by show (acc.push v).size ≤ sizeLine + 1; rw [Array.size_push]; omega)
      have keep3 : ∀ b o, b ≠ S → s'.heap.get? b = some o → (s'.heap.update S (Obj.mapSeq (·.push v))).get? b = some o := fun b o hbS e => (Heap.get?_update_other _ _ (Ne.symm hbS)).trans e
      obtain ⟨_, hb1, _, _, hg1, hl1, _⟩ := gb
      obtain ⟨m, hm, go⟩ := q2 rfl [(S, lstObj (acc.push v) _)] ({ s' with heap := s'.heap.update S (Obj.mapSeq (·.push v)) }.setGen g .running) ⟨rfl, allBare_setGen hb1 rfl, fun b o hb e => keep3 b o (fun z => hb (by rw [z]; exact List.mem_singleton.mpr rfl)) e, rfl, fun p hp => by
        rw [List.mem_singleton.mp hp]
        exact ⟨Heap.get?_update_self _ hS1 rfl, fun v z => by cases z⟩⟩ ⟨acc.push v, _, rfl, by
          rw [Array.toList_push]
          exact rl.append (.cons rv .nil)⟩
      refine ih m hm { s' with heap := s'.heap.update S (Obj.mapSeq (·.push v)) } ?_ ?_ ⟨gs', hgs', go⟩
      · obtain ⟨o, nm, qn, ho, r⟩ := hg1
        exact ⟨o, nm, qn, keep3 a o (Ne.symm hSa) ho, r⟩
      · obtain ⟨mc, hns, hnn⟩ := hl1
        exact ⟨mc, hns.at' fun o e => keep3 _ o (Ne.symm hSc) e, hnn⟩
    · obtain ⟨acc, c, rfl, rl⟩ := cp
      exact wpAny_pure (hR s' ys acc c H gb rl q)
theorem collect_gx {X : Cx} {A : Around} {pins : List (Addr × Obj)} {σ : L2.St} {k : Nat} {u : Value} {s : Shared} {QE : List V → Hp → Prop} {Q : List Value → Shared → Prop} {E : Value → Shared → Prop}
    (hr : Room (k + 1) A.in1.in1) (hfr : A.frames = some X.stack) (h : GMadeX X k pins σ okL goOn QE u s)
    (hQ : ∀ (s' : Shared) (ys : List V) (acc : Array Value) (H' : Hp), Vals ys acc.toList → Inv X pins σ H' s' → QE ys H' → Q acc.toList s') : wpAny (model X.prog X.w) A (collect u) Q E s := by
  obtain ⟨a, g, c, s4, H4, fp, rfl, I4, hf, ha, hg, hgs, os, ba, hl, kp, sz, wake⟩ := h
  have hSa : s.heap.objs.size ≠ a := Nat.ne_of_gt ha
  have hcl : cStatics < s.heap.objs.size := let ⟨_, hn, _⟩ := hl; hn.lt
  have hSc : s.heap.objs.size ≠ cStatics := Nat.ne_of_gt hcl
  have hd : A.depth < recursionLimit := by
    have := hr.dp
    have e : A.in1.in1.depth = A.depth := rfl
    omega
  unfold collect
  refine wpAny_bind (wpAny_runValue (codeAny_builtin F.entry_proto_collect ?_))
  rw [Around.under_plainId F.plain_proto_collect _]
  show wpAny _ A.in1 (newList [] >>= fun l => again (.builtin "list.__iadd__" ⟨[l, .ref a], []⟩)) _ _ s
  refine wpAny_bind (wpAny_newObj_type ?_)
  refine wpAny_pure ⟨plainId_quiet F.plain_list_iadd _, codeAny_builtin F.entry_list_iadd ?_⟩
  rw [Around.under_plainId F.plain_list_iadd _]
  have k1 : ∀ b o, s.heap.get? b = some o → (s.heap.push { cls := .type "list", data := .seq ([] : List Value).toArray }).get? b = some o := fun b o e => Heap.get?_push_of_some _ e
  have gty : ∀ {h : Heap}, (∀ b o, s.heap.get? b = some o → h.get? b = some o) → h.IsGen a g := fun {h} q => hg.keeps q
  show wpAny _ A.in1 (Builtin.List.listExtendWith (.ref s.heap.objs.size) (.ref a) (.ref s.heap.objs.size)) _ _ _
  unfold Builtin.List.listExtendWith
  refine wpAny_bind (wpAny_typeOf (Heap.IsGen.typeIs (s := { s with heap := _ }) (gty k1)) ?_)
  have h1 : Builtin.List.listSameRef (.ref s.heap.objs.size) (.ref a) = false := by simp [Builtin.List.listSameRef, hSa]
  have h2 : (Value.type "generator" == Value.type "list") = false := by decide
  have h3 : (Value.type "generator" == Value.type "tuple") = false := by decide
  simp only [h1, h2, h3, Bool.or_false, Bool.false_eq_true, if_false]
  refine wpAny_bind (wpAny_pyIter_gen (s := { s with heap := _ }) (gty k1) ?_)
  refine wpAny_bind (wpAny_holding ?_)
  unfold Builtin.List.listLengthHint
  refine wpAny_bind (wpAny_specialOf (Heap.IsGen.typeIs (s := { s with heap := _ }) (gty k1)) F.gen_no_len ?_)
  show wpAny _ A.in1 (specialOf (Value.ref a) (Str.ofString "__length_hint__") >>= _) _ _ _
  refine wpAny_bind (wpAny_specialOf (Heap.IsGen.typeIs (s := { s with heap := _ }) (gty k1)) F.gen_no_hint ?_)
  refine wpAny_pure ?_
  show wpAny _ A.in1 (rule "list.extend.makes-room" >>= fun _ => Builtin.List.listTouch (.ref s.heap.objs.size) >>= fun _ =>
    again (.builtin "list.extend.loop" ⟨[.ref s.heap.objs.size, .ref a, .ref s.heap.objs.size], []⟩)) _ _ _
  refine wpAny_bind (wpAny_rule ?_)
  have hS₁ : (s.heap.push { cls := .type "list", data := .seq ([] : List Value).toArray }).get? s.heap.objs.size = some { cls := .type "list", data := .seq ([] : List Value).toArray } := Heap.get?_push_size _ rfl
  refine wpAny_bind ?_
  show wpAny _ A.in1 (updateSeq s.heap.objs.size (·.push .none) >>= fun _ => updateSeq s.heap.objs.size (·.pop)) _ _ _
  refine wpAny_bind (wpAny_updateSeq hS₁ rfl ?_)
  have hS₂ := Heap.get?_update_self (Obj.mapSeq (·.push Value.none)) hS₁ rfl
  refine wpAny_updateSeq hS₂ rfl ?_
  have hS₃ := Heap.get?_update_self (Obj.mapSeq (·.pop)) hS₂ rfl
  have oth : ∀ b o, s.heap.get? b = some o →
      (((s.heap.push { cls := .type "list", data := .seq ([] : List Value).toArray }).update s.heap.objs.size (Obj.mapSeq (·.push Value.none))).update s.heap.objs.size (Obj.mapSeq (·.pop))).get? b = some o :=
    fun b o e => have hb : b ≠ s.heap.objs.size := Nat.ne_of_lt (Heap.lt_size e)
      (Heap.get?_update_other _ _ (Ne.symm hb)).trans ((Heap.get?_update_other _ _ (Ne.symm hb)).trans (k1 b o e))
  obtain ⟨n, sg⟩ := wake A.in1.in1 (cpL s.heap.objs.size) [(s.heap.objs.size, lstObj #[] _)] ({ s with heap := _ }.setGen g .running) hr hfr (fun ys P' cp p hp => by
    obtain ⟨acc, c, rfl, _⟩ := cp
    rw [List.mem_singleton.mp hp]
    exact Nat.le_refl _) ⟨#[], _, rfl, .nil⟩ (fun p hp => by
      rw [List.mem_singleton.mp hp]
      exact ⟨hS₃, fun v z => by cases z⟩) oth rfl (allBare_setGen ba rfl)
  refine wpAny_pure ⟨plainId_quiet F.plain_extend_loop _, ext_loop (P := X.prog) (w := X.w) (A := A) (show A.handled = none from hr.hd) hd hSa hSc (fun s' ys acc c H' gb rl q => ?_) n _ (gty oth) (hl.keeps oth) ⟨_, hgs, rfl, sg⟩⟩
  show wpAny _ A (load s.heap.objs.size >>= _) _ _ s'
  refine wpAny_bind (wpAny_load (gb.2.2.2.2.2.2 _ (List.mem_singleton.mpr rfl)).1 ?_)
  exact wpAny_pure (hQ s' ys acc H' rl (gb.back I4 hf) q)
theorem GMadeX.typ {X : Cx} {k : Nat} {pins : List (Addr × Obj)} {σ : L2.St} {okY : List V → V → Hp → Prop} {stp : V → Bool} {QE : List V → Hp → Prop} {u : Value} {s : Shared} (h : GMadeX X k pins σ okY stp QE u s) : ∃ a, u = .ref a ∧ s.TypeIs (.ref a) "generator" := by
  obtain ⟨a, g, c, s4, H4, fp, rfl, I4, hf, ha, hg, _⟩ := h
  exact ⟨a, rfl, hg.typeIs⟩
theorem code_tuple_gx {X : Cx} {A : Around} {pins : List (Addr × Obj)} {σ : L2.St} {k : Nat} {I : Addr} {s : Shared} {QE : List V → Hp → Prop} {Q₁ : Value → Shared → Prop} {E : Value → Shared → Prop}
    (hr : Room (k + 1) A.in1.in1.in1) (hfr : A.frames = some X.stack) (hG : GMadeX X k pins σ okL goOn QE (.ref I) s)
    (h : ∀ (s' : Shared) (ys : List V) (acc : Array Value) (H' : Hp), Vals ys acc.toList → acc.size ≤ sizeLine → Inv X pins σ H' s' → QE ys H' → Q₁ (.ref s'.heap.objs.size) { s' with heap := s'.heap.push { cls := .type "tuple", data := .seq acc } }) (hz : ∀ ys H, QE ys H → ys.length ≤ sizeLine) :
    codeAny (model X.prog X.w) A (.call (.builtin "tuple.__new__") ⟨[.type "tuple", .ref I], []⟩) (wants Q₁ E) s := by
  refine codeAny_of_tree ?_
  show wpAny _ A.in1 (do checkBuiltinCall "tuple.__new__" ⟨[.type "tuple", .ref I], []⟩; again (.builtin "tuple.__new__" ⟨[.type "tuple", .ref I], []⟩)) _ _ s
  refine wpAny_bind (wpAny_of_eq (F.newCall_tuple_1 _) (wpAny_pure ⟨plainId_quiet F.plain_tuple_new _, codeAny_builtin F.entry_tuple_new ?_⟩))
  rw [Around.under_plainId F.plain_tuple_new _]
  have hsub := sub_tuple_self
  have hinit := init_tuple_lookup
  have hmh := madeHere_tuple
  have hTI : s.TypeIs (.ref I) "generator" := by
    obtain ⟨a, e, t⟩ := hG.typ
    cases e
    exact t
  wp_walk using wpAny_typeOf hTI, collect_gx (A := A.in1) hr hfr hG
  intro s' ys acc H' rl I' q
  have hsz : acc.size ≤ sizeLine := by
    have e1 := rl.length
    have e2 : acc.toList.length = acc.size := by simp
    have e3 := hz ys H' q
    omega
  show wpAny _ _ (Builtin.Tuple.tupleExact acc.toList.toArray >>= fun v => ret v) _ _ _
  unfold Builtin.Tuple.tupleExact
  refine wpAny_bind (wpAny_newObj_type ?_ (by show acc.toList.toArray.size ≤ sizeLine; simp only [Array.toArray_toList]; exact hsz))
  refine wpAny_pure ?_
  have e : acc.toList.toArray = acc := by simp
  rw [e]
  exact h s' ys acc H' rl hsz I' q
theorem call_tuple_gx {X : Cx} {A : Around} {pins : List (Addr × Obj)} {σ : L2.St} {k : Nat} {u : Value} {s : Shared} {QE : List V → Hp → Prop} {Q : Value → Shared → Prop} {E : Value → Shared → Prop}
    (hr : Room (k + 1) A.in1.in1.in1.in1) (hfr : A.frames = some X.stack) (hG : GMadeX X k pins σ okL goOn QE u s)
    (hQ : ∀ (s' : Shared) (ys : List V) (acc : Array Value) (H' : Hp), Vals ys acc.toList → acc.size ≤ sizeLine → Inv X pins σ H' s' → QE ys H' → Q (.ref s'.heap.objs.size) { s' with heap := s'.heap.push { cls := .type "tuple", data := .seq acc } }) (hz : ∀ ys H, QE ys H → ys.length ≤ sizeLine) :
    wpAny (model X.prog X.w) A (call (.type "tuple") [u]) Q E s := by
  obtain ⟨a, rfl, _⟩ := hG.typ
  refine callType_codes (Q₁ := fun obj s₁ => s₁.TypeIs obj "tuple" ∧ Q obj s₁) F.called_tuple (F.typeCall_tuple_1 _) F.entry_object_init
    (code_tuple_gx hr hfr hG (fun s' ys acc H' rl hsz I' q => ⟨⟨_, Heap.get?_push_size _ rfl, rfl⟩, hQ s' ys acc H' rl hsz I' q⟩) hz) fun obj s₁ h₁ => ?_
  exact ⟨h₁.1, F.args_object_init_2 obj _, object_init_meets F.called_tuple.init.lookup F.called_tuple.made (by decide) X.prog X.w A.in1 _ s₁ ⟨h₁.1, rfl, h₁.2⟩⟩
def tGTup (R P : Addr) (wi : TI) (g : TG) (tt : TT) (te : TE) (vs : List Nat) : TE := fun σ H Q => tGx R P wi g tt te vs okL goOn (fun ys H' => ys.length ≤ sizeLine ∧ ∀ p, H' p = none → Q (.ref p) (upd H' p (.tup ys))) σ H
theorem pe_gtup {X : Cx} {R P : Addr} {k : Nat} {elt tg iter : Expr} {ifs : List Expr} {scope : Scope} {own : List (Str × Nat)} {gpos p pos : Pos} {wi : TI} {g : TG} {tt : TT} {te : TE} (G : GxOk X k R P elt tg iter ifs scope own wi g tt te) (hgl : Gl X "tuple") (hm : X.mg "tuple" = none)
    (hst : starEach [.GeneratorExp elt [⟨tg, iter, ifs, 0⟩] scope gpos] X.env = (false, eval (.GeneratorExp elt [⟨tg, iter, ifs, 0⟩] scope gpos) X.env) :: starEach [] X.env := by rfl) :
    PE X (.Call (.Name "tuple" p) [.GeneratorExp elt [⟨tg, iter, ifs, 0⟩] scope gpos] [] pos) (tGTup R P wi g tt te (own.map (·.2))) := by
  refine ⟨fun pins s σ H Q I h => ?_⟩
  refine wpAny_Call_Name_kw (ld_blt I hgl hm boot_tuple ?_)
  refine PyProof.Rows.callWith_type1 ?_ hst (by rfl)
  rw [hst]
  show wpAny _ _ (spliced ((false, eval (.GeneratorExp elt [⟨tg, iter, ifs, 0⟩] scope gpos) X.env) :: backTo pos (starEach [] X.env))) _ _ s
  refine Calls.spliced_cons (thn (G.make I h) fun u s5 hG => ?_)
  refine Calls.spliced_nil ?_
  have hr4 : Room (k + 1) X.A.in1.in1.in1.in1 := ⟨G.hr.hd, by have := G.hr.dp; show X.A.depth + 3 * (k + 1) + 5 < _; omega, by have := G.hr.un; show X.A.units + 1 + 1 + 1 + 1 + 16 * (k + 1) + 200 < _; omega⟩
  refine call_tuple_gx hr4 I.ok.frames hG (fun s' ys acc H' rl hsz I' q => ?_) fun ys H' q => q.1
  have hf : H' s'.heap.objs.size = none := I'.hok.fresh (Nat.le_refl _)
  refine ⟨.ref s'.heap.objs.size, upd H' s'.heap.objs.size (.tup ys), I'.laid (t' := s'.toks) (fun b u e => Heap.get?_push_of_some _ e) (Nat.le_refl _) ⟨q.1, acc.toList, rl, by
    have e : acc.toList.toArray = acc := by simp
    rw [e]
    exact IsTup.new _ _⟩, rfl, q.2 _ hf⟩
end VL
end
section
set_option autoImplicit false
set_option maxRecDepth 100000
set_option maxHeartbeats 2000000
namespace VL
open PySem PySem.Spec PyProof.Rows L2 GenW GxR
def wGx (wi : WN) (g : WG) (tt : WT) (te : WE) (vs : List Nat) (okd : List D → D → Prop) (stp : D → Bool) : WN := fun ρ P => wi ρ fun ds ρ1 => ∃ W : Nat → List D → En → Prop, W 0 [] (wipeE ρ1 vs) ∧
  (∀ i acc ρ d, W i acc ρ → ds[i]? = some d → g d ρ fun ρ2 => tt ρ2 fun b ρ3 => if b = true then te ρ3 fun c ρ4 => ∃ y, c = .d y ∧ okd acc y ∧ (if stp y = true then P (acc ++ [y]) (wipeE ρ4 vs) else W (i + 1) (acc ++ [y]) (wipeE ρ4 vs)) else W (i + 1) acc (wipeE ρ3 vs)) ∧
  ∀ acc ρ, W ds.length acc ρ → P acc ρ
/-- the table has grown -/
theorem Sv.tabbed {K : Fg} {as : As} {Z : Hp} {ρ : En} {σ : L2.St} {B H H2 : Hp} {P : Addr} (S : Sv K as Z ρ σ B H) (g : Grown P H H2) : ∃ B2, ExT B B2 ∧ Sv K as Z ρ σ B2 H2 := by
  obtain ⟨off, ps, ps2, e1, e2, tr, hc⟩ := id g
  have nP : ¬ Ow ρ σ P := fun w => by
    obtain ⟨_, o, e, t, _⟩ := S.ow w
    rw [e1] at e
    cases e
    cases t
  have zP : Z P = none := by
    cases z : Z P with
    | none => rfl
    | some o =>
      obtain ⟨h1, _, _, h4⟩ := S.hid P o z
      rw [e1] at h1
      cases h1
      rcases h4 with ⟨_, h⟩ | ⟨_, h⟩ | ⟨_, h⟩ <;> cases h
  have bP : B P = some (.tbl ps) := by rw [← S.off P nP zP]; exact e1
  obtain ⟨B2, new, at0, stay'⟩ : ∃ B2 : Hp, (∀ a, H a = none → B2 a = H2 a) ∧ B2 P = some (.tbl ps2) ∧ ∀ a o, a ≠ P → H a = some o → B2 a = B a :=
    ⟨fun a => match H a with | none => H2 a | some _ => if a = P then H2 P else B a, fun a n => by dsimp only; rw [n], by dsimp only; rw [e1]; dsimp only; rw [if_pos rfl, e2], fun a o n e => by dsimp only; rw [e]; dsimp only; rw [if_neg n]⟩
  have stay : ∀ a o, a ≠ P → B a = some o → B2 a = some o := fun a o n e => (stay' a o n (S.sub e)).trans e
  have gB : Grown P B B2 := ⟨stay, ps, ps2, bP, at0, tr, fun pos v e => (hc pos v e).imp id fun ⟨c, Q, o, a1, a2, a3, a4, a5, a6, a7⟩ => ⟨c, Q, o, a1, a2, (new c a6).trans a3, a4, (new Q a7).trans a5, S.free a6, S.free a7⟩⟩
  have x : ExT B B2 := ⟨fun a o h n => stay a o (fun z => by
    rw [z, bP] at h
    cases h
    cases n) h, fun Q h => gB.tab h⟩
  refine ⟨B2, x, S.grow x (fun a w => ?_) fun a w wz => ?_⟩
  · have q : ∃ o, H a = some o ∧ isTbl o = false ∧ B a = none := by
      rcases w with w | w
      · obtain ⟨b, o, e, t, _⟩ := S.ow w
        exact ⟨o, e, t, b⟩
      · cases q : Z a with
        | none => exact (w q).elim
        | some o =>
          obtain ⟨h1, h2, _, h4⟩ := S.hid a o q
          refine ⟨o, h1, ?_, h2⟩
          rcases h4 with ⟨_, h⟩ | ⟨_, h⟩ | ⟨_, h⟩ <;> (rw [h]; rfl)
    obtain ⟨o, e, t, b⟩ := q
    have na : a ≠ P := fun z => by
      rw [z, e1] at e
      cases e
      cases t
    exact ⟨(stay' a o na e).trans b, (off a o na e).trans e.symm⟩
  · cases q : H a with
    | none => exact (new a q).symm
    | some o =>
      by_cases z : a = P
      · rw [z, at0, e2]
      · have b : B a = some o := by rw [← S.off a w wz, q]
        rw [stay a o z b]
        exact off a o z q
theorem up_gx {K : Fg} {as : As} {R P : Addr} {wi : WN} {g : WG} {gt : TG} {sl vs : List Nat} {tt : WT} {te : WE} {tt' : TT} {okd : List D → D → Prop} {stp : D → Bool} {okY : List V → V → Hp → Prop} {stpV : V → Bool} (htt : ∀ σ H Q, upT K as tt σ H Q → tt' σ H Q)
    (fg : GOk K as gt g sl) (hsl : ∀ j ∈ sl, j ∈ vs) (hP : R ∈ as.2.1) (hok : ∀ {B H : Hp} {xs : List V} {acc : List D} {v : V} {y : D}, DqAll K B xs acc → Dq K B v y → okd acc y → okY xs v H ∧ stpV v = stp y)
    {σ : L2.St} {H : Hp} {QE : List V → Hp → Prop} (h : ∃ Z ρ B Pk, Sv K as Z ρ σ B H ∧ wGx wi g tt te vs okd stp ρ Pk ∧ ∀ acc ρ' xs B' H', Pk acc ρ' → ExT B B' → Sv K as Z ρ' σ B' H' → DqAll K B' xs acc → QE xs H') :
    tGx R P (upI K as wi) gt tt' (up K as te) vs okY stpV QE σ H := by
  obtain ⟨Z, ρ, B, Pk, S, h, k⟩ := h
  refine ⟨Z, ρ, B, _, S, h, fun ds ρ1 B1 H1 J h1 x1 S1 wk => ?_⟩
  obtain ⟨W, w0, turn, fin⟩ := h1
  refine ⟨S1.ext.tabs R (S1.tab R hP), fun H2 htb => ?_⟩
  obtain ⟨B1', xb, S1'⟩ := S1.tabbed htb
  have wk : Wk K J B1' ds := ⟨fun i B2 H3 x s l => wk.go i B2 H3 (xb.trans x) s l, fun i B2 H3 x s l => wk.stop i B2 H3 (xb.trans x) s l, fun i B2 H3 v H' x s tt l y => wk.yld i B2 H3 v H' (xb.trans x) s tt l y⟩
  obtain ⟨B2, x2, S2⟩ := S1'.wiped vs (σ' := wipe σ vs) wipe_wipe.symm
  have back : ∀ {ρ0 : En} {B' H' : Hp}, Sv K as Z (wipeE ρ0 vs) (wipe σ vs) B' H' → Sv K as Z (wipeE ρ0 vs) σ B' H' := fun {ρ0 B' H'} S => S.irr (by rw [wipe_length]) fun i c e n => by
    rw [wipe_at (wipeE_at e n).1]
  refine ⟨fun i m xs H => i + m = ds.length ∧ ∃ ρ B' acc, (∃ ρ0, ρ = wipeE ρ0 vs) ∧ ExT B1' B' ∧ Sv K as Z ρ (wipe σ vs) B' H ∧ DqAll K B' xs acc ∧ W i acc ρ, ⟨ds.length, by omega, _, B2, [], ⟨_, rfl⟩, x2, S2, .nil, w0⟩, fun i m xs H ⟨hn, ρ, B', acc, ⟨ρ0, eρ⟩, x, S, r, hw⟩ => ?_⟩
  by_cases l : i < ds.length
  · refine .inr ⟨by omega, wk.go i B' H x S.subE l, fun xs' H' => ∃ ρ B' acc, (∃ ρ0, ρ = wipeE ρ0 vs) ∧ ExT B1' B' ∧ Sv K as Z ρ (wipe σ vs) B' H' ∧ DqAll K B' xs' acc ∧ W (i + 1) acc ρ, fun xs' H' hN => ⟨m - 1, by omega, by omega, hN⟩, fun v H' y => ?_⟩
    obtain ⟨d, B3, hd, al, dq⟩ := wk.yld i B' H v H' x S.subE S.tups l y
    obtain ⟨S3, x3⟩ := S.alc al
    refine fg _ ρ _ B3 H' v d _ _ S3 dq (turn i acc ρ d hw hd) fun ρ4 σ4 B4 H4 h4 x4 S4 o4 => ?_
    have weq : wipe σ4 vs = wipe σ vs := (wipe_eq o4.1 fun j hj => o4.2 j fun z => hj (hsl j z)).trans wipe_wipe
    refine ⟨weq, htt _ _ _ ⟨_, ρ4, B4, _, S4, h4, fun b ρ5 B5 H5 h5 x5 S5 => ?_⟩⟩
    have xx : ExT B' B5 := (x3.trans x4).trans x5
    cases b with
    | true =>
      rw [if_pos rfl] at h5
      refine iteT ?_
      refine ⟨_, ρ5, B5, _, S5, h5, fun c ρ6 v6 B6 H6 h6 x6 S6 o6 => ?_⟩
      obtain ⟨y, rfl, hok6, hW⟩ := h6
      have o6' : Dq K B6 v6 y := o6
      have r6 := DqAll.ext (xx.trans x6) r
      obtain ⟨ok1, ok2⟩ := hok (H := H6) r6 o6' hok6
      obtain ⟨B8, x8, S8⟩ := S6.wiped vs (σ' := wipe σ vs) (weq.trans wipe_wipe.symm)
      have r8 := DqAll.ext x8 (DqAll.app r6 (.cons o6' .nil))
      have x9 := ((x.trans xx).trans x6).trans x8
      refine ⟨ok1, ?_⟩
      rw [ok2]
      by_cases hs : stp y = true
      · rw [if_pos hs] at hW ⊢
        exact k _ _ _ B8 H6 hW ((x1.trans xb).trans x9) (back S8) r8
      · rw [if_neg hs] at hW ⊢
        exact ⟨_, B8, acc ++ [y], ⟨_, rfl⟩, x9, S8, r8, hW⟩
    | false =>
      rw [if_neg Bool.false_ne_true] at h5
      refine iteF ?_
      obtain ⟨B8, x8, S8⟩ := S5.wiped vs (σ' := wipe σ vs) (weq.trans wipe_wipe.symm)
      exact ⟨_, B8, acc, ⟨_, rfl⟩, (x.trans xx).trans x8, S8, DqAll.ext (xx.trans x8) r, h5⟩
  · have e : i = ds.length := by omega
    subst e
    subst eρ
    exact .inl ⟨wk.stop _ B' H x S.subE (Nat.le_refl _), k acc _ xs B' H (fin acc _ hw) ((x1.trans xb).trans x) (back S) r⟩
def isFd : D → Bool
  | .bool b => !b
  | _ => false
def okBd : List D → D → Prop := fun _ y => ∃ b, y = .bool b
def okLd : List D → D → Prop := fun acc _ => acc.length < sizeLine
theorem ok_all {K : Fg} {B H : Hp} {xs : List V} {acc : List D} {v : V} {y : D} (_ : DqAll K B xs acc) (o : Dq K B v y) (h : okBd acc y) : okB xs v H ∧ isF v = isFd y := by
  obtain ⟨b, rfl⟩ := h
  cases o
  exact ⟨⟨b, rfl⟩, by cases b <;> rfl⟩
theorem ok_tup {K : Fg} {B H : Hp} {xs : List V} {acc : List D} {v : V} {y : D} (r : DqAll K B xs acc) (_ : Dq K B v y) (h : okLd acc y) : okL xs v H ∧ goOn v = false := by
  have l := r.len
  exact ⟨by show xs.length < sizeLine; have h' : acc.length < sizeLine := h; omega, rfl⟩
theorem any_isF {K : Fg} {B : Hp} : ∀ {xs : List V} {acc : List D}, DqAll K B xs acc → xs.any isF = acc.any isFd
  | _, _, .nil => rfl
  | _, _, .cons h r => by
    rw [List.any_cons, List.any_cons, any_isF r]
    cases h with
    | bl b => cases b <;> rfl
    | _ => rfl
/-- all(elt for tg in iter if ..) -/
def wGAll (wi : WN) (g : WG) (tt : WT) (te : WE) (vs : List Nat) : WE := fun ρ P => wGx wi g tt te vs okBd isFd ρ fun acc ρ' => P (.d (.bool (!(acc.any isFd)))) ρ'
/-- tuple(elt for tg in iter if ..) -/
def wGTup (wi : WN) (g : WG) (tt : WT) (te : WE) (vs : List Nat) : WE := fun ρ P => wGx wi g tt te vs okLd (fun _ => false) ρ fun acc ρ' => acc.length ≤ sizeLine ∧ P (.d (.tuple acc)) ρ'
section
variable {X : Cx} {as : As} {R P : Addr} {k : Nat} {elt tg iter : Expr} {ifs : List Expr} {scope : Scope} {gpos p pos : Pos} {wi : WN} {g : WG} {sl : List Nat} {tt : WT} {te : WE}
/-- a def with generator expressions: its code, the table -/
structure GxT (X : Cx) (as : As) (R P : Addr) : Prop where
  hP : R ∈ as.2.1
  CO : CodeOk X R P
theorem gxt0 {X : Cx} {as : As} {c P : Addr} (hP : P ∈ as.2.1) (TB : TabB X.base X.mg c P) (hc : X.env.code = .ref c) : GxT X as P P := ⟨hP, .top TB hc⟩
def scC (scope : Scope) : Bool := (scope.names.all fun y => match y.2 with
  | .cell => false
  | _ => true) && (match scope.names.lookup (".0" : Str) with
  | some .local => true
  | _ => false) && !scope.isCoroutine
theorem scC_cell (h : scC scope = true) : ∀ y ∈ scope.names, y.2 ≠ .cell := fun y hy e => by
  unfold scC at h
  simp only [Bool.and_eq_true, List.all_eq_true] at h
  have := h.1.1 y hy
  rw [e] at this
  cases this
theorem scC_dot (h : scC scope = true) : scope.names.lookup (".0" : Str) = some NameKind.local := by
  unfold scC at h
  simp only [Bool.and_eq_true] at h
  have := h.1.2
  split at this
  · assumption
  · cases this
theorem scC_co (h : scC scope = true) : scope.isCoroutine = false := by
  unfold scC at h
  simp only [Bool.and_eq_true, Bool.not_eq_true'] at h
  exact h.2
theorem gx_ok (vs : List (Str × Nat)) (hc : X.calm = true) (hN : X.N.Nodup) (hr : Room (k + 2) X.A) (T : GxT X as R P) (hi : PI X tg iter (upI X.K as wi))
    (hg : ∀ (s : Shared) (H : Hp) (cl : List (Str × Addr)) (C : Addr) (cd : Value) (A : Around) (fp : List Addr) (pn : List (Addr × Obj)), PG (X.gx s H (genEnv scope cl C cd builtinsNs X.env) A fp pn) tg (gU X.K as g sl))
    (ht : ∀ (s : Shared) (H : Hp) (cl : List (Str × Addr)) (C : Addr) (cd : Value) (A : Around) (fp : List Addr) (pn : List (Addr × Obj)) (P' : Addr), InOk H R cd P' → Room k A → PTs (X.gx s H (genEnv scope cl C cd builtinsNs X.env) A fp pn) ifs (upT X.K as tt))
    (he : ∀ (s : Shared) (H : Hp) (cl : List (Str × Addr)) (C : Addr) (cd : Value) (A : Around) (fp : List Addr) (pn : List (Addr × Obj)) (P' : Addr), InOk H R cd P' → Room k A → PE (X.gx s H (genEnv scope cl C cd builtinsNs X.env) A fp pn) elt (up X.K as te))
    (ok : BlkOk X.N X.env.scope scope vs) (hsc : scC scope = true) (hs : ∀ v, genFold iter X.env v = pure v) : GxOk X k R P elt tg iter ifs scope vs (upI X.K as wi) (gU X.K as g sl) (upT X.K as tt) (up X.K as te) :=
  ⟨hc, hN, hr, T.CO, ok, scC_cell hsc, scC_dot hsc, scC_co hsc, hi, hg, ht, he, hs⟩
theorem vgall (vs : List (Str × Nat)) (hm : X.mg "all" = none) (hc : X.calm = true) (hN : X.N.Nodup) (hr : Room (k + 2) X.A) (T : GxT X as R P) (hi : PI X tg iter (upI X.K as wi))
    (hg : ∀ (s : Shared) (H : Hp) (cl : List (Str × Addr)) (C : Addr) (cd : Value) (A : Around) (fp : List Addr) (pn : List (Addr × Obj)), PG (X.gx s H (genEnv scope cl C cd builtinsNs X.env) A fp pn) tg (gU X.K as g sl))
    (ht : ∀ (s : Shared) (H : Hp) (cl : List (Str × Addr)) (C : Addr) (cd : Value) (A : Around) (fp : List Addr) (pn : List (Addr × Obj)) (P' : Addr), InOk H R cd P' → Room k A → PTs (X.gx s H (genEnv scope cl C cd builtinsNs X.env) A fp pn) ifs (upT X.K as tt))
    (he : ∀ (s : Shared) (H : Hp) (cl : List (Str × Addr)) (C : Addr) (cd : Value) (A : Around) (fp : List Addr) (pn : List (Addr × Obj)) (P' : Addr), InOk H R cd P' → Room k A → PE (X.gx s H (genEnv scope cl C cd builtinsNs X.env) A fp pn) elt (up X.K as te))
    (ok : BlkOk X.N X.env.scope scope vs) (hsc : scC scope = true) (hsl : ∀ j ∈ sl, j ∈ vs.map (·.2)) (hgl : Gl X "all" := by rfl) (hs : ∀ v, genFold iter X.env v = pure v := by intro _; rfl)
    (hst : starEach [.GeneratorExp elt [⟨tg, iter, ifs, 0⟩] scope gpos] X.env = (false, eval (.GeneratorExp elt [⟨tg, iter, ifs, 0⟩] scope gpos) X.env) :: starEach [] X.env := by rfl) :
    PE X (.Call (.Name "all" p) [.GeneratorExp elt [⟨tg, iter, ifs, 0⟩] scope gpos] [] pos) (up X.K as (wGAll wi g tt te (vs.map (·.2)))) := by
  refine pe_imp (pe_gall (gx_ok vs hc hN hr T hi hg ht he ok hsc hs) hgl hm (by decide +kernel) hst) fun σ H Q ⟨Z, ρ, B, Pk, S, h, kk⟩ => ?_
  refine up_gx (fun _ _ _ h => h) gU_ok hsl T.hP ok_all ⟨Z, ρ, B, _, S, h, fun acc ρ' xs B' H' h1 x1 S1 r => ?_⟩
  rw [any_isF r]
  exact kk _ _ _ B' H' h1 x1 S1 (.bl _)
theorem vgtup (vs : List (Str × Nat)) (hm : X.mg "tuple" = none) (hc : X.calm = true) (hN : X.N.Nodup) (hr : Room (k + 2) X.A) (T : GxT X as R P) (hi : PI X tg iter (upI X.K as wi))
    (hg : ∀ (s : Shared) (H : Hp) (cl : List (Str × Addr)) (C : Addr) (cd : Value) (A : Around) (fp : List Addr) (pn : List (Addr × Obj)), PG (X.gx s H (genEnv scope cl C cd builtinsNs X.env) A fp pn) tg (gU X.K as g sl))
    (ht : ∀ (s : Shared) (H : Hp) (cl : List (Str × Addr)) (C : Addr) (cd : Value) (A : Around) (fp : List Addr) (pn : List (Addr × Obj)) (P' : Addr), InOk H R cd P' → Room k A → PTs (X.gx s H (genEnv scope cl C cd builtinsNs X.env) A fp pn) ifs (upT X.K as tt))
    (he : ∀ (s : Shared) (H : Hp) (cl : List (Str × Addr)) (C : Addr) (cd : Value) (A : Around) (fp : List Addr) (pn : List (Addr × Obj)) (P' : Addr), InOk H R cd P' → Room k A → PE (X.gx s H (genEnv scope cl C cd builtinsNs X.env) A fp pn) elt (up X.K as te))
    (ok : BlkOk X.N X.env.scope scope vs) (hsc : scC scope = true) (hsl : ∀ j ∈ sl, j ∈ vs.map (·.2)) (hgl : Gl X "tuple" := by rfl) (hs : ∀ v, genFold iter X.env v = pure v := by intro _; rfl)
    (hst : starEach [.GeneratorExp elt [⟨tg, iter, ifs, 0⟩] scope gpos] X.env = (false, eval (.GeneratorExp elt [⟨tg, iter, ifs, 0⟩] scope gpos) X.env) :: starEach [] X.env := by rfl) :
    PE X (.Call (.Name "tuple" p) [.GeneratorExp elt [⟨tg, iter, ifs, 0⟩] scope gpos] [] pos) (up X.K as (wGTup wi g tt te (vs.map (·.2)))) := by
  refine pe_imp (pe_gtup (gx_ok vs hc hN hr T hi hg ht he ok hsc hs) hgl hm hst) fun σ H Q ⟨Z, ρ, B, Pk, S, h, kk⟩ => ?_
  refine up_gx (fun _ _ _ h => h) gU_ok hsl T.hP (fun {_ _ _ _ v _} r o h => ok_tup (v := v) r o h) ⟨Z, ρ, B, _, S, h, fun acc ρ' xs B' H' h1 x1 S1 r => ?_⟩
  have rl := r.len
  refine ⟨by have := h1.1; omega, fun p hp => ?_⟩
  exact kk _ _ _ _ _ h1.2 (x1.trans (.new (S1.free hp))) (S1.al hp) (.tup upd_same (DqAll.ext (.new (S1.free hp)) r))
end
end VL
end
section
set_option autoImplicit false
set_option maxRecDepth 100000
set_option maxHeartbeats 2000000
namespace VL
open PySem PySem.Spec PyProof.Rows L2 GxR
structure GxD (base : Heap) (mg : Str → Option Value) (ts : List Addr) (cdv : Value) (c P : Addr) : Prop where
  hP : P ∈ ts
  TB : TabB base mg c P
  hc : cdv = .ref c
/-- a def of the text, its code object told -/
structure FunC (K : Fg) (x qual : Str) (st : Stmt) (f : Addr) (fd : FuncData) (cdv : Value) : Prop where
  ex : ∃ (oc : Value) (od : Option Addr) (kV doc pm : Value) (an : Option Addr) (ct : Value) (osl : Array (Option Value)),
    fd = PySem.W.fnOf x qual (defArgs st) (defBody st) (defScope st) .none kV doc pm an cdv ct ∧ K.lookup f = some ⟨oc, od, .func fd, osl⟩ ∧ PySem.W.codeIn K cdv qual = true
section
variable {P : Program} {w : World} {K : Fg} {mg : Str → Option Value} {base : Heap}
theorem fnVC {x qual : Str} {st : Stmt} {f : Addr} {fd : FuncData} {cdv : Value} {N ps : List Str} {k n : Nat} {t : WS} {S : Spec} {ts : List Addr} (F : FunC K x qual st f fd cdv) (Sc : FnScope N ps (defScope st)) (hn : ps.length = n) (hN : n ≤ N.length)
    (hbody : ∀ (A : Around) (outer : List PySem.Env) (s : Shared) (H : Hp) (E : XK) (as : List (Option V)), Room k (A.deeper (envOfC qual (defScope st) s.heap.objs.size f cdv)) →
      PSs (cxOf CX0 P w K mg base N qual (defScope st) f cdv A outer s H E).nox (defBody st) (upS K (as, ts, nW) t))
    (hS : ∀ ρ Q, S ρ Q → t (endsV n Q) (ρ ++ List.replicate (N.length - n) .un)) : FnOk P w K mg base CX0 (k + 1) f fd ps (spV K ts n S) := by
  obtain ⟨oc, od, kV, doc, pm, an, ct, osl, rfl, lk, hcd⟩ := F.ex
  refine fn_of lk hcd Sc (fun vs H Q E h => h.1.trans hn.symm) fun A outer s H vs Q E hr h => ?_
  obtain ⟨hl, ρ, B, R, Sv0, hs, kd, kn⟩ := h
  have start_eq : start N vs = vs.map some ++ List.replicate (N.length - n) none := by rw [← hl]; rfl
  refine ⟨_, (hbody A outer s H E (start N vs) hr).nox, ?_⟩
  have S1 : Sv K (start N vs, ts, nW) noH (ρ ++ List.replicate (N.length - n) .un) (start N vs) B H := by
    rw [start_eq]
    exact Sv0.begin _
  have asl : n ≤ (start N vs).length := by
    rw [start_eq, List.length_append, List.length_map]
    omega
  have ast : (start N vs).take n = vs.map some := by
    rw [start_eq, List.take_append_of_le_length (by rw [List.length_map]; omega), List.take_of_length_le (by rw [List.length_map]; omega)]
  refine ⟨noH, _, B, endsV n R, S1, hS ρ R hs, ⟨fun ρ' σ' B' H' h1 x1 S' => ?_, fun c ρ' σ' v B' H' h1 x1 S' o1 => ?_, fun ds ρ' σ' p xs B' H' h1 x1 S' hp r => ?_, fun _ _ _ _ h1 _ _ => h1.elim, fun _ _ _ _ h1 _ _ => h1.elim, fun _ _ _ _ _ _ _ h1 _ _ _ => h1.elim⟩⟩
  · obtain ⟨B2, e2, S2⟩ := S'.back n asl
    rw [show (start N vs, ts, nW).1.take n = vs.map some from ast] at S2
    exact kd .none _ .non B2 H' h1 (x1.trans e2) S2 .non
  · cases c with
    | d y =>
      obtain ⟨B2, e2, S2⟩ := S'.back n asl
      rw [show (start N vs, ts, nW).1.take n = vs.map some from ast] at S2
      exact kd y _ v B2 H' h1 (x1.trans e2) S2 (Dq.ext e2 o1)
    | loc i =>
      unfold endsV at h1
      dsimp only at h1
      split at h1
      · rename_i ds q
        obtain ⟨p, xs, H0, a1, S2, a2, a3, a4⟩ := S'.pull q
        have e := a1.symm.trans o1
        cases e
        obtain ⟨B2, e2, S3⟩ := S2.back n asl
        rw [show (start N vs, ts, nW).1.take n = vs.map some from ast] at S3
        rw [a3]
        exact kn ds _ p xs B2 H0 h1 (x1.trans e2) S3 a2 (DqAll.ext e2 a4)
      · exact h1.elim
  · obtain ⟨B2, e2, S2⟩ := S'.back n asl
    rw [show (start N vs, ts, nW).1.take n = vs.map some from ast] at S2
    exact kn ds _ p xs B2 H' h1 (x1.trans e2) S2 hp (DqAll.ext e2 r)
end
/-- the code of a def whose table is told -/
theorem tab_cd {K : Fg} {x : Str} {f c P : Addr} {oc : Value} {od : Option Addr} {fd : FuncData} {osl : Array (Option Value)} (a : PySem.W.nsIn K mainGlobals x = some (some (.ref f))) (l : K.lookup f = some ⟨oc, od, .func fd, osl⟩) (t : PySem.W.tabIn K x = some (c, P)) : fd.code = .ref c := by
  unfold PySem.W.tabIn at t
  rw [a] at t
  dsimp only at t
  rw [l] at t
  dsimp only at t
  split at t
  · rename_i c' hc
    split at t
    · split at t
      · cases t
        exact hc
      · cases t
    · cases t
  · cases t
theorem tab_mk {K : Fg} {x : Str} {f c P : Addr} {oc : Value} {od : Option Addr} {osl : Array (Option Value)} {name qual : Str} {params : Arguments} {body : List Stmt} {scope : Scope} {dV kV doc pm cdv ct : Value} {an : Option Addr} {ve : Value} {vd : Option Addr} {vv : Array Value} {vs : Array (Option Value)}
    (a : PySem.W.nsIn K mainGlobals x = some (some (.ref f))) (l : K.lookup f = some ⟨oc, od, .func (PySem.W.fnOf name qual params body scope dV kV doc pm an cdv ct), osl⟩) (e : cdv = .ref c) (m : K.lookup c = some ⟨ve, vd, .fields vv, vs⟩) (v : vv[11]? = some (.ref P)) : PySem.W.tabIn K x = some (c, P) := by
  unfold PySem.W.tabIn
  rw [a]
  dsimp only
  rw [l]
  dsimp only
  rw [e]
  dsimp only
  rw [m]
  dsimp only
  rw [v]
/-- the law's head with tables -/
theorem walk_ofG {l : PySem.W.OpenLaw} {n k : Nat} {q : Program} {loose : List Str} {XP : (Str → Option Value) → Heap → Prop} {YP : World → Heap → Prop} {d : DefRec} {K : Params → Fg} {x : Str} {xs : List Str} {S : VL.Spec}
    (hn : l.most = some n) (hn2 : n ≤ sizeLine) (hdf : d.params.defaults = []) (hr : Room k callerA) (hrec : (xs.all fun y => ((recsOf q).find? fun e => e.name == y).isSome) = true) (hY : ∀ (w : World) (h : Heap), YP w h → (K w.params).In h)
    (F : ∀ (w : World) (mg : Str → Option Value) (fa : Addr) (h : Heap), (K w.params).In h → h.Ns mainGlobals mg → mg d.name = some (.ref fa) →
      ∃ (cs : List (Addr × Addr)) (fd : FuncData), (∀ p ∈ cs, (∃ y ∈ xs, PySem.W.tabIn (K w.params) y = some p) ∧ (K w.params).lookup p.2 = none) ∧ (∀ (s : Shared) (u : Value), BindsTo s fd ⟨[u], []⟩ [(x, u)]) ∧
        ∀ base : Heap, (K w.params).In base → base.Ns mainGlobals mg → (∀ p ∈ cs, TabB base mg p.1 p.2) → FnOk l.prog w (K w.params) mg base CX0 k fa fd [x] (spV (K w.params) (cs.map (·.2)) 1 S))
    (top : ∀ ns : List Int, ns.length ≤ n → S [.dat (.list (ns.map .int))] fun rv _ => rv = .d (.bool true)) :
    PySem.W.WalkO q loose XP YP l.row.toRowW d [] (fun f vs => PySem.call f vs) := by
  refine Att.attach_callB hn hdf fun w s₀ s₁ mg mb fa o pm cd doc a vs ns G Y ho hd hcd hmg hobj hints hlen hbits hg => ?_
  have KX := hY w _ Y
  obtain ⟨cs, fd, hcs, hb, hF⟩ := F w mg fa _ KX G.T.g hmg
  have tb : ∀ p ∈ cs, PySem.W.CodeHd s₁.heap p.1 p.2 ∧ s₁.heap.get? p.2 = some { cls := .none, data := .fields #[] } := fun p hp => by
    obtain ⟨⟨y, hy, ht⟩, _⟩ := hcs p hp
    have hq := List.all_eq_true.mp hrec y hy
    obtain ⟨dd, hdd⟩ := Option.isSome_iff_exists.mp hq
    exact PySem.W.tab_of G.T KX hdd ht
  refine LamX.law_callTs (cs := cs) (sp := spV (K w.params) (cs.map (·.2)) 1 S) KX G.T.g G.T.b G.T.builtins G.T.nolimit hg (fun p hp => (tb p hp).2) (fun p hp => (hcs p hp).2) (fun p hp => (tb p hp).1) G.T.bmain hobj hints (Nat.le_trans hlen hn2) hr (CX := CX0) (fun base h1 h2 h3 => hF base h1 h2 fun p hp => ⟨(h3 p hp).code, (h3 p hp).bm, (h3 p hp).gP⟩) hb (fun H hH hS => ?_) fun _ _ _ h => h
  refine law_sp (fun P hP => ?_) hS (top ns hlen)
  obtain ⟨p, hp, rfl⟩ := List.mem_map.mp hP
  exact hH p hp
end VL
end
section
set_option autoImplicit false
set_option maxRecDepth 100000
set_option maxHeartbeats 2000000
namespace VL
open PySem PySem.Spec PyProof.Rows L2 GenW GxR
end VL
namespace VL
open PySem PySem.Spec PyProof.Rows L2 GenW GxR
end VL
end
section
set_option autoImplicit false
set_option maxRecDepth 100000
set_option maxHeartbeats 2000000
namespace VL
open PySem PySem.Spec PyProof.Rows L2
end VL
end
section
set_option autoImplicit false
set_option maxRecDepth 100000
set_option maxHeartbeats 2000000
namespace VL
open PySem PySem.Spec PyProof.Rows L2
/-- a def's promise where no guard is up -/
structure FnG (P : Program) (w : World) (K : Fg) (mg : Str → Option Value) (base : Heap) (k : Nat) (f : Addr) (fd : FuncData) (ps : List Str) (sp : Sp) : Prop where
  len : ∀ vs H Q E, sp vs H Q E → vs.length = ps.length
  run : ∀ (A : Around) (outer : List PySem.Env) (s : Shared) (H : Hp) (args : Args) (us : List Value) (vs : List V) (Q : VK), A.guards = some [] → Room k A → Env0 P w K mg base A outer s H → BindsTo s fd args (ps.zip us) → Vals vs us → sp vs H Q E0 →
    codeAny (model P w) A (.call (.ref f) args) (fun r s' => match r with | .ok (.ret u) => CE outer P w H s Q u s' | _ => False) s
section
variable {P : Program} {w : World} {K : Fg} {mg : Str → Option Value} {base : Heap}
theorem FnG.of {k : Nat} {f : Addr} {fd : FuncData} {ps : List Str} {sp : Sp} (F : FnOk P w K mg base CX0 k f fd ps sp) : FnG P w K mg base k f fd ps sp :=
  ⟨F.len, fun A outer s H args us vs Q _ hr e0 hb r h => codeAny_mono (F.run A outer s H args us vs Q E0 hr e0 hb r h) fun r s' hq => by
    cases r with
    | error e => exact False.elim hq
    | ok fl => cases fl <;> exact hq⟩
end
end VL
namespace VL
open PySem PySem.Spec PyProof.Rows L2
end VL
end
section
set_option autoImplicit false
set_option maxRecDepth 100000
set_option maxHeartbeats 2000000
namespace VL
open PySem PySem.Spec PyProof.Rows L2 GxR
end VL
end
section
set_option autoImplicit false
set_option maxRecDepth 100000
set_option maxHeartbeats 2000000
set_option exponentiation.threshold 50000
namespace VL
open PySem PySem.Spec PyProof.Rows L2
end VL
end
section
set_option autoImplicit false
set_option maxRecDepth 100000
set_option maxHeartbeats 2000000
namespace VL
open PySem PySem.Spec PyProof.Rows L2
def rEmp (K : Fg) (neg : Bool) : R2 := fun x y H Q => ∃ l b xs, x = .ref l ∧ y = .ref b ∧ ((SqL K H l xs ∧ SqL K H b []) ∨ (SqT K H l xs ∧ SqT K H b [])) ∧ Q (.bl (if neg then !xs.isEmpty else xs.isEmpty)) H
section
variable {X : Cx}
open PySem.SeqAt
theorem emp_seq {pins : List (Addr × Obj)} {σ : L2.St} {H : Hp} {s : Shared} {l b : Addr} {xs : List V} (I : Inv X pins σ H s) (h : (SqL X.K H l xs ∧ SqL X.K H b []) ∨ (SqT X.K H l xs ∧ SqT X.K H b [])) :
    ∃ its : List Value, Vals xs its ∧ ((s.heap.IsList l its.toArray ∧ s.heap.IsList b #[]) ∨ (s.heap.IsTuple l its.toArray ∧ s.heap.IsTuple b #[])) := by
  rcases h with ⟨h1, h2⟩ | ⟨h1, h2⟩
  · obtain ⟨its, n, sl, r, hl, e, _⟩ := rd_obj I h1
    obtain ⟨its2, n2, sl2, r2, hl2, e2, _⟩ := rd_obj I h2
    cases r2
    exact ⟨its, r, .inl ⟨⟨_, e, rfl, _, rfl⟩, ⟨_, e2, rfl, _, rfl⟩⟩⟩
  · obtain ⟨its, r, o, _⟩ := I.tuple h1
    obtain ⟨its2, r2, o2, _⟩ := I.tuple h2
    cases r2
    obtain ⟨o, e, c, n, d⟩ := o
    obtain ⟨o2, e2, c2, n2, d2⟩ := o2
    exact ⟨its, r, .inr ⟨⟨_, e, c, _, d⟩, ⟨_, e2, c2, _, d2⟩⟩⟩
theorem op_neE (hu : X.A.units + 64 < cLine) : OpR X (compareOp .NotEq) (rEmp X.K true) := by
  intro pins s σ H x y v u Q I rx ry h
  obtain ⟨l, b, xs, rfl, rfl, hH, q⟩ := h
  cases rx
  cases ry
  obtain ⟨its, r, k⟩ := emp_seq I hH
  have hu' : X.A.units < cLine := by omega
  have fin : Q (.bl (!xs.isEmpty)) H → EP X pins σ Q (.bool (!its.toArray.isEmpty)) s := fun q => ⟨_, H, I, by cases r <;> rfl, q⟩
  rcases k with ⟨k1, k2⟩ | ⟨k1, k2⟩
  · by_cases z : its = []
    · subst z
      refine RcNeAt.lists k1 k2 rfl hu' (e := fun _ => true) (fun j h1 => absurd h1 (Nat.not_lt_zero _)) _ _ _ _ (fin q)
    · refine RcNeAt.lists_lengths k1 k2 (by cases its <;> first | exact absurd rfl z | rfl) hu' _ _ _ _ ?_
      have := fin q
      cases its
      · exact absurd rfl z
      · exact this
  · refine RcNeAt.tuples k1 k2 hu' (e := fun _ => true) (fun j _ h1 => absurd h1 (Nat.not_lt_zero _)) _ _ _ _ ?_
    have := fin q
    cases its
    · exact this
    · exact this
end
def oEmp (neg : Bool) : DO := fun x y P => match x, y with
  | .list ds, .list [] => P (.bool (if neg then !ds.isEmpty else ds.isEmpty))
  | .tuple ds, .tuple [] => P (.bool (if neg then !ds.isEmpty else ds.isEmpty))
  | _, _ => False
theorem opv_emp {K : Fg} {neg : Bool} : OpV K (rEmp K neg) (oEmp neg) := by
  intro B H x y dx dy P Q e a b c k
  unfold oEmp at c
  split at c
  · rename_i ds
    obtain ⟨l, xs, rfl, q1, r1⟩ := a.list e
    obtain ⟨m, ys, rfl, q2, r2⟩ := b.list e
    cases r2
    refine ⟨l, m, xs, rfl, rfl, .inl ⟨q1, q2⟩, ?_⟩
    have : xs.isEmpty = ds.isEmpty := by cases r1 <;> rfl
    rw [this]
    exact k _ _ _ _ c .no (.bl _)
  · rename_i ds
    obtain ⟨l, xs, rfl, q1, r1⟩ := a.tup e
    obtain ⟨m, ys, rfl, q2, r2⟩ := b.tup e
    cases r2
    refine ⟨l, m, xs, rfl, rfl, .inr ⟨q1, q2⟩, ?_⟩
    have : xs.isEmpty = ds.isEmpty := by cases r1 <;> rfl
    rw [this]
    exact k _ _ _ _ c .no (.bl _)
  · exact c.elim
end VL
end
section
set_option autoImplicit false
set_option maxRecDepth 100000
set_option maxHeartbeats 2000000
namespace VL
open PySem PySem.Spec PyProof.Rows L2
end VL
end
section
set_option autoImplicit false
set_option maxRecDepth 100000
set_option maxHeartbeats 2000000
namespace VL
open PySem PySem.Spec PyProof.Rows L2
end VL
end
section
set_option autoImplicit false
set_option maxRecDepth 100000
set_option maxHeartbeats 2000000
namespace VL
open PySem PySem.Spec PyProof.Rows L2 HT PySem.W
end VL
end
section
set_option autoImplicit false
set_option maxRecDepth 100000
set_option maxHeartbeats 2000000
namespace VL
open PySem PySem.Spec PyProof.Rows L2
end VL
end
section
set_option autoImplicit false
set_option maxRecDepth 100000
set_option maxHeartbeats 2000000
namespace VL
open PySem PySem.Spec PyProof.Rows L2
end VL
end
section
set_option autoImplicit false
set_option maxRecDepth 100000
set_option maxHeartbeats 2000000
set_option exponentiation.threshold 20000
namespace VL
open PySem PySem.Spec PyProof.Rows L2
inductive MK where
  | d (t : WE) | n (t : WN) | k | t | kd (u t : WE)
inductive PC where
  | d (y : D) | l (ds : List D) | k (kvs : List (Key × D)) | t
def PC.cell : PC → Cell
  | .d y => .dat y
  | .l ds => .lst false ds
  | .k kvs => .dic kvs
  | .t => .dit []
def te (K : Fg) (as : As) (m : MK) : TE := match m with
  | .d t => up K as t
  | .n t => upN K as t
  | .k => tDNewK
  | .t => tDNewT
  | .kd u t => tDisp [(up K as u, up K as t)]
def CompOk (K : Fg) (B Z : Hp) (c : PC) (v : V) (Z' : Hp) : Prop := match c with
  | .d y => Dq K B v y ∧ Z' = Z
  | .l ds => ∃ p xs, v = .ref p ∧ Z p = none ∧ DqAll K B xs ds ∧ Z' = upd Z p (.lst xs)
  | .k kvs => ∃ p us, v = .ref p ∧ Z p = none ∧ DqKV K B us kvs ∧ Z' = upd Z p (.dK us)
  | .t => ∃ p, v = .ref p ∧ Z p = none ∧ Z' = upd Z p (.dT [])
section
variable {K : Fg} {as : As} {Z : Hp} {ρ : En} {σ : L2.St} {B H : Hp}
theorem CompOk.ext {B' Z' : Hp} {c : PC} {v : V} (e : ExT B B') (h : CompOk K B Z c v Z') : CompOk K B' Z c v Z' := by
  cases c with
  | d y => exact ⟨Dq.ext e h.1, h.2⟩
  | l ds =>
    obtain ⟨p, xs, h1, h2, h3, h4⟩ := h
    exact ⟨p, xs, h1, h2, DqAll.ext e h3, h4⟩
  | k kvs =>
    obtain ⟨p, us, h1, h2, h3, h4⟩ := h
    exact ⟨p, us, h1, h2, DqKV.ext e h3, h4⟩
  | t => exact h
end
end VL
end
section
set_option autoImplicit false
set_option maxRecDepth 100000
set_option maxHeartbeats 2000000
namespace VL
open PySem PySem.Spec PyProof.Rows L2
abbrev DON := D → D → (List D → Prop) → Prop
def OpVN (K : Fg) (r : R2) (o : DON) : Prop := ∀ (B H : Hp) (x y : V) (dx dy : D) (P : List D → Prop) (Q : VK), (∀ a u, B a = some u → H a = some u) → Rv K B H x dx → Rv K B H y dy → o dx dy P →
  (∀ es p xs, P es → H p = none → DqAll K B xs es → Q (.ref p) (upd H p (.lst xs))) → r x y H Q
def wOpN (o : DON) (t u : WE) : WN := fun ρ P => t ρ fun c1 ρ1 => u ρ1 fun c2 ρ2 => ∃ x y, der ρ2 c1 = some x ∧ der ρ2 c2 = some y ∧ o x y fun es => P es ρ2
theorem up_opN {K : Fg} {as : As} {r : R2} {o : DON} {t u : WE} (hv : OpVN K r o) {σ : L2.St} {H : Hp} {Q : VK} (h : upN K as (wOpN o t u) σ H Q) : tOp r (up K as t) (up K as u) σ H Q := by
  obtain ⟨Z, ρ, B, P, S, h, k⟩ := h
  refine ⟨Z, ρ, B, _, S, h, fun c1 ρ1 v1 B1 H1 h1 x1 S1 o1 => ?_⟩
  refine ⟨Z, ρ1, B1, _, S1, h1, fun c2 ρ2 v2 B2 H2 h2 x2 S2 o2 => ?_⟩
  obtain ⟨x, y, e1, e2, h3⟩ := h2
  exact hv B2 H2 v1 v2 x y _ Q S2.subE (rv_of S2 (o1.ext x2) e1) (rv_of S2 o2 e2) h3 fun es p xs q hp dq => k es ρ2 p xs B2 H2 q (x1.trans x2) S2 hp dq
theorem vopN {X : Cx} {as : As} {a b : Expr} {pos : Pos} {t u : WE} {op : Operator} {r : R2} {o : DON} (ho : OpR X (binaryOp op) r) (hv : OpVN X.K r o) (ha : PE X a (up X.K as t)) (hb : PE X b (up X.K as u)) : PE X (.BinOp a op b pos) (upN X.K as (wOpN o t u)) :=
  pe_imp (pe_op ho ha hb) fun _ _ _ h => up_opN hv h
def oCatN : DON := fun x y P => match x, y with
  | .list a, .list b => a.length + b.length ≤ sizeLine ∧ P (a ++ b)
  | _, _ => False
theorem opv_catN {K : Fg} : OpVN K (rCatR K) oCatN := by
  intro B H x y dx dy P Q e a b c k
  cases dx <;> cases dy <;> (try (exact (show False from c).elim))
  rename_i ds es
  obtain ⟨l, xs, rfl, h1, r1⟩ := a.list e
  obtain ⟨m, ys, rfl, h2, r2⟩ := b.list e
  have l1 := r1.len
  have l2 := r2.len
  have z := c.1
  exact ⟨l, m, xs, ys, rfl, rfl, h1, h2, by omega, fun p hp => k _ _ _ c.2 hp (DqAll.app r1 r2)⟩
end VL
end
section
set_option autoImplicit false
set_option maxRecDepth 100000
set_option maxHeartbeats 2000000
namespace VL
open PySem PySem.Spec PyProof.Rows L2
theorem Sv.wish {K : Fg} {a : List (Option V)} {t : List Addr} {W W' : Str → V → L2.St → Hp → Prop} {Z : Hp} {ρ : En} {σ : L2.St} {B H : Hp} (S : Sv K (a, t, W) Z ρ σ B H) : Sv K (a, t, W') Z ρ σ B H := ⟨S.len, S.dat, S.own, S.one, S.off, S.hid, S.io, S.tab⟩
/-- a wish by values: the class's name, the value -/
def wxV (mg : Str → Option Value) (W : Str → V → L2.St → Hp → Prop) : WX := fun cls d σ H => ∃ (c : Str) (v : V) (dx : Addr) (fs : List (Str × V)), mg c = some cls ∧ d = some dx ∧ H dx = some (.xd fs) ∧ fs.lookup ("value" : Str) = some v ∧ W c v σ H
/-- the promise of a def that may raise -/
def spVX (K : Fg) (mg : Str → Option Value) (ts : List Addr) (n : Nat) (S : Spec) : Sp := fun vs H Q E => vs.length = n ∧ ∃ ρ B P, Sv K (vs.map some, ts, nW) noH ρ (vs.map some) B H ∧ S ρ P ∧
  (∀ x ρ' v B' H', P (.d x) ρ' → ExT B B' → Sv K (vs.map some, ts, nW) noH ρ' (vs.map some) B' H' → Dq K B' v x → Q v H') ∧
  (∀ ds ρ' p xs B' H', P (.new ds) ρ' → ExT B B' → Sv K (vs.map some, ts, nW) noH ρ' (vs.map some) B' H' → H' p = none → DqAll K B' xs ds → Q (.ref p) (upd H' p (.lst xs))) ∧
  ∀ c x ρ' v dx fs cls B' H', P (.err c x) ρ' → ExT B B' → Sv K (vs.map some, ts, nW) noH ρ' (vs.map some) B' H' → mg c = some cls → H' dx = some (.xd fs) → fs.lookup ("value" : Str) = some v → Dq K B' v x → E cls (some dx) H'
def endsX (n : Nat) (P : RV → En → Prop) : WEn := { endsV n P with er := fun c x ρ => P (.err c x) (retE n ρ) }
section
variable {P : Program} {w : World} {K : Fg} {mg : Str → Option Value} {base : Heap}
theorem upS_startX {ts : List Addr} {W : Str → V → L2.St → Hp → Prop} {N : List Str} {n : Nat} {t : WS} {S : Spec} {vs : List V} {H : Hp} {Q : VK} {E : XK} (hN : n ≤ N.length) (h : spVX K mg ts n S vs H Q E) (hS : ∀ ρ Q, S ρ Q → t (endsX n Q) (ρ ++ List.replicate (N.length - n) .un))
    (hW : ∀ c v σ H', (∀ cls dx fs, mg c = some cls → H' dx = some (.xd fs) → fs.lookup ("value" : Str) = some v → E cls (some dx) H') → W c v σ H') :
    upS K (start N vs, ts, W) t { nx := fun _ H' => Q .non H', rt := Q } (start N vs) H := by
  obtain ⟨hl, ρ, B, R, Sv0, hs, kd, kn, ke⟩ := h
  have start_eq : start N vs = vs.map some ++ List.replicate (N.length - n) none := by rw [← hl]; rfl
  have S1 : Sv K (start N vs, ts, W) noH (ρ ++ List.replicate (N.length - n) .un) (start N vs) B H := by
    rw [start_eq]
    exact (Sv0.begin _).wish
  have asl : n ≤ (start N vs).length := by
    rw [start_eq, List.length_append, List.length_map]
    omega
  have ast : (start N vs).take n = vs.map some := by
    rw [start_eq, List.take_append_of_le_length (by rw [List.length_map]; omega), List.take_of_length_le (by rw [List.length_map]; omega)]
  have bk : ∀ {ρ' : En} {σ' : L2.St} {B' H' : Hp}, Sv K (start N vs, ts, W) noH ρ' σ' B' H' → ∃ B2, ExT B' B2 ∧ Sv K (vs.map some, ts, nW) noH (retE n ρ') (vs.map some) B2 H' := fun S' => by
    obtain ⟨B2, e2, S2⟩ := S'.back n asl
    rw [show (start N vs, ts, W).1.take n = vs.map some from ast] at S2
    exact ⟨B2, e2, S2.wish⟩
  refine ⟨noH, _, B, endsX n R, S1, hS ρ R hs, ⟨fun ρ' σ' B' H' h1 x1 S' => ?_, fun c ρ' σ' v B' H' h1 x1 S' o1 => ?_, fun ds ρ' σ' p xs B' H' h1 x1 S' hp r => ?_, fun _ _ _ _ h1 _ _ => h1.elim, fun _ _ _ _ h1 _ _ => h1.elim, fun c x ρ' σ' v B' H' h1 x1 S' o1 => ?_⟩⟩
  · obtain ⟨B2, e2, S2⟩ := bk S'
    exact kd .none _ .non B2 H' h1 (x1.trans e2) S2 .non
  · cases c with
    | d y =>
      obtain ⟨B2, e2, S2⟩ := bk S'
      exact kd y _ v B2 H' h1 (x1.trans e2) S2 (Dq.ext e2 o1)
    | loc i =>
      unfold endsX endsV at h1
      dsimp only at h1
      split at h1
      · rename_i ds q
        obtain ⟨p, xs, H0, a1, S2, a2, a3, a4⟩ := S'.pull q
        have e := a1.symm.trans o1
        cases e
        obtain ⟨B2, e2, S3⟩ := bk S2
        rw [a3]
        exact kn ds _ p xs B2 H0 h1 (x1.trans e2) S3 a2 (DqAll.ext e2 a4)
      · exact h1.elim
  · obtain ⟨B2, e2, S2⟩ := bk S'
    exact kn ds _ p xs B2 H' h1 (x1.trans e2) S2 hp (DqAll.ext e2 r)
  · obtain ⟨B2, e2, S2⟩ := bk S'
    exact hW c v σ' H' fun cls dx fs g1 g2 g3 => ke c x _ v dx fs cls B2 H' h1 (x1.trans e2) S2 g1 g2 g3 (Dq.ext e2 o1)
/-- a def that may raise -/
theorem fnVX {x qual : Str} {st : Stmt} {f : Addr} {fd : FuncData} {N ps : List Str} {k n : Nat} {t : WS} {S : Spec} {ts : List Addr} (F : Fun K x qual st f fd) (Sc : FnScope N ps (defScope st)) (hn : ps.length = n) (hN : n ≤ N.length)
    (hbody : ∀ (cdv : Value) (A : Around) (outer : List PySem.Env) (s : Shared) (H : Hp) (E : XK) (as : List (Option V)) (W : Str → V → L2.St → Hp → Prop), Takes (cxOf (L2.CX P w) P w K mg base N qual (defScope st) f cdv A outer s H E) (wxV mg W) → Room k (A.deeper (envOfC qual (defScope st) s.heap.objs.size f cdv)) →
      PSs (cxOf (L2.CX P w) P w K mg base N qual (defScope st) f cdv A outer s H E) (defBody st) (upS K (as, ts, W) t))
    (hS : ∀ ρ Q, S ρ Q → t (endsX n Q) (ρ ++ List.replicate (N.length - n) .un)) : FnOk P w K mg base (L2.CX P w) (k + 1) f fd ps (spVX K mg ts n S) := by
  refine F.okX Sc (fun vs H Q E h => h.1.trans hn.symm) (fun cdv A outer s H vs Q E hr h => ?_)
  have tk : Takes (cxOf (L2.CX P w) P w K mg base N qual (defScope st) f cdv A outer s H E) (fun cls d _ H => E cls d H) := takes_of rfl rfl rfl rfl
  refine ⟨_, hbody cdv A outer s H E (start N vs) (fun c v _ H' => ∀ cls dx fs, mg c = some cls → H' dx = some (.xd fs) → fs.lookup ("value" : Str) = some v → E cls (some dx) H') (tk.imp fun cls d σ H' h2 => ?_) hr, upS_startX hN h hS fun c v σ H' h2 => h2⟩
  obtain ⟨c, v, dx, fs, g1, rfl, g3, g4, g5⟩ := h2
  exact g5 cls dx fs g1 g3 g4
end
section
variable {P : Program} {w : World} {W : Addr → Prop} {H B B' : Hp} {h Bg h' : Heap} {fs : List Addr}
theorem Part.ub (p : Part W H B) (u : UB fs B B' h Bg h') (k : HOk P w H h) (k' : HOk P w B' Bg) (hf : ∀ b ∈ fs, H b = none) : UB fs H (ovl W H B') h Bg h' ∧ HOk P w (ovl W H B') Bg ∧ ∀ a, W a → B' a = none ∧ ∃ o, Bg.get? a = some o := by
  have nB : ∀ b, H b = none → B b = none := fun b n => by
    cases e : B b with
    | none => rfl
    | some o =>
      rw [p.sub e] at n
      cases n
  have there : ∀ a, W a → ∃ o, h.get? a = some o := fun a z => by
    obtain ⟨n, q⟩ := p.own a z
    rcases q with ⟨xs, q⟩ | ⟨kvs, q⟩ | ⟨kvs, q⟩
    · obtain ⟨_, its, m, _, e⟩ := k a _ q
      exact ⟨_, e⟩
    · obtain ⟨_, _, vs, _, o, _, _, e, _⟩ := k a _ q
      exact ⟨_, e⟩
    · obtain ⟨_, _, vs, _, o, _, _, e, _⟩ := k a _ q
      exact ⟨_, e⟩
  have nfs : ∀ a, W a → a ∉ fs := fun a z m => by
    rcases (p.own a z).2 with ⟨xs, q⟩ | ⟨kvs, q⟩ | ⟨kvs, q⟩ <;> (rw [hf a m] at q; cases q)
  have gone : ∀ a, W a → B' a = none ∧ ∃ o, Bg.get? a = some o := fun a z => by
    obtain ⟨o, e⟩ := there a z
    exact ⟨u.free a o e (p.own a z).1, o, u.keep a o e (p.own a z).1 (nfs a z)⟩
  have nW : ∀ b, H b = none → ¬ W b := fun b n z => by
    rcases (p.own b z).2 with ⟨xs, q⟩ | ⟨kvs, q⟩ | ⟨kvs, q⟩ <;> (rw [n] at q; cases q)
  refine ⟨⟨fun b o e n hb => u.keep b o e (nB b n) hb, fun b o e hb => u.slot b o e hb, fun b o e n => ?_, fun b o e hb => u.there b o e hb, fun b xs e => ?_, fun b o v e => ?_, fun b ps e => ?_⟩, fun b o e => ?_, gone⟩
  · rw [ovl_out (nW b n)]
    exact u.free b o e (nB b n)
  · have z := p.no e (fun _ z => by cases z) (fun _ z => by cases z) fun _ z => by cases z
    rw [ovl_out z]
    rw [p.off b z] at e
    exact u.tups b xs e
  · have z := p.no e (fun _ z => by cases z) (fun _ z => by cases z) fun _ z => by cases z
    rw [ovl_out z]
    rw [p.off b z] at e
    exact u.frzs b o v e
  · have z := p.no e (fun _ z => by cases z) (fun _ z => by cases z) fun _ z => by cases z
    rw [ovl_out z]
    rw [p.off b z] at e
    exact u.tbls b ps e
  · by_cases z : W b
    · rw [ovl_in z] at e
      obtain ⟨nb, q⟩ := p.own b z
      have kp : ∀ ob, h.get? b = some ob → Bg.get? b = some ob := fun ob y => u.keep b ob y nb (nfs b z)
      rcases q with ⟨xs, q⟩ | ⟨kvs, q⟩ | ⟨kvs, q⟩
      · rw [q] at e
        cases e
        obtain ⟨z1, its, m, r, y⟩ := k b _ q
        exact ⟨z1, its, m, r, kp _ y⟩
      · rw [q] at e
        cases e
        obtain ⟨z1, z2, vs, r, ob, es, ep, y, c⟩ := k b _ q
        exact ⟨z1, z2, vs, r, ob, es, ep, kp _ y, c⟩
      · rw [q] at e
        cases e
        obtain ⟨z1, z2, vs, r, ob, es, ep, y, c⟩ := k b _ q
        refine ⟨z1, z2, vs, Paired.mapP r fun _ _ w2 => ⟨w2.1, ?_, w2.2.2⟩, ob, es, ep, kp _ y, c⟩
        have ec := w2.2.1
        have zc := p.no ec (fun _ z => by cases z) (fun _ z => by cases z) fun _ z => by cases z
        rw [ovl_out zc]
        rw [p.off _ zc] at ec
        exact u.tups _ _ ec
    · rw [ovl_out z] at e
      exact (k' b o e).stay (fun _ _ _ q => q) (fun c q => by rw [ovl_out fun y => by rw [(gone c y).1] at q; cases q]; exact q) fun c xs q => by
        rw [ovl_out fun y => by rw [(gone c y).1] at q; cases q]
        exact q
end
section
variable {X : Cx} {k : Nat} {f : Addr} {fd : FuncData} {ps : List Str} {sp : Sp} {Wx : WX}
theorem env_part {W : Addr → Prop} {H B : Hp} {pins : List (Addr × Obj)} {σ : L2.St} {s : Shared} (I : Inv X pins σ H s) (p : Part W H B) : Env0 X.prog X.w X.K X.mg X.base X.A X.stack s B := by
  have e0 := I.env0
  have nB : ∀ b, H b = none → B b = none := fun b n => by
    cases e : B b with
    | none => rfl
    | some o =>
      rw [p.sub e] at n
      cases n
  exact ⟨e0.frames, e0.mod, fun b o e => ⟨(e0.bs b o e).1, nB b (e0.bs b o e).2⟩, e0.bsz, e0.funs, fun b hb => nB b (e0.frf b hb), p.ok e0.hok, e0.bare⟩
theorem err_part {W : Addr → Prop} {H B : Hp} {pins : List (Addr × Obj)} {σ : L2.St} {s s' : Shared} {u : Value} (tk : Takes X Wx) (I : Inv X pins σ H s) (p : Part W H B)
    (c : L2.CX X.prog X.w X.stack B s (fun cls d B' => (∀ a, W a → B' a = none) → Wx cls d σ (ovl W H B')) u s') : X.xe u s' := by
  obtain ⟨a, Bg, B', cls, d, rfl, fl, hok, ub, na, os, ag, hE⟩ := c
  obtain ⟨u1, u2, u3⟩ := p.ub ub I.hok hok I.env0.frf
  have nwa : ¬ W a := fun z => by
    obtain ⟨_, o, e⟩ := u3 a z
    rw [fl.2.1] at e
    cases e
  exact tk _ _ (XE.of_call I (fun cls d H' h => h) ⟨a, Bg, ovl W H B', cls, d, rfl, fl, u2, u1, (ovl_out nwa).trans na, os, ag, hE fun b hb => (u3 b hb).1⟩)
theorem run_partX {W : Addr → Prop} {H B : Hp} {pins : List (Addr × Obj)} {σ : L2.St} {s : Shared} {Q : VK} {us : List Value} {vs : List V} (F : FnOk X.prog X.w X.K X.mg X.base (L2.CX X.prog X.w) k f fd ps sp) (hr : Room k X.A) (hb : Binds X.K fd ps []) (tk : Takes X Wx) (I : Inv X pins σ H s) (p : Part W H B) (r : Vals vs us)
    (h : sp vs B (fun v B' => (∀ a, W a → B' a = none) → Q v (ovl W H B')) fun cls d B' => (∀ a, W a → B' a = none) → Wx cls d σ (ovl W H B')) : wpAny (model X.prog X.w) X.A (call (.ref f) us) (EP X pins σ Q) X.xe s := by
  have hl : (us ++ []).length = ps.length := by
    rw [List.append_nil, ← r.length]
    exact F.len _ _ _ _ h
  have b1 := hb s us I.kIn hl
  rw [List.append_nil] at b1
  refine wpAny_call (codeAny_mono (F.run X.A X.stack s B ⟨us, []⟩ us vs _ _ hr (env_part I p) b1 r h) fun r s' hq => ?_)
  cases r with
  | error e => exact err_part tk I p hq
  | ok fl =>
    cases fl with
    | ret u =>
      obtain ⟨v, B', os, bare, un, hok, rv, q⟩ := hq
      obtain ⟨u1, u2, u3⟩ := p.un un I.hok hok I.env0.frf
      exact I.after ⟨v, _, os, bare, u1, u2, rv, q u3⟩
    | next => exact False.elim hq
    | brk => exact False.elim hq
    | cont => exact False.elim hq
theorem run_partKX {n : Nat} {ks : List Str} {pm : List Nat} {W : Addr → Prop} {H B : Hp} {pins : List (Addr × Obj)} {σ : L2.St} {s : Shared} {Q : VK} {us ws : List Value} {vs zs : List V} (F : FnOk X.prog X.w X.K X.mg X.base (L2.CX X.prog X.w) k f fd ps sp) (hr : Room k X.A) (hb : KwB X.K fd ps n ks pm) (tk : Takes X Wx) (I : Inv X pins σ H s) (p : Part W H B) (r : Vals vs us) (rz : Vals zs ws)
    (l1 : vs.length = n) (l2 : zs.length = ks.length) (h : sp (gP pm (vs ++ zs)) B (fun v B' => (∀ a, W a → B' a = none) → Q v (ovl W H B')) fun cls d B' => (∀ a, W a → B' a = none) → Wx cls d σ (ovl W H B')) : wpAny (model X.prog X.w) X.A (call (.ref f) us (ks.zip ws)) (EP X pins σ Q) X.xe s := by
  have rr := vals_gP (r.append rz) pm
  refine wpAny_call (codeAny_mono (F.run X.A X.stack s B ⟨us, ks.zip ws⟩ (gP pm (us ++ ws)) (gP pm (vs ++ zs)) _ _ hr (env_part I p) (hb.to s us ws I.kIn (r.length.symm.trans l1) (rz.length.symm.trans l2)) rr h) fun r s' hq => ?_)
  cases r with
  | error e => exact err_part tk I p hq
  | ok fl =>
    cases fl with
    | ret u =>
      obtain ⟨v, B', os, bare, un, hok, rv, q⟩ := hq
      obtain ⟨u1, u2, u3⟩ := p.un un I.hok hok I.env0.frf
      exact I.after ⟨v, _, os, bare, u1, u2, rv, q u3⟩
    | next => exact False.elim hq
    | brk => exact False.elim hq
    | cont => exact False.elim hq
def tCallPX (sp : Sp) (Wx : WX) (t : TA) : TE := fun σ H Q => t σ H fun vs H1 => ∃ (W : Addr → Prop) (B : Hp), Part W H1 B ∧ sp vs B (fun v B' => (∀ a, W a → B' a = none) → Q v (ovl W H1 B')) fun cls d B' => (∀ a, W a → B' a = none) → Wx cls d σ (ovl W H1 B')
theorem pe_callPX {x : Str} {p pos : Pos} {e : Expr} {es : List Expr} {t : TA} (F : FnOk X.prog X.w X.K X.mg X.base (L2.CX X.prog X.w) k f fd ps sp) (hr : Room k X.A) (tk : Takes X Wx) (hg : Gl X x) (hm : X.mg x = some (.ref f)) (hk : PySem.W.keepIn X.K (.ref f) = true) (hb : Binds X.K fd ps [])
    (ha : PA X (e :: es) t) (hdb : (x == ("__debug__" : Str)) = false := by decide) (he : starEach (e :: es) X.env = (false, eval e X.env) :: starEach es X.env := by rfl) (hpl : (backTo pos (starEach es X.env)).any (·.1) = false := by rfl) :
    PE X (.Call (.Name x p) (e :: es) [] pos) (tCallPX sp Wx t) := by
  refine ⟨fun pins s σ H Q I h => ?_⟩
  refine wpAny_Call_Name_kw (ld_glob I hg hm ?_ hdb)
  refine PySem.W.callWith_K (h₀ := X.base) I.ok.mod.kin hk (thn (ha.run pos pins s σ H _ I h) fun us s1 ⟨vs, H1, I1, r, W, B, p, q⟩ => ⟨I1.kIn, ?_⟩) he hpl
  exact run_partX F hr hb tk I1 p r q
def tCallKPX (sp : Sp) (Wx : WX) (pm : List Nat) (n m : Nat) (t tk : TA) : TE := fun σ H Q => t σ H fun vs H1 => tk σ H1 fun zs H2 => ∃ (W : Addr → Prop) (B : Hp), Part W H2 B ∧ vs.length = n ∧ zs.length = m ∧ sp (gP pm (vs ++ zs)) B (fun v B' => (∀ a, W a → B' a = none) → Q v (ovl W H2 B')) fun cls d B' => (∀ a, W a → B' a = none) → Wx cls d σ (ovl W H2 B')
theorem pe_callKPX0 {m : Nat} {ks : List Str} {pm : List Nat} {x : Str} {p pos : Pos} {kws : List Keyword} {tk : TA} (F : FnOk X.prog X.w X.K X.mg X.base (L2.CX X.prog X.w) k f fd ps sp) (hr : Room k X.A) (tw : Takes X Wx) (hg : Gl X x) (hm : X.mg x = some (.ref f)) (hk : PySem.W.keepIn X.K (.ref f) = true) (hb : KwB X.K fd ps 0 ks pm)
    (hkw : PK X kws tk) (hl : ks.length = m) (hall : (backToKw pos (keywordEach kws X.env)).all (·.1.isSome) = true := by rfl) (hks : (backToKw pos (keywordEach kws X.env)).filterMap (·.1) = ks := by rfl)
    (hdb : (x == ("__debug__" : Str)) = false := by decide)
    (hpl : ((backTo pos (starEach [] X.env)).any (·.1) || (backToKw pos (keywordEach kws X.env)).any (·.1.isNone)) = false := by rfl) :
    PE X (.Call (.Name x p) [] kws pos) (tCallKPX sp Wx pm 0 m tNil tk) := by
  refine ⟨fun pins s σ H Q I h => ?_⟩
  refine wpAny_Call_Name_kw (ld_glob I hg hm ?_ hdb)
  refine PySem.W.callWith_KW0 (h₀ := X.base) I.ok.mod.kin hk hall ?_ hpl
  refine thn (hkw.run pos pins s σ H _ I h) fun ws s2 ⟨zs, H2, I2, rz, W, B, p, l1, l2, q2⟩ => ⟨I2.kIn, ?_⟩
  rw [hks]
  exact run_partKX (us := []) (vs := []) F hr hb tw I2 p .nil rz l1 (l2.trans hl.symm) q2
end
end VL
end
section
set_option autoImplicit false
set_option maxRecDepth 100000
set_option maxHeartbeats 2000000
namespace VL
open PySem PySem.Spec PyProof.Rows L2
abbrev WER := Str → D → En → Prop
abbrev WEX := En → (CV → En → Prop) → WER → Prop
abbrev WAX := En → (List CV → En → Prop) → WER → Prop
abbrev WTX := En → (Bool → En → Prop) → WER → Prop
section
variable (K : Fg) (as : As)
def ErrK (Z B : Hp) (σ : L2.St) (R : WER) : Prop := ∀ c x ρ' v B' H', R c x ρ' → ExT B B' → Sv K as Z ρ' σ B' H' → Dq K B' v x → as.2.2 c v σ H'
def upX (t : WEX) : TE := fun σ H Q => ∃ Z ρ B P R, Sv K as Z ρ σ B H ∧ t ρ P R ∧ (∀ c ρ' v B' H', P c ρ' → ExT B B' → Sv K as Z ρ' σ B' H' → CvOk K σ B' v c → Q v H') ∧ ErrK K as Z B σ R
def upAX (t : WAX) : TA := fun σ H Q => ∃ Z ρ B P R, Sv K as Z ρ σ B H ∧ t ρ P R ∧ (∀ cs ρ' vs B' H', P cs ρ' → ExT B B' → Sv K as Z ρ' σ B' H' → CvsOk K σ B' vs cs → Q vs H') ∧ ErrK K as Z B σ R
def upTX (t : WTX) : TT := fun σ H Q => ∃ Z ρ B P R, Sv K as Z ρ σ B H ∧ t ρ P R ∧ (∀ b ρ' B' H', P b ρ' → ExT B B' → Sv K as Z ρ' σ B' H' → Q b H') ∧ ErrK K as Z B σ R
end
theorem ErrK.ext {K : Fg} {as : As} {Z B B' : Hp} {σ : L2.St} {R : WER} (h : ErrK K as Z B σ R) (e : ExT B B') : ErrK K as Z B' σ R := fun c x ρ' v B2 H2 r x2 => h c x ρ' v B2 H2 r (e.trans x2)
theorem Meets.errK {K : Fg} {as : As} {Z B : Hp} {w : WEn} {E : Ends} (m : Meets K as Z B w E) (σ : L2.St) : ErrK K as Z B σ w.er := fun c x ρ' v B' H' r => m.er c x ρ' σ v B' H' r
section
variable {X : Cx} {as : As} {e a b ec : Expr} {es : List Expr} {pos : Pos}
def wPure (t : WE) : WEX := fun ρ P _ => t ρ P
theorem xpure {t : WE} (h : PE X e (up X.K as t)) : PE X e (upX X.K as (wPure t)) := pe_imp h fun σ H Q ⟨Z, ρ, B, P, R, S, h, k, _⟩ => ⟨Z, ρ, B, P, S, h, k⟩
def wPureA (t : WA) : WAX := fun ρ P _ => t ρ P
theorem xpureA {t : WA} (h : PA X es (upA X.K as t)) : PA X es (upAX X.K as (wPureA t)) := pa_imp h fun σ H Q ⟨Z, ρ, B, P, R, S, h, k, _⟩ => ⟨Z, ρ, B, P, S, h, k⟩
def wPureT (t : WT) : WTX := fun ρ P _ => t ρ P
theorem xpureT {t : WT} (h : PT X e (upT X.K as t)) : PT X e (upTX X.K as (wPureT t)) := pt_imp h fun σ H Q ⟨Z, ρ, B, P, R, S, h, k, _⟩ => ⟨Z, ρ, B, P, S, h, k⟩
structure CallOkX (X : Cx) (ts : List Addr) (k n : Nat) (x : Str) (f : Addr) (fd : FuncData) (ps : List Str) (S : Spec) : Prop where
  fn : FnOk X.prog X.w X.K X.mg X.base (L2.CX X.prog X.w) k f fd ps (spVX X.K X.mg ts n S)
  g : X.mg x = some (.ref f)
  kp : PySem.W.keepIn X.K (.ref f) = true
  b : Binds X.K fd ps []
def rvX (P : CV → En → Prop) (R : WER) (ρ : En) (rv : RV) : Prop := match rv with
  | .d x => P (.d x) ρ
  | .new es => P (.d (.list es)) ρ
  | .err c x => R c x ρ
def wCallX (n : Nat) (S : Spec) (r : WAX) : WEX := fun ρ P R => r ρ (fun cs ρ1 => ∃ ds, dats cs = some ds ∧ ds.length = n ∧ S (ds.map .dat) fun rv _ => rvX P R ρ1 rv) R
def wCallKX (n m : Nat) (pm : List Nat) (S : Spec) (r rk : WA) : WEX := fun ρ P R => r ρ fun cs ρ0 => rk ρ0 fun zs ρ1 => ∃ ds, dats (cs ++ zs) = some ds ∧ cs.length = n ∧ zs.length = m ∧ (gP pm ds).length = pm.length ∧ S ((gP pm ds).map .dat) fun rv _ => rvX P R ρ1 rv
theorem up_callX {mg : Str → Option Value} {K : Fg} {n : Nat} {S : Spec} {r : WAX} {σ : L2.St} {H : Hp} {Q : VK} (h : upX K as (wCallX n S r) σ H Q) : tCallPX (spVX K mg as.2.1 n S) (wxV mg as.2.2) (upAX K as r) σ H Q := by
  obtain ⟨Z, ρ, B, P, R, S0, h, kk, kr⟩ := h
  refine ⟨Z, ρ, B, _, R, S0, h, fun cs ρ1 vs B1 H1 h1 x1 S1 o1 => ?_, kr⟩
  obtain ⟨ds, e1, e2, hs⟩ := h1
  have r := dats_ok o1 e1
  refine ⟨_, B1, S1.part, by rw [r.len]; exact e2, _, B1, _, dats_map r S1.tab, hs, fun y ρ' v B' H' q x2 S2 dq hW => ?_, fun fs ρ' pp xs B' H' q x2 S2 hp dq hW => ?_, fun c x ρ' v dx fs cls B' H' q x2 S2 g1 g2 g3 dq hW => ?_⟩
  · have x3 : ExT B1 H' := x2.trans S2.ext
    exact kk _ _ v H' _ q (x1.trans x3) (S1.called x3 hW) (Dq.ext S2.ext dq)
  · have x4 : ExT B' (upd H' pp (.lst xs)) := S2.ext.trans (.new hp)
    have x3 : ExT B1 (upd H' pp (.lst xs)) := x2.trans x4
    exact kk _ _ _ _ _ q (x1.trans x3) (S1.called x3 hW) (.lst (.inl (.inl upd_same)) (DqAll.ext x4 dq))
  · have x3 : ExT B1 H' := x2.trans S2.ext
    refine ⟨c, v, dx, fs, g1, rfl, (ovl_out fun z => ?_).trans g2, g3, kr c x ρ1 v H' _ q (x1.trans x3) (S1.called x3 hW) (Dq.ext S2.ext dq)⟩
    rw [hW _ z] at g2
    cases g2
theorem up_callKX {mg : Str → Option Value} {K : Fg} {n m : Nat} {pm : List Nat} {S : Spec} {r rk : WA} {σ : L2.St} {H : Hp} {Q : VK} (h : upX K as (wCallKX n m pm S r rk) σ H Q) : tCallKPX (spVX K mg as.2.1 pm.length S) (wxV mg as.2.2) pm n m (upA K as r) (upA K as rk) σ H Q := by
  obtain ⟨Z, ρ, B, P, R, S0, h, kk, kr⟩ := h
  refine ⟨Z, ρ, B, _, S0, h, fun cs ρ0 vs B0 H0 h0 x0 S00 o0 => ⟨Z, ρ0, B0, _, S00, h0, fun zs ρ1 ws B1 H1 h1 x1' S1 o1 => ?_⟩⟩
  obtain ⟨ds, e1, e2, e3, e4, hs⟩ := h1
  have x1 := x0.trans x1'
  have o := CvsOk.app o1 (CvsOk.ext x1' o0)
  have r0 := dats_ok o e1
  have r := dqs_gP r0 pm
  refine ⟨_, B1, S1.part, by rw [o0.len]; exact e2, by rw [o1.len]; exact e3, by rw [r.len]; exact e4, _, B1, _, dats_map r S1.tab, hs, fun y ρ' v B' H' q x2 S2 dq hW => ?_, fun fs ρ' pp xs B' H' q x2 S2 hp dq hW => ?_, fun c x ρ' v dx fs cls B' H' q x2 S2 g1 g2 g3 dq hW => ?_⟩
  · have x3 : ExT B1 H' := x2.trans S2.ext
    exact kk _ _ v H' _ q (x1.trans x3) (S1.called x3 hW) (Dq.ext S2.ext dq)
  · have x4 : ExT B' (upd H' pp (.lst xs)) := S2.ext.trans (.new hp)
    have x3 : ExT B1 (upd H' pp (.lst xs)) := x2.trans x4
    exact kk _ _ _ _ _ q (x1.trans x3) (S1.called x3 hW) (.lst (.inl (.inl upd_same)) (DqAll.ext x4 dq))
  · have x3 : ExT B1 H' := x2.trans S2.ext
    refine ⟨c, v, dx, fs, g1, rfl, (ovl_out fun z => ?_).trans g2, g3, kr c x ρ1 v H' _ q (x1.trans x3) (S1.called x3 hW) (Dq.ext S2.ext dq)⟩
    rw [hW _ z] at g2
    cases g2
section
variable {k n m : Nat} {f : Addr} {fd : FuncData} {ps ks : List Str} {S : Spec} {x : Str} {p : Pos} {kws : List Keyword} {r rk : WA} {rx : WAX} {pm : List Nat}
theorem xcall (F : CallOkX X as.2.1 k n x f fd ps S) (tk : Takes X (wxV X.mg as.2.2)) (hr : Room k X.A) (ha : PA X (e :: es) (upAX X.K as rx)) (hg : Gl X x := by rfl) (hdb : (x == ("__debug__" : Str)) = false := by decide) (he : starEach (e :: es) X.env = (false, eval e X.env) :: starEach es X.env := by rfl) (hpl : (backTo pos (starEach es X.env)).any (·.1) = false := by rfl) :
    PE X (.Call (.Name x p) (e :: es) [] pos) (upX X.K as (wCallX n S rx)) := pe_imp (pe_callPX F.fn hr tk hg F.g F.kp F.b ha hdb he hpl) fun _ _ _ h => up_callX h
theorem up_nil0X {mg : Str → Option Value} {K : Fg} {σ : L2.St} {H : Hp} {Q : VK} {sp : Sp} {Wx : WX} {tk : TA} (h : tCallKPX sp Wx pm 0 m (upA K as wNil) tk σ H Q) : tCallKPX sp Wx pm 0 m tNil tk σ H Q := by
  obtain ⟨Z, ρ, B, P, S, h, k⟩ := h
  exact k _ _ [] B H h (.refl B) S True.intro
theorem xcallK0 (F : CallOkX X as.2.1 k pm.length x f fd ps S) (tk : Takes X (wxV X.mg as.2.2)) (hr : Room k X.A) (hb : KwB X.K fd ps 0 ks pm) (hkw : PK X kws (upA X.K as rk)) (hl : ks.length = m := by rfl) (hg : Gl X x := by rfl) (hall : (backToKw pos (keywordEach kws X.env)).all (·.1.isSome) = true := by rfl) (hks : (backToKw pos (keywordEach kws X.env)).filterMap (·.1) = ks := by rfl)
    (hdb : (x == ("__debug__" : Str)) = false := by decide)
    (hpl : ((backTo pos (starEach [] X.env)).any (·.1) || (backToKw pos (keywordEach kws X.env)).any (·.1.isNone)) = false := by rfl) :
    PE X (.Call (.Name x p) [] kws pos) (upX X.K as (wCallKX 0 m pm S wNil rk)) := pe_imp (pe_callKPX0 F.fn hr tk hg F.g F.kp hb hkw hl hall hks hdb hpl) fun _ _ _ h => up_nil0X (mg := X.mg) (up_callKX h)
end
def wConsX (t : WEX) (r : WAX) : WAX := fun ρ P R => t ρ (fun c ρ1 => r ρ1 (fun cs ρ2 => P (c :: cs) ρ2) R) R
theorem xcons {t : WEX} {r : WAX} (ha : PE X e (upX X.K as t)) (hr : PA X es (upAX X.K as r)) (he : starEach (e :: es) X.env = (false, eval e X.env) :: starEach es X.env := by rfl) : PA X (e :: es) (upAX X.K as (wConsX t r)) := by
  refine pa_imp (pa_cons ha hr he) fun σ H Q ⟨Z, ρ, B, P, R, S, h, k, kr⟩ => ⟨Z, ρ, B, _, R, S, h, fun c ρ1 v B1 H1 h1 x1 S1 o1 => ⟨Z, ρ1, B1, _, R, S1, h1, fun cs ρ2 vs B2 H2 h2 x2 S2 o2 => ?_, kr.ext x1⟩, kr⟩
  exact k _ _ (v :: vs) B2 H2 h2 (x1.trans x2) S2 ⟨o1.ext x2, o2⟩
def wTupX (r : WAX) : WEX := fun ρ P R => r ρ (fun cs ρ' => ∃ ds, dats cs = some ds ∧ ds.length ≤ sizeLine ∧ P (.d (.tuple ds)) ρ') R
theorem xtup {r : WAX} {x1 : _} (h : PA X es (upAX X.K as r)) : PE X (.Tuple es x1 pos) (upX X.K as (wTupX r)) := by
  refine pe_imp (pe_tup h) fun σ H Q ⟨Z, ρ, B, P, R, S, h, k, kr⟩ => ⟨Z, ρ, B, _, R, S, h, fun cs ρ' vs B' H' h1 x S' o1 => ?_, kr⟩
  obtain ⟨ds, e, z, q⟩ := h1
  have r := dats_ok o1 e
  have rl := r.len
  refine ⟨by omega, fun p hp => ?_⟩
  exact k _ _ _ _ _ q (x.trans (.new (S'.free hp))) (S'.al hp) (.tup upd_same (DqAll.ext (.new (S'.free hp)) r))
def wIfX (c : WTX) (t u : WEX) : WEX := fun ρ P R => c ρ (fun b ρ' => if b = true then t ρ' P R else u ρ' P R) R
theorem xif {c : WTX} {t u : WEX} (hc : PT X ec (upTX X.K as c)) (ha : PE X a (upX X.K as t)) (hb : PE X b (upX X.K as u)) : PE X (.IfExp ec a b pos) (upX X.K as (wIfX c t u)) := by
  refine pe_imp (pe_ifExp hc ha hb) fun σ H Q ⟨Z, ρ, B, P, R, S, h, k, kr⟩ => ⟨Z, ρ, B, _, R, S, h, fun b ρ' B' H' h1 x S' => ?_, kr⟩
  cases b with
  | true =>
    rw [if_pos rfl] at h1 ⊢
    exact ⟨Z, ρ', B', P, R, S', h1, fun b ρ2 v2 B2 H2 p x2 S2 => k b ρ2 v2 B2 H2 p (x.trans x2) S2, kr.ext x⟩
  | false =>
    rw [if_neg Bool.false_ne_true] at h1 ⊢
    exact ⟨Z, ρ', B', P, R, S', h1, fun b ρ2 v2 B2 H2 p x2 S2 => k b ρ2 v2 B2 H2 p (x.trans x2) S2, kr.ext x⟩
def wAsgX (t : WEX) (g : WG) : WS := fun w ρ => t ρ (fun c ρ' => match c with
  | .d x => g x ρ' w.nx
  | _ => False) w.er
theorem xset {t : WEX} {i : Nat} {x : Str} {pos' : Pos} (hN : X.N.Nodup) (he : PE X e (upX X.K as t)) (hi : X.N[i]? = some x := by rfl) (hx : Loc X.env.scope x := by first | exact Or.inl rfl | exact Or.inr rfl) (hs : swapsWith e (some (.Name x pos')) pos.line X.env = pure false := by rfl) (hf : X.fn x = true ∨ X.env.scope.names.lookup x = some .local := by first | exact .inl rfl | exact .inr rfl | assumption) :
    PS X (.Assign [.Name x pos'] e pos) (upS X.K as (wAsgX t (wSet i))) := by
  refine ps_imp (ps_set hN hi hx he hs hf) fun D σ H ⟨Z, ρ, B, w, S, h, m⟩ => ⟨Z, ρ, B, _, _, S, h, fun c ρ' v B' H' h1 x S' o1 => ?_, m.errK σ⟩
  cases c with
  | loc j => exact h1.elim
  | d y =>
    obtain ⟨B2, e2, S2, _⟩ := S'.drop i
    exact m.nx _ _ B2 H' h1 (x.trans e2) (S2.put (Dq.ext e2 o1))
end
end VL
end
section
set_option autoImplicit false
set_option maxRecDepth 100000
set_option maxHeartbeats 2000000
namespace VL
open PySem PySem.Spec PyProof.Rows L2
/-- what the errors' own __init__ does: it keeps the value -/
def spIn (K : Fg) : Sp := fun vs H Q _ => ∃ (a C : Addr) (v : V), vs = [.ref a, v] ∧ OexC K C ∧ PySem.W.findIn K (.ref C) "value" = some none ∧ H a = some (exo a C none) ∧
  ∀ dx, H dx = none → dx ≠ a → Q .non (upd (upd H dx (exd dx [("value", v)])) a (exo a C (some dx)))
/-- the error class of the name c -/
structure ErC (K : Fg) (mg : Str → Option Value) (c : Str) (C fI : Addr) : Prop where
  g : mg c = some (.ref C)
  o : OexC K C
  i : PySem.W.findIn K (.ref C) "__init__" = some (some (.ref fI))
  t : PySem.W.typeIn K (.ref fI) = some (.type "function")
  v : PySem.W.findIn K (.ref C) "value" = some none
def wRaise (c : Str) (t : WE) : WS := fun w ρ => t ρ fun cv ρ1 => ∃ y, [cv] = [CV.d y] ∧ w.er c y ρ1
theorem xraise {X : Cx} {as : As} {c : Str} {C fI : Addr} {fd : FuncData} {e : Expr} {t : WE} {p p2 pos : Pos} (hc : X.calm = true) (tk : Takes X (wxV X.mg as.2.2)) (T : ErC X.K X.mg c C fI) (F1 : FnOk X.prog X.w X.K X.mg X.base CX0 1 fI fd ["self", "value"] (spIn X.K)) (hb : Binds X.K fd ["self", "value"] [])
    (hr : Room 2 X.A) (ha : PE X e (up X.K as t)) (hg : Gl X c := by rfl) (hdb : (c == ("__debug__" : Str)) = false := by decide) (he : starEach [e] X.env = (false, eval e X.env) :: starEach [] X.env := by rfl) (hpl : (backTo p2 (starEach [] X.env)).any (·.1) = false := by rfl) :
    PS X (.Raise (some (.Call (.Name c p) [e] [] p2)) none pos) (upS X.K as (wRaise c t)) := by
  have mk := pmk_oex (X := X) (CX := CX0) (dvs := []) (p := p) (pos := p2) T.o T.i T.t F1 hr hb .nil pass0 hg T.g (acons (as := as) ha anil he) hdb he hpl
  refine ps_imp (ps_raise hc tk mk) fun D σ H ⟨Z, ρ, B, w, S, h, m⟩ => ⟨Z, ρ, B, fun cs ρ1 => ∃ y, cs = [CV.d y] ∧ w.er c y ρ1, S, h, fun cs ρ2 vs B2 H2 h2 x2 S2 o2 => ?_⟩
  obtain ⟨y, rfl, h3⟩ := h2
  obtain ⟨v, rfl, o1⟩ := cvs_one o2
  have o1' : Dq X.K B2 v y := o1
  refine ⟨show 1 ≤ 1000 by decide, fun a ha => ⟨a, C, v, rfl, T.o, T.v, upd_same, fun dx hdx ne => ⟨rfl, dx, [("value", v)], upd_same, ?_, ?_, ?_⟩⟩⟩
  · rw [upd_ne ne, upd_same]
  · rw [upd_ne ne] at hdx
    exact hdx
  · rw [upd_ne ne] at hdx
    have e3 : upd (L2.del (upd (upd (upd H2 a (exo a C none)) dx (exd dx [("value", v)])) a (exo a C (some dx))) a) dx (.xd [("value", v)]) = upd H2 dx (.xd [("value", v)]) := by
      funext b
      by_cases z : b = dx
      · rw [z, upd_same, upd_same]
      · rw [upd_ne z, upd_ne z]
        by_cases y2 : b = a
        · rw [y2, L2.del_same, ha]
        · rw [L2.del_ne y2, upd_ne y2, upd_ne z, upd_ne y2]
    rw [e3]
    have x3 : ExT B2 (upd B2 dx (.xd [("value", v)])) := .new (S2.free hdx)
    exact ⟨c, v, dx, _, T.g, rfl, upd_same, rfl, m.er c y ρ2 σ v _ _ h3 (x2.trans x3) (S2.al hdx) (Dq.ext x3 o1')⟩
/-- the ends, the slots of a clause's suite -/
def endsN (oi : Option Nat) (D : Ends) : Ends := match oi with
  | none => D
  | some i => { nx := fun σ' H' => D.nx (σ'.set i none) H', rt := D.rt, bk := fun σ' H' => D.bk (σ'.set i none) H', ct := fun σ' H' => D.ct (σ'.set i none) H' }
def slotN (oi : Option Nat) (a : Addr) (σ : L2.St) : L2.St := match oi with
  | none => σ
  | some i => σ.set i (some (.ref a))
structure Clause where
  c : Value
  oi : Option Nat
  ts : Addr → Value → Option Addr → TS
/-- what the clauses wish, one behind the other -/
def wCls (K : Fg) (Wout : WX) (D : Ends) : List Clause → WX
  | [] => Wout
  | k :: r => fun cls d σ H => ∃ b, PySem.W.exmOne K cls k.c = some b ∧ (b = true → ∀ a, H a = none → k.ts a cls d (endsN k.oi D) (slotN k.oi a σ) H) ∧ (b = false → wCls K Wout D r cls d σ H)
def NameOk (X : Cx) (on : Option Str) (oi : Option Nat) : Prop := match on, oi with
  | none, none => True
  | some n, some i => X.N[i]? = some n ∧ X.env.kindOf n = some .local
  | _, _ => False
inductive ClsOk (X : Cx) : List ExceptHandler → List Clause → Prop
  | nil : ClsOk X [] []
  | cons {x : Str} {on : Option Str} {k : Clause} {b₀ : Stmt} {suite : List Stmt} {np pos' : Pos} {hds : List ExceptHandler} {l : List Clause} (hc : Names X x k.c) (hn : NameOk X on k.oi)
      (hsu : ∀ (a : Addr) (oe : Obj) (cls : Value) (d : Option Addr) (pn : List (Addr × Obj)), Zc cls d oe → (∃ vs, oe.data = .fields vs) → PSs (X.suite a ((a, oe) :: pn)) (b₀ :: suite) (k.ts a cls d)) (r : ClsOk X hds l) :
      ClsOk X (.ExceptHandler (some (.Name x np)) on (b₀ :: suite) pos' :: hds) (k :: l)
section
variable {X : Cx} {pins : List (Addr × Obj)} {σ : L2.St} {H : Hp} {D : Ends} {Wout : WX}
/-- an exception that this frame holds: its object, where all else stands -/
structure Held (X : Cx) (pins : List (Addr × Obj)) (σ : L2.St) (H : Hp) (a : Addr) (cls : Value) (d : Option Addr) (B : Heap) (sI s : Shared) : Prop where
  J : Inv X pins σ H sI
  nb : ∀ b o, sI.heap.get? b = some o → b ∉ frs X.stack → B.get? b = some o
  up : sI.heap.UpToSlots s.heap
  fl : HandSPX.FlyingZ B (X.env :: X.outer) a (Zc cls d) s.heap
  na : H a = none
  os : s.os = sI.os
  ag : AllBare s.gens
theorem Held.inv {a : Addr} {cls : Value} {d : Option Addr} {B : Heap} {sI s : Shared} (h : Held X pins σ H a cls d B sI s) : Inv X pins σ H s := h.J.landed h.nb h.fl.1 h.up h.os h.ag
theorem Held.out {a : Addr} {cls : Value} {d : Option Addr} {B : Heap} {sI s : Shared} (hf : X.env.frame = some X.env.locals) (h : Held X pins σ H a cls d B sI s) : ∃ oe vs, s.heap.get? a = some oe ∧ Zc cls d oe ∧ oe.data = .fields vs ∧ a ≠ X.env.locals ∧ a ∉ X.fs := by
  obtain ⟨oe, vs, e1, z1, d1⟩ := h.fl.there
  have off : a ∉ frs (X.env :: X.outer) := fun mm => by
    obtain ⟨_, o2, e2, ne2⟩ := h.fl.2.2.1.mem mm
    rw [e1] at e2
    cases e2
    exact ne2 _ d1
  refine ⟨oe, vs, e1, z1, d1, fun q => off ?_, fun mm => off ?_⟩
  · exact List.mem_filterMap.mpr ⟨_, List.mem_cons_self, hf.trans (congrArg some q.symm)⟩
  · obtain ⟨v, v1, v2⟩ := List.mem_filterMap.mp mm
    exact List.mem_filterMap.mpr ⟨v, List.mem_cons_of_mem _ v1, v2⟩
theorem sp_back {a : Addr} {oe : Obj} {f : Flow} {s : Shared} (ok : X.Ok) (h : SP (X.suite a ((a, oe) :: (X.pn ++ pins))) [] D f s) : SP X pins D f s := by
  cases f
  case next => exact h.elim fun s6 h => h.elim fun H6 h => ⟨s6, H6, h.1.unsuite ok, h.2⟩
  case brk => exact h.elim fun s6 h => h.elim fun H6 h => ⟨s6, H6, h.1.unsuite ok, h.2⟩
  case cont => exact h.elim fun s6 h => h.elim fun H6 h => ⟨s6, H6, h.1.unsuite ok, h.2⟩
  case ret u => exact h.elim fun v h => h.elim fun s6 h => h.elim fun H6 h => ⟨v, s6, H6, h.1.unsuite ok, h.2⟩
/-- what is left to the clauses -/
theorem clauses (hs : X.stack = X.env :: X.outer) (hf : X.env.frame = some X.env.locals) (hN : X.N.Nodup) (tk : Takes X Wout) {hds : List ExceptHandler} {l : List Clause} (hk : ClsOk X hds l) :
    ∀ {a : Addr} {cls : Value} {d : Option Addr} {B : Heap} {sI s : Shared}, Held X pins σ H a cls d B sI s → wCls X.K Wout D l cls d σ H → wpAny (model X.prog X.w) X.A (handleBy (.ref a) X.env hds) (SP X pins D) X.xe s := by
  induction hk with
  | nil =>
    intro a cls d B sI s hh w
    refine wpAny_handleBy_nil ?_
    obtain ⟨g1, g2, g3, oe, vs, T, oT, ts, e1, z1, d1, v1, r1⟩ := id hh.fl
    unfold PySem.passOn
    refine wpAny_bind (wpAny_field e1 d1 v1 ?_)
    rw [if_neg (by simp : ¬ ((Value.ref T == Value.none) = true))]
    have last : wpAny (model X.prog X.w) X.A (setFlight (.ref a) X.env.frame) (fun _ s4 => wpAny (model X.prog X.w) X.A (throw (.ref a) : Sem Flow) (SP X pins D) X.xe s4) X.xe s := by
      rw [hf]
      refine HandSPX.setFlight_upZ hh.fl fun h4 y4 up4 => wpAny_throw (tk _ _ ⟨a, B, sI, pins, σ, H, cls, d, rfl, hh.J, hh.nb, hh.up.trans up4, .inr (.inr ?_), hh.na, hh.os, hh.ag, w⟩)
      rw [hs]
      exact y4
    first
      | exact wpAny_bind (wpAny_pure (wpAny_bind last))
      | exact wpAny_bind last
  | @cons x on k b₀ suite np pos' hds2 l2 hc hn hsu r ih =>
    intro a cls d B sI s hh w
    obtain ⟨b, hb, yes, no⟩ := w
    have ok := hh.J.ok
    obtain ⟨oe, vs, e1, z1, d1, nL, nF⟩ := hh.out hf
    have S3 := hh.inv.suite e1 d1 hh.na nL nF
    refine wpAny_handleBy_cons (codeAny_handlers_test ?_) (fun q => nomatch q)
    have lt : PySem.W.Looks (model X.prog X.w) s.heap (typeOf (.ref a)) cls := fun A Q E s2 kp q => wpAny_typeOf_ref (kp _ _ e1) ((congrArg (fun v => Q v s2) z1.1).mpr q)
    have look := PySem.W.exm_one (M := model X.prog X.w) (S3.kIn) lt hb
    have nm : ∀ {Q : Value → Shared → Prop} {E : Value → Shared → Prop}, Q k.c s → wpAny (model X.prog X.w) (X.A.mark (some (.ref a))) (eval (.Name x np) X.env) Q E s := fun q => by
      rcases hc with ⟨g1, g2, g3 | ⟨g3, g4, g5⟩⟩
      · exact ld_glob S3 g1 g3 q g2
      · exact ld_blt S3 g1 g3 g4 q g5 g2
    refine nm (look.here ?_)
    cases b with
    | false => exact ih hh (no rfl)
    | true =>
      have ys := yes rfl a hh.na
      cases on with
      | none =>
        refine codeAny_handlers_suite (HandSPX.lands_againZ hh.fl fun h4 fl4 up4 => ?_)
        have hh4 : Held X pins σ H a cls d B sI { s with heap := h4 } := ⟨hh.J, hh.nb, hh.up.trans up4, fl4, hh.na, hh.os, hh.ag⟩
        obtain ⟨oe4, vs4, e4, z4, d4, n4, m4⟩ := hh4.out hf
        obtain ⟨kc, oi, ts⟩ := k
        cases oi with
        | some i => exact hn.elim
        | none => exact wpAny_mono ((hsu a oe4 cls d (X.pn ++ pins) z4 ⟨_, d4⟩).run [] _ _ H _ (hh4.inv.suite e4 d4 hh.na n4 m4) ys) (fun f s6 h6 => sp_back ok h6) (fun _ _ z => z.elim)
      | some n =>
        refine codeAny_handlers_suite_as (HandSPX.lands_againZ hh.fl fun h4 fl4 up4 => ?_)
        have hh4 : Held X pins σ H a cls d B sI { s with heap := h4 } := ⟨hh.J, hh.nb, hh.up.trans up4, fl4, hh.na, hh.os, hh.ag⟩
        obtain ⟨oe4, vs4, e4, z4, d4, n4, m4⟩ := hh4.out hf
        obtain ⟨kc, oi, ts⟩ := k
        cases oi with
        | none => exact hn.elim
        | some i =>
          obtain ⟨hi, hln⟩ := hn
          refine store_ok (X := X.suite a ((a, oe4) :: (X.pn ++ pins))) (v := .ref a) (hh4.inv.suite e4 d4 hh.na n4 m4) hN hi (.inl hln) rfl (fun s5 S5 => ?_) (.inr hln)
          refine wpAny_mono ((hsu a oe4 cls d (X.pn ++ pins) z4 ⟨_, d4⟩).run [] s5 _ H _ S5 ys) (fun f s6 h6 => ?_) (fun _ _ z => z.elim)
          have fin : ∀ {σ6 : L2.St} {H6 : Hp} {Q : Shared → Prop}, Inv (X.suite a ((a, oe4) :: (X.pn ++ pins))) [] σ6 H6 s6 → (∀ s7, Inv X pins (σ6.set i none) H6 s7 → Q s7) → wpAny (model X.prog X.w) X.A (do bindName X.env n .none; unbindBehindTheSuite X.env n pos') (fun _ s7 => Q s7) X.xe s6 := fun J6 q => gone_ok (J6.unsuite ok) hN hi hln q
          cases f
          case next => exact h6.elim fun a6 h => h.elim fun b6 h => fin h.1 fun s7 J7 => ⟨_, _, J7, h.2⟩
          case brk => exact h6.elim fun a6 h => h.elim fun b6 h => fin h.1 fun s7 J7 => ⟨_, _, J7, h.2⟩
          case cont => exact h6.elim fun a6 h => h.elim fun b6 h => fin h.1 fun s7 J7 => ⟨_, _, J7, h.2⟩
          case ret u => exact h6.elim fun v h => h.elim fun a6 h => h.elim fun b6 h => fin h.1 fun s7 J7 => ⟨_, _, _, J7, h.2⟩
theorem ps_cls {body : List Stmt} {h₀ : ExceptHandler} {hds : List ExceptHandler} {l : List Clause} {pos : Pos} {tb : WX → TS} (hs : X.stack = X.env :: X.outer) (hf : X.env.frame = some X.env.locals) (hN : X.N.Nodup) (tk : Takes X Wout)
    (hb : ∀ (W : WX) (pn : List (Addr × Obj)) (xe : Value → Shared → Prop), Takes (X.tr pn xe) W → PSs (X.tr pn xe) body (tb W)) (hh : ClsOk X (h₀ :: hds) l) : PS X (.Try body (h₀ :: hds) [] [] pos) (fun D σ H => tb (wCls X.K Wout D l) D σ H) := by
  refine ⟨fun pins s σ H D I h => wpAny_Try_except ?_⟩
  have ok := I.ok
  refine wpAny_mono ((hb (wCls X.K Wout D l) (X.pn ++ pins) (fun e s₁ => wpAny (model X.prog X.w) X.A (noteFrame e X.env) (fun _ s₂ => wpAny (model X.prog X.w) X.A (setFlight e none) (fun _ s₃ => wpAny (model X.prog X.w) X.A (handleBy e X.env (h₀ :: hds)) (SP X pins D) X.xe s₃) X.xe s₂) X.xe s₁)
    (fun u s' xx => ?_)).run [] s σ H D (I.toTry _) h) (fun f s1 h1 => ?_) (fun e s1 he => he)
  · obtain ⟨a, B, sI, pins', σ', H', cls, d, rfl, J', nb, up, sky, na, os, ag, w⟩ := xx
    have sky2 : Sky B (X.env :: X.outer) a (Zc cls d) X.env.locals s'.heap := by
      rw [← hs]
      exact sky
    refine Sky.land Zc.steady (by rw [ok.frames, hs]) hf sky2 fun h3 fl3 up3 => ?_
    exact clauses hs hf hN tk hh ⟨J'.ofTry ok, nb, up.trans up3, fl3, na, os, ag⟩ w
  · cases f
    case next => exact h1.elim fun a6 h => h.elim fun b6 h => wpAny_execs_nil ⟨a6, b6, h.1.ofTry ok, h.2⟩
    case brk => exact h1.elim fun a6 h => h.elim fun b6 h => ⟨a6, b6, h.1.ofTry ok, h.2⟩
    case cont => exact h1.elim fun a6 h => h.elim fun b6 h => ⟨a6, b6, h.1.ofTry ok, h.2⟩
    case ret u => exact h1.elim fun v h => h.elim fun a6 h => h.elim fun b6 h => ⟨v, a6, b6, h.1.ofTry ok, h.2⟩
end
end VL
end
section
set_option autoImplicit false
set_option maxRecDepth 100000
set_option maxHeartbeats 2000000
namespace VL
open PySem PySem.Spec PyProof.Rows L2
/-- what is known of the exception that a suite holds in slot i -/
def ExV (K : Fg) (a : Addr) (cls : Value) (d : Option Addr) (i : Nat) (σ : L2.St) (B : Hp) (x : D) : Prop := σ[i]? = some (some (.ref a)) ∧ ∃ (C dx : Addr) (fs : List (Str × V)) (v : V), cls = .ref C ∧ XfC K C ∧ PySem.W.findIn K (.ref C) "value" = some none ∧ d = some dx ∧ B dx = some (.xd fs) ∧ fs.lookup ("value" : Str) = some v ∧ Dq K B v x
theorem ExV.ext {K : Fg} {a : Addr} {cls : Value} {d : Option Addr} {i : Nat} {σ : L2.St} {B B' : Hp} {x : D} (e : ExT B B') (h : ExV K a cls d i σ B x) : ExV K a cls d i σ B' x := by
  obtain ⟨h1, C, dx, fs, v, h2, h3, h4, h5, h6, h7, h8⟩ := h
  exact ⟨h1, C, dx, fs, v, h2, h3, h4, h5, e.keep _ _ h6 rfl, h7, Dq.ext e h8⟩
section
variable (K : Fg) (as : As) (a : Addr) (cls : Value) (d : Option Addr) (i : Nat)
def upE (t : D → WE) : TE := fun σ H Q => ∃ Z ρ B P x, ExV K a cls d i σ B x ∧ Sv K as Z ρ σ B H ∧ t x ρ P ∧ ∀ c ρ' v B' H', P c ρ' → ExT B B' → Sv K as Z ρ' σ B' H' → CvOk K σ B' v c → Q v H'
def upEA (t : D → WA) : TA := fun σ H Q => ∃ Z ρ B P x, ExV K a cls d i σ B x ∧ Sv K as Z ρ σ B H ∧ t x ρ P ∧ ∀ cs ρ' vs B' H', P cs ρ' → ExT B B' → Sv K as Z ρ' σ B' H' → CvsOk K σ B' vs cs → Q vs H'
def upES (t : D → WS) : TS := fun E σ H => ∃ Z ρ B w x, ExV K a cls d i σ B x ∧ Sv K as Z ρ σ B H ∧ t x w ρ ∧ Meets K as Z B w E
end
section
variable {X : Cx} {as : As} {a : Addr} {cls : Value} {d : Option Addr} {i : Nat} {oe : Obj} {pn : List (Addr × Obj)} {e : Expr} {es : List Expr} {st : Stmt} {sts : List Stmt} {pos : Pos}
theorem epure {X : Cx} {t : WE} (h : PE X e (up X.K as t)) : PE X e (upE X.K as a cls d i fun _ => t) := pe_imp h fun σ H Q ⟨Z, ρ, B, P, x, _, S, h, k⟩ => ⟨Z, ρ, B, P, S, h, k⟩
theorem evalue {n : Str} {p : Pos} (hz : Zc cls d oe) (hf : ∃ vs, oe.data = .fields vs) (hN : X.N[i]? = some n := by rfl) (hv : Vis X.env.scope n := by first | exact Or.inl rfl | exact Or.inr (Or.inl rfl) | exact Or.inr (Or.inr rfl)) (hd : (n == ("__debug__" : Str)) = false := by decide) (hcd : (n == ("__classdict__" : Str)) = false := by decide)
    (hb : attributeBase (.Name n p) "value" X.env (eval (.Name n p) X.env) = eval (.Name n p) X.env := by rfl) : PE (X.suite a ((a, oe) :: pn)) (.Attribute (.Name n p) "value" pos) (upE X.K as a cls d i fun x => wC x) := by
  refine ⟨fun pins s σ H Q I ⟨Z, ρ, B, P, x, q, S, h, k⟩ => ?_⟩
  obtain ⟨q1, C, dx, fs, v, q2, q3, q4, q5, q6, q7, q8⟩ := q
  exact (pe_xf q3 q4 hz hf (pe_var (X := X.suite a ((a, oe) :: pn)) (i := i) hN hv hd hcd) hb).run pins s σ H Q I ⟨.ref a, q1, rfl, q2, dx, fs, v, q5, S.sub q6, q7, k _ ρ v B H h (.refl B) S q8⟩
theorem enil {X : Cx} : PA X [] (upEA X.K as a cls d i fun _ => wNil) := pa_imp pa_nil fun σ H Q ⟨Z, ρ, B, P, x, _, S, h, k⟩ => k _ _ [] B H h (.refl B) S True.intro
theorem econs {X : Cx} {t : D → WE} {r : D → WA} (ha : PE X e (upE X.K as a cls d i t)) (hr : PA X es (upEA X.K as a cls d i r)) (he : starEach (e :: es) X.env = (false, eval e X.env) :: starEach es X.env := by rfl) : PA X (e :: es) (upEA X.K as a cls d i fun x => wCons (t x) (r x)) := by
  refine pa_imp (pa_cons ha hr he) fun σ H Q ⟨Z, ρ, B, P, x, q, S, h, k⟩ => ⟨Z, ρ, B, _, x, q, S, h, fun c ρ1 v B1 H1 h1 x1 S1 o1 => ⟨Z, ρ1, B1, _, x, q.ext x1, S1, h1, fun cs ρ2 vs B2 H2 h2 x2 S2 o2 => ?_⟩⟩
  exact k _ _ (v :: vs) B2 H2 h2 (x1.trans x2) S2 ⟨o1.ext x2, o2⟩
theorem etup {X : Cx} {r : D → WA} {x1 : _} (h : PA X es (upEA X.K as a cls d i r)) : PE X (.Tuple es x1 pos) (upE X.K as a cls d i fun x => wTup (r x)) := by
  refine pe_imp (pe_tup h) fun σ H Q ⟨Z, ρ, B, P, x, q, S, h, k⟩ => ⟨Z, ρ, B, _, x, q, S, h, fun cs ρ' vs B' H' h1 xx S' o1 => ?_⟩
  obtain ⟨ds, e, z, q⟩ := h1
  have r := dats_ok o1 e
  have rl := r.len
  exact ⟨by omega, fun p hp => k _ _ _ _ _ q (xx.trans (.new (S'.free hp))) (S'.al hp) (.tup upd_same (DqAll.ext (.new (S'.free hp)) r))⟩
theorem eset {X : Cx} {t : D → WE} {j : Nat} {x : Str} {pos' : Pos} (hN : X.N.Nodup) (he : PE X e (upE X.K as a cls d i t)) (hi : X.N[j]? = some x := by rfl) (hx : Loc X.env.scope x := by first | exact Or.inl rfl | exact Or.inr rfl) (hs : swapsWith e (some (.Name x pos')) pos.line X.env = pure false := by rfl) (hf : X.fn x = true ∨ X.env.scope.names.lookup x = some .local := by first | exact .inl rfl | exact .inr rfl | assumption) :
    PS X (.Assign [.Name x pos'] e pos) (upES X.K as a cls d i fun x => wAsg (t x) (wSet j)) := by
  refine ps_imp (ps_set hN hi hx he hs hf) fun D σ H ⟨Z, ρ, B, w, x, q, S, h, m⟩ => ⟨Z, ρ, B, _, x, q, S, h, fun c ρ' v B' H' h1 xx S' o1 => ?_⟩
  cases c with
  | loc j => exact h1.elim
  | d y =>
    obtain ⟨B2, e2, S2, _⟩ := S'.drop j
    exact m.nx _ _ B2 H' h1 (xx.trans e2) (S2.put (Dq.ext e2 o1))
theorem esone {X : Cx} {t : D → WS} (h : PS X st (upES X.K as a cls d i t)) : PSs X [st] (upES X.K as a cls d i t) := pss_one h
end
inductive WCl where
  | named (catch_ : Str → Bool) (i : Nat) (ts : D → WS)
  | plain (catch_ : Str → Bool) (ts : WS)
def WCl.catches : WCl → Str → Bool
  | .named b _ _, c => b c
  | .plain b _, c => b c
def wEndN (i : Nat) (w : WEn) : WEn := { nx := fun ρ => w.nx (ρ.set i .un), rt := w.rt, rn := w.rn, bk := fun ρ => w.bk (ρ.set i .un), ct := fun ρ => w.ct (ρ.set i .un) }
def wEnd0 (w : WEn) : WEn := { nx := w.nx, rt := w.rt, rn := w.rn, bk := w.bk, ct := w.ct }
def wHand : List WCl → WEn → Str → D → En → Prop
  | [], w, c, x, ρ => w.er c x ρ
  | .named b i ts :: r, w, c, x, ρ => if b c = true then i < ρ.length ∧ ts x (wEndN i w) (ρ.set i .un) else wHand r w c x ρ
  | .plain b ts :: r, w, c, x, ρ => if b c = true then ts (wEnd0 w) ρ else wHand r w c x ρ
def wTry (cs : List Str) (t : WS) (ks : List WCl) : WS := fun w ρ => t { w with er := fun c x ρ' => c ∈ cs ∧ wHand ks w c x ρ' } ρ
abbrev asN (as : As) : As := (as.1, as.2.1, nW)
def clOf (K : Fg) (as : As) (c : Value) : WCl → Clause
  | .named _ i ts => ⟨c, some i, fun a cls d => upES K (asN as) a cls d i ts⟩
  | .plain _ ts => ⟨c, none, fun _ _ _ => upS K (asN as) ts⟩
/-- what the clauses ask of the classes -/
inductive ClsV (X : Cx) (as : As) (cs : List Str) : List ExceptHandler → List WCl → List Clause → Prop
  | nil : ClsV X as cs [] [] []
  | cons {x : Str} {on : Option Str} {k : WCl} {c : Value} {b₀ : Stmt} {suite : List Stmt} {np pos' : Pos} {hds : List ExceptHandler} {ks : List WCl} {l : List Clause} (hc : Names X x (clOf X.K as c k).c) (hn : NameOk X on (clOf X.K as c k).oi)
      (hb : ∀ n ∈ cs, ∀ C, X.mg n = some (.ref C) → PySem.W.exmOne X.K (.ref C) c = some (k.catches n))
      (hsu : ∀ (a : Addr) (oe : Obj) (cls : Value) (d : Option Addr) (pn : List (Addr × Obj)), Zc cls d oe → (∃ vs, oe.data = .fields vs) → PSs (X.suite a ((a, oe) :: pn)) (b₀ :: suite) ((clOf X.K as c k).ts a cls d)) (r : ClsV X as cs hds ks l) :
      ClsV X as cs (.ExceptHandler (some (.Name x np)) on (b₀ :: suite) pos' :: hds) (k :: ks) (clOf X.K as c k :: l)
/-- the classes of the errors -/
def ErF (K : Fg) (mg : Str → Option Value) (cs : List Str) : Prop := ∀ c ∈ cs, ∃ C, mg c = some (.ref C) ∧ XfC K C ∧ PySem.W.findIn K (.ref C) "value" = some none
theorem ClsV.ok {X : Cx} {as : As} {cs : List Str} {hds : List ExceptHandler} {ks : List WCl} {l : List Clause} (h : ClsV X as cs hds ks l) : ClsOk X hds l := by
  induction h with
  | nil => exact .nil
  | cons hc hn hb hsu r ih => exact .cons hc hn hsu ih
theorem xd_stays {K : Fg} {as : As} {Z : Hp} {ρ : En} {σ : L2.St} {B H : Hp} {dx : Addr} {fs : List (Str × V)} (S : Sv K as Z ρ σ B H) (h : H dx = some (.xd fs)) : B dx = some (.xd fs) := by
  have n1 : ¬ Ow ρ σ dx := fun ⟨i, c, h1, h2, h3⟩ => by
    obtain ⟨p, q1, q2, q3⟩ := S.own i c h1 h2
    rcases h3 with h3 | h3
    · rw [h3] at q1
      cases q1
      rcases own_kind q3 with ⟨xs, e⟩ | ⟨kvs, e⟩ | ⟨kvs, e⟩ <;> (rw [h] at e; cases e)
    · obtain ⟨_, _, xs, e⟩ := q3.inner h3
      rw [h] at e
      cases e
  have n2 : Z dx = none := by
    cases e : Z dx with
    | none => rfl
    | some o =>
      obtain ⟨q1, _, _, q2⟩ := S.hid dx o e
      rw [h] at q1
      cases q1
      rcases q2 with ⟨xs, e⟩ | ⟨kvs, e⟩ | ⟨kvs, e⟩ <;> cases e
  rw [← S.off dx n1 n2]
  exact h
theorem slot_un {K : Fg} {as : As} {Z : Hp} {ρ : En} {σ : L2.St} {B H : Hp} (S : Sv K as Z ρ σ B H) (i : Nat) (v : Option V) : ∃ B', ExT B B' ∧ Sv K as Z (ρ.set i .un) (σ.set i v) B' H := by
  refine S.wiped [i] (wipe_eq (by rw [List.length_set]) fun j hj => ?_).symm
  rw [List.getElem?_set_ne fun z => hj (by rw [z]; exact List.mem_cons_self)]
theorem hand_ok {X : Cx} {as : As} {cs : List Str} {E : Ends} {Z B : Hp} {w : WEn} (m : Meets X.K as Z B w E) (F : ErF X.K X.mg cs) {hds : List ExceptHandler} {ks : List WCl} {l : List Clause} (hv : ClsV X as cs hds ks l) :
    ∀ {c : Str} {x : D} {ρ : En} {σ : L2.St} {B' H' : Hp} {cls : Value} {dx : Addr} {fs : List (Str × V)} {v : V}, c ∈ cs → wHand ks w c x ρ → ExT B B' → Sv X.K as Z ρ σ B' H' → X.mg c = some cls → H' dx = some (.xd fs) → fs.lookup ("value" : Str) = some v → Dq X.K B' v x →
      wCls X.K (wxV X.mg as.2.2) E l cls (some dx) σ H' := by
  induction hv with
  | nil => exact fun {c x ρ σ B' H' cls dx fs v} hc h ex S g1 g2 g3 dq => ⟨c, v, dx, fs, g1, rfl, g2, g3, m.er c x ρ σ v B' H' h ex S dq⟩
  | @cons xx on k cv b₀ suite np pos' hds ks l hcn hn hb hsu r ih =>
    intro c x ρ σ B' H' cls dx fs v hc h ex S g1 g2 g3 dq
    obtain ⟨C, f1, f2, f3⟩ := F c hc
    rw [f1] at g1
    cases g1
    cases k with
    | plain b ts =>
      refine ⟨b c, hb c hc C f1, fun y a ha => ?_, fun y => ih hc ?_ ex S f1 g2 g3 dq⟩
      · have h2 : ts (wEnd0 w) ρ := by
          have h' : (if b c = true then ts (wEnd0 w) ρ else wHand ks w c x ρ) := h
          rwa [if_pos y] at h'
        refine ⟨Z, ρ, B', _, S.wish, h2, ⟨fun ρ2 σ2 B2 H2 q x2 S2 => m.nx ρ2 σ2 B2 H2 q (ex.trans x2) S2.wish, fun c2 ρ2 σ2 v2 B2 H2 q x2 S2 => m.rt c2 ρ2 σ2 v2 B2 H2 q (ex.trans x2) S2.wish, fun ds ρ2 σ2 p xs B2 H2 q x2 S2 => m.rn ds ρ2 σ2 p xs B2 H2 q (ex.trans x2) S2.wish,
          fun ρ2 σ2 B2 H2 q x2 S2 => m.bk ρ2 σ2 B2 H2 q (ex.trans x2) S2.wish, fun ρ2 σ2 B2 H2 q x2 S2 => m.ct ρ2 σ2 B2 H2 q (ex.trans x2) S2.wish, fun _ _ _ _ _ _ _ q => q.elim⟩⟩
      · have h' : (if b c = true then ts (wEnd0 w) ρ else wHand ks w c x ρ) := h
        rwa [if_neg (by rw [y]; exact Bool.false_ne_true)] at h'
    | named b i ts =>
      refine ⟨b c, hb c hc C f1, fun y a ha => ?_, fun y => ih hc ?_ ex S f1 g2 g3 dq⟩
      · have h2 : i < ρ.length ∧ ts x (wEndN i w) (ρ.set i .un) := by
          have h' : (if b c = true then i < ρ.length ∧ ts x (wEndN i w) (ρ.set i .un) else wHand ks w c x ρ) := h
          rwa [if_pos y] at h'
        obtain ⟨B2, e2, S2⟩ := slot_un S i (some (.ref a))
        have il : i < σ.length := by
          rw [← S.len]
          exact h2.1
        have back : ∀ {ρ3 : En} {σ3 : L2.St} {B3 H3 : Hp} {G : L2.St → Hp → Prop} {g : En → Prop}, (∀ ρ4 σ4 B4 H4, g ρ4 → ExT B B4 → Sv X.K as Z ρ4 σ4 B4 H4 → G σ4 H4) → g (ρ3.set i .un) → ExT B2 B3 → Sv X.K (asN as) Z ρ3 σ3 B3 H3 → G (σ3.set i none) H3 := fun {ρ3 σ3 B3 H3 G g} k q x3 S3 => by
          obtain ⟨B4, e4, S4⟩ := slot_un S3 i none
          exact k _ _ B4 H3 q (((ex.trans e2).trans x3).trans e4) S4.wish
        refine ⟨Z, ρ.set i .un, B2, wEndN i w, x, ⟨st_set_same il, C, dx, fs, v, rfl, f2, f3, rfl, xd_stays S2 g2, g3, Dq.ext e2 dq⟩, S2.wish, h2.2, ⟨fun ρ2 σ2 B3 H2 q x2 S3 => back m.nx q x2 S3, fun c2 ρ2 σ2 v2 B3 H2 q x2 S3 => m.rt c2 ρ2 σ2 v2 B3 H2 q ((ex.trans e2).trans x2) S3.wish, fun ds ρ2 σ2 p xs B3 H2 q x2 S3 => m.rn ds ρ2 σ2 p xs B3 H2 q ((ex.trans e2).trans x2) S3.wish,
          fun ρ2 σ2 B3 H2 q x2 S3 => back m.bk q x2 S3, fun ρ2 σ2 B3 H2 q x2 S3 => back m.ct q x2 S3, fun _ _ _ _ _ _ _ q => q.elim⟩⟩
      · have h' : (if b c = true then i < ρ.length ∧ ts x (wEndN i w) (ρ.set i .un) else wHand ks w c x ρ) := h
        rwa [if_neg (by rw [y]; exact Bool.false_ne_true)] at h'
/-- a wish by values out of any wish -/
def wvOf (mg : Str → Option Value) (W : WX) : Str → V → L2.St → Hp → Prop := fun c v σ H => ∀ cls dx fs, mg c = some cls → H dx = some (.xd fs) → fs.lookup ("value" : Str) = some v → W cls (some dx) σ H
theorem wvOf_imp {mg : Str → Option Value} {W : WX} {cls : Value} {d : Option Addr} {σ : L2.St} {H : Hp} (h : wxV mg (wvOf mg W) cls d σ H) : W cls d σ H := by
  obtain ⟨c, v, dx, fs, g1, rfl, g3, g4, g5⟩ := h
  exact g5 cls dx fs g1 g3 g4
theorem stry {X : Cx} {as : As} {cs : List Str} {body : List Stmt} {h₀ : ExceptHandler} {hds : List ExceptHandler} {ks : List WCl} {l : List Clause} {t : WS} {pos : Pos} (hN : X.N.Nodup) (tk : Takes X (wxV X.mg as.2.2)) (F : ErF X.K X.mg cs)
    (hb : ∀ (W : Str → V → L2.St → Hp → Prop) (pn : List (Addr × Obj)) (xe : Value → Shared → Prop), Takes (X.tr pn xe) (wxV X.mg W) → PSs (X.tr pn xe) body (upS X.K (as.1, as.2.1, W) t)) (hh : ClsV X as cs (h₀ :: hds) ks l) (hs : X.stack = X.env :: X.outer := by rfl) (hf : X.env.frame = some X.env.locals := by rfl) :
    PS X (.Try body (h₀ :: hds) [] [] pos) (upS X.K as (wTry cs t ks)) := by
  refine ps_imp (ps_cls (tb := fun W => upS X.K (as.1, as.2.1, wvOf X.mg W) t) hs hf hN tk (fun W pn xe tk' => hb (wvOf X.mg W) pn xe (tk'.imp fun cls d σ H h => wvOf_imp h)) hh.ok) fun D σ H ⟨Z, ρ, B, w, S, h, m⟩ => ?_
  refine ⟨Z, ρ, B, _, S.wish, h, ⟨fun ρ2 σ2 B2 H2 q x2 S2 => m.nx ρ2 σ2 B2 H2 q x2 S2.wish, fun c2 ρ2 σ2 v2 B2 H2 q x2 S2 => m.rt c2 ρ2 σ2 v2 B2 H2 q x2 S2.wish, fun ds ρ2 σ2 p xs B2 H2 q x2 S2 => m.rn ds ρ2 σ2 p xs B2 H2 q x2 S2.wish,
    fun ρ2 σ2 B2 H2 q x2 S2 => m.bk ρ2 σ2 B2 H2 q x2 S2.wish, fun ρ2 σ2 B2 H2 q x2 S2 => m.ct ρ2 σ2 B2 H2 q x2 S2.wish, fun c x ρ2 σ2 v B2 H2 q x2 S2 dq => ?_⟩⟩
  exact fun cls dx fs g1 g2 g3 => hand_ok m F hh q.1 q.2 x2 S2.wish g1 g2 g3 dq
end VL
namespace VL
open PySem PySem.Spec PyProof.Rows L2
theorem takes_no {X : Cx} {mg : Str → Option Value} : Takes X (wxV mg nW) := takes_none5.imp fun _ _ _ _ ⟨_, _, _, _, _, _, _, _, h⟩ => h
structure FOkX (P : Program) (w : World) (K : Fg) (ts : List Addr) (mg : Str → Option Value) (base : Heap) (k n : Nat) (x : Str) (f : Addr) (fd : FuncData) (ps : List Str) (S : Spec) : Prop where
  fn : FnOk P w K mg base (L2.CX P w) k f fd ps (spVX K mg ts n S)
  g : mg x = some (.ref f)
  kp : PySem.W.keepIn K (.ref f) = true
  b : Binds K fd ps []
/-- what stands in a class -/
def clsBody : Stmt → List Stmt
  | .ClassDef _ _ _ b _ _ _ _ _ _ _ => b
  | _ => []
def tInit (K : Fg) : TS := tSeq (tDrop (tVeI K (tCons (tVar 0) (tCons (tVar 1) tNil)))) (tOst K "value" (tVar 0) (tVar 1))
theorem spIn_start {K : Fg} {vs : List V} {H : Hp} {Q : VK} {E : XK} (h : spIn K vs H Q E) : tInit K { nx := fun _ H' => Q .non H', rt := Q } (start ["self", "value"] vs) H := by
  obtain ⟨a, C, v, rfl, T, hv, ha, k⟩ := h
  refine ⟨.ref a, rfl, v, rfl, a, C, [v], rfl, (by decide : (1 : Nat) ≤ 1000), T, ha, ?_⟩
  exact ⟨v, rfl, .ref a, rfl, a, C, rfl, T, hv, .inl ⟨ha, fun dx h1 h2 => k dx h1 h2⟩⟩
end VL
end
section
set_option autoImplicit false
set_option maxRecDepth 100000
set_option maxHeartbeats 2000000
namespace VL
open PySem PySem.Spec PyProof.Rows L2 GxR
structure ErT (P : Program) (w : World) (K : Fg) (mg : Str → Option Value) (base : Heap) (c : Str) : Prop where
  ex : ∃ (C fI : Addr) (fd : FuncData), ErC K mg c C fI ∧ FnOk P w K mg base CX0 1 fI fd ["self", "value"] (spIn K) ∧ Binds K fd ["self", "value"] []
structure ClT (K : Fg) (mg : Str → Option Value) (cs : List Str) (dc : Str) (k : Str → Bool) : Prop where
  ex : ∃ C, mg dc = some (.ref C) ∧ ∀ n ∈ cs, ∀ C', mg n = some (.ref C') → PySem.W.exmOne K (.ref C') (.ref C) = some (k n)
section
variable {X : Cx} {as : As} {e : Expr} {t : WE} {c : Str} {p p2 pos : Pos}
theorem sraise (T : ErT X.prog X.w X.K X.mg X.base c) (hc : X.calm = true) (tk : Takes X (wxV X.mg as.2.2)) (hr : Room 2 X.A) (ha : PE X e (up X.K as t)) (hg : Gl X c := by rfl) (hdb : (c == ("__debug__" : Str)) = false := by decide) (he : starEach [e] X.env = (false, eval e X.env) :: starEach [] X.env := by rfl) (hpl : (backTo p2 (starEach [] X.env)).any (·.1) = false := by rfl) :
    PS X (.Raise (some (.Call (.Name c p) [e] [] p2)) none pos) (upS X.K as (wRaise c t)) := by
  obtain ⟨C, fI, fd, h1, h2, h3⟩ := T.ex
  exact xraise hc tk h1 h2 h3 hr ha hg hdb he hpl
def ClsE (X : Cx) (as : As) (cs : List Str) (hds : List ExceptHandler) (ks : List WCl) : Prop := ∃ l, ClsV X as cs hds ks l
theorem cl0 {cs : List Str} : ClsE X as cs [] [] := ⟨_, .nil⟩
theorem clN {cs : List Str} {dc n : Str} {b : Str → Bool} {i : Nat} {ts : D → WS} {b₀ : Stmt} {suite : List Stmt} {np pos' : Pos} {hds : List ExceptHandler} {ks : List WCl} (T : ClT X.K X.mg cs dc b)
    (hsu : ∀ (a : Addr) (oe : Obj) (cls : Value) (d : Option Addr) (pn : List (Addr × Obj)), Zc cls d oe → (∃ vs, oe.data = .fields vs) → PSs (X.suite a ((a, oe) :: pn)) (b₀ :: suite) (upES X.K (asN as) a cls d i ts)) (r : ClsE X as cs hds ks)
    (hi : X.N[i]? = some n := by rfl) (hl : X.env.kindOf n = some .local := by rfl) (hg : Gl X dc := by rfl) (hdb : (dc == ("__debug__" : Str)) = false := by decide) :
    ClsE X as cs (.ExceptHandler (some (.Name dc np)) (some n) (b₀ :: suite) pos' :: hds) (.named b i ts :: ks) := by
  obtain ⟨C, h1, h2⟩ := T.ex
  obtain ⟨l, hv⟩ := r
  exact ⟨_, .cons (c := .ref C) (k := .named b i ts) ⟨hg, hdb, .inl h1⟩ ⟨hi, hl⟩ h2 hsu hv⟩
theorem stryE {cs : List Str} {body : List Stmt} {h₀ : ExceptHandler} {hds : List ExceptHandler} {ks : List WCl} {t : WS} (hN : X.N.Nodup) (tk : Takes X (wxV X.mg as.2.2)) (F : ErF X.K X.mg cs)
    (hb : ∀ (W : Str → V → L2.St → Hp → Prop) (pn : List (Addr × Obj)) (xe : Value → Shared → Prop), Takes (X.tr pn xe) (wxV X.mg W) → PSs (X.tr pn xe) body (upS X.K (as.1, as.2.1, W) t)) (hh : ClsE X as cs (h₀ :: hds) ks) (hs : X.stack = X.env :: X.outer := by rfl) (hf : X.env.frame = some X.env.locals := by rfl) :
    PS X (.Try body (h₀ :: hds) [] [] pos) (upS X.K as (wTry cs t ks)) := by
  obtain ⟨l, hv⟩ := hh
  exact stry hN tk F hb hv hs hf
end
end VL
end
section
set_option autoImplicit false
set_option maxRecDepth 100000
set_option maxHeartbeats 2000000
namespace VL
open PySem PySem.Spec PyProof.Rows L2
end VL
end
section
set_option autoImplicit false
set_option maxRecDepth 100000
set_option maxHeartbeats 2000000
namespace VL
open PySem PySem.Spec PyProof.Rows L2
theorem DqAll.bls {K : Fg} {B : Hp} : ∀ {xs : List V} {bs : List Bool}, DqAll K B xs (bs.map PyData.bool) → xs = bs.map V.bl
  | _, [], .nil => rfl
  | _, n :: r, .cons h t => by
    cases h
    rw [DqAll.bls t]
    rfl
/-- a list of truths -/
def boolsOf : List D → Option (List Bool)
  | [] => some []
  | .bool b :: r => (boolsOf r).map (b :: ·)
  | _ :: _ => none
theorem boolsOf_map : ∀ {ds : List D} {bs : List Bool}, boolsOf ds = some bs → ds = bs.map PyData.bool
  | [], bs, h => by
    cases h
    rfl
  | d :: r, bs, h => by
    obtain ⟨b, rfl⟩ : ∃ b, d = .bool b := by
      cases d
      case bool b => exact ⟨b, rfl⟩
      all_goals (exact absurd h (by simp [boolsOf]))
    simp only [boolsOf, Option.map_eq_some_iff] at h
    obtain ⟨cs, h1, rfl⟩ := h
    rw [boolsOf_map h1]
    rfl
theorem boolsOf_bls : ∀ bs : List Bool, boolsOf (bs.map PyData.bool) = some bs
  | [] => rfl
  | b :: r => by
    rw [List.map_cons]
    simp only [boolsOf, boolsOf_bls r, Option.map_some]
def oAllL : DC := fun ds P => match ds with
  | [.list xs] => ∃ bs, boolsOf xs = some bs ∧ P (.bool (bs.all id))
  | _ => False
theorem cv_allL {K : Fg} : CallV K (rAll K) oAllL := by
  intro B H vs ds P Q e a c k
  unfold oAllL at c
  split at c
  · obtain ⟨v, rfl, b⟩ := a.one
    obtain ⟨bs, e1, c⟩ := c
    have e2 := boolsOf_map e1
    subst e2
    obtain ⟨l, xs, rfl, h1, r1⟩ := b.list e
    rw [r1.bls] at h1
    exact ⟨l, bs, rfl, h1, k _ _ _ _ c .no (.bl _)⟩
  · exact c.elim
section
variable {X : Cx} {as : As} {x : Str}
def rGetL : V → V → Hp → VK → Prop := fun o i H Q => ∃ p xs k j v, o = .ref p ∧ i = .int k ∧ H p = some (.lst xs) ∧ ixN xs.length k = some j ∧ xs[j]? = some v ∧ Q v H
theorem get_list : PGet X rGetL := by
  intro pins s σ H o i ov iv Q I ro ri h
  obtain ⟨p, xs, k, j, z, rfl, rfl, hp, hj, hv, q⟩ := h
  cases ro
  obtain ⟨t, rfl⟩ := ri
  obtain ⟨its, r, pl, hz⟩ := I.list (xs := xs) (.inl (.inl hp))
  obtain ⟨h1, h3, h4, h5⟩ := ixN_seq hj
  obtain ⟨w, ew, rw'⟩ := r.get hv
  have hl := r.length
  have hn := line63
  have fin : EP X pins σ Q w s := ⟨z, H, I, rw', q⟩
  by_cases h0 : 0 ≤ k
  · have e : k.toNat = j := by
      rw [seqIndex_of h0 h5] at h1
      exact Option.some.inj h1
    exact wpAny_getItem_list pl.isList h0 (by omega) (by rw [e]; simpa using ew) fin
  · have e : (k + (its.toArray.size : Int)).toNat = j := by
      rw [seqIndex_neg (by omega) h4] at h1
      rw [List.size_toArray, ← hl]
      exact Option.some.inj h1
    exact wpAny_getItem_list_neg pl.isList (by omega) (by rw [List.size_toArray] <;> omega) (by omega) (by rw [e]; simpa using ew) fin
/-- x[k] += e of ints -/
def wAugIt (f : Int → Int → Int) (i : Nat) (u t : WE) : WS := fun w ρ => (∃ io ds, ρ[i]? = some (.lst io ds)) ∧ u ρ fun c2 ρ1 => ∃ k j io ds n, c2 = .d (.int k) ∧ ρ1[i]? = some (.lst io ds) ∧ ixN ds.length k = some j ∧ ds[j]? = some (.int n) ∧
  t ρ1 fun c ρ2 => ∃ m io' ds' j', c = .d (.int m) ∧ ρ2[i]? = some (.lst io' ds') ∧ ixN ds'.length k = some j' ∧ w.nx (ρ2.set i (.lst io' (ds'.set j' (.int (f n m)))))
theorem saugit {f : Int → Int → Int} {op : Operator} {b e : Expr} {u t : WE} {pos : Pos} (i : Nat) {p1 p2 : Pos} (hp : PIp X op (ipI f)) (hk : PE X b (up X.K as u)) (he : PE X e (up X.K as t)) (hN : X.N[i]? = some x := by rfl) (hv : Vis X.env.scope x := by first | exact Or.inl rfl | exact Or.inr (Or.inl rfl) | exact Or.inr (Or.inr rfl)) (hd : (x == ("__debug__" : Str)) = false := by decide) (hcd : (x == ("__classdict__" : Str)) = false := by decide)
    (ha : ∀ ov iv new, augStore b ov iv new = (do holding [new, ov, iv] (setItem ov iv new); release [new, ov, iv] []; pure PySem.Flow.next) := by intros; rfl) : PS X (.AugAssign (.Subscript (.Name x p1) b p2) op e pos) (upS X.K as (wAugIt f i u t)) := by
  refine ps_imp (ps_augS (pe_var hN hv hd hcd) hk get_list he hp set_list ha) fun D σ H ⟨Z, ρ, B, w, S, h, m⟩ => ?_
  obtain ⟨⟨io, ds, h0⟩, h⟩ := h
  obtain ⟨p, xs, q1, q2, q3⟩ := own_at S h0
  refine ⟨.ref p, q1, Z, ρ, B, _, S, h, fun c2 ρ1 v2 B1 H1 h1 x1 S1 o1 => ?_⟩
  obtain ⟨k, j, io1, ds1, n, rfl, h2, h3, h4, h5⟩ := h1
  cases o1
  obtain ⟨p1, ys, r1, r2, r3⟩ := own_at S1 h2
  rw [q1] at r1
  cases r1
  obtain ⟨y, hy, ry⟩ := r3.get h4
  cases ry
  refine ⟨p, ys, k, j, .int n, rfl, rfl, r2, by rw [r3.len]; exact h3, hy, Z, ρ1, B1, _, S1, h5, fun c ρ2 v B2 H2 h6 x2 S2 o2 => ?_⟩
  obtain ⟨m', io', ds', j', rfl, h7, h8, h9⟩ := h6
  cases o2
  obtain ⟨p2, zs, t1, t2, t3⟩ := own_at S2 h7
  rw [q1] at t1
  cases t1
  exact ⟨n, m', rfl, rfl, p, zs, k, j', rfl, rfl, t2, by rw [t3.len]; exact h8, m.nx _ _ B2 _ h9 (x1.trans x2) (S2.store h7 q1 (DqAll.set _ t3 (.int _)))⟩
end
end VL
end
section
set_option autoImplicit false
set_option maxRecDepth 100000
set_option maxHeartbeats 2000000
namespace VL
open PySem PySem.Spec PyProof.Rows L2
theorem keys_of {K : Fg} {B : Hp} : ∀ {xs : List V} {k : List Key}, DqAll K B xs (k.map keyD) → xs = k.map kV
  | _, [], .nil => rfl
  | _, k :: r, .cons h t => by
    rw [Dq.key h, keys_of t]
    rfl
section
variable {X : Cx} {as : As} {x : Str} {a b e : Expr} {pos : Pos} {u t : WE} {ta tb : TE}
theorem dit_at {K : Fg} {Z : Hp} {ρ : En} {σ : L2.St} {B H : Hp} (S : Sv K as Z ρ σ B H) {i : Nat} {kvs : List (List Key × D)} (h : ρ[i]? = some (.dit kvs)) : ∃ p vs, σ[i]? = some (some (V.ref p)) ∧ H p = some (.dT vs) ∧ DqKV K B vs kvs := by
  obtain ⟨p, h1, _, vs, h2, h3⟩ := S.own i _ h rfl
  exact ⟨p, vs, h1, h2, h3⟩
def wTnew (i : Nat) : WS := fun w ρ => i < ρ.length ∧ w.nx (ρ.set i (.dit []))
theorem stnew {i : Nat} {x : Str} {pos' p2 : Pos} (hN : X.N.Nodup) (hi : X.N[i]? = some x := by rfl) (hx : Loc X.env.scope x := by first | exact Or.inl rfl | exact Or.inr rfl) (hs : swapsWith (.Dict [] [] p2) (some (.Name x pos')) pos.line X.env = pure false := by rfl) (hf : X.fn x = true ∨ X.env.scope.names.lookup x = some .local := by first | exact .inl rfl | exact .inr rfl | assumption) :
    PS X (.Assign [.Name x pos'] (.Dict [] [] p2) pos) (upS X.K as (wTnew i)) := by
  refine ps_imp (ps_set hN hi hx pe_dnewT hs hf) fun D σ H ⟨Z, ρ, B, w, S, h, m⟩ => fun p hp => ?_
  obtain ⟨B2, e2, S2, _⟩ := S.drop i
  exact m.nx _ _ B2 _ h.2 e2 (S2.putOwn hp rfl (fun ds z => by cases z) h.1 ⟨[], upd_same, .nil⟩)
end
end VL
end
section
set_option autoImplicit false
set_option maxRecDepth 100000
set_option maxHeartbeats 2000000
namespace VL
open PySem PySem.Spec PyProof.Rows L2
end VL
end
section
set_option autoImplicit false
set_option maxRecDepth 100000
set_option maxHeartbeats 2000000
namespace VL
open PySem PySem.Spec PyProof.Rows L2 GenW GxR
end VL
end
section
set_option autoImplicit false
set_option maxRecDepth 100000
set_option maxHeartbeats 2000000
namespace VL
open PySem PySem.Spec PyProof.Rows L2 GenW GxR
end VL
end
section
set_option autoImplicit false
set_option maxRecDepth 100000
set_option maxHeartbeats 2000000
namespace VL
open PySem PySem.Spec PyProof.Rows L2 GenW GxR
end VL
end
section
set_option autoImplicit false
set_option maxRecDepth 100000
set_option maxHeartbeats 2000000
namespace VL
open PySem PySem.Spec PyProof.Rows L2 GenW GxR
end VL
end
section
set_option autoImplicit false
set_option maxRecDepth 100000
set_option maxHeartbeats 2000000
namespace VL
open PySem PySem.Spec PyProof.Rows L2
end VL
end
section
set_option autoImplicit false
set_option maxRecDepth 100000
set_option maxHeartbeats 2000000
namespace VL
open PySem PySem.Spec PyProof.Rows L2
def dctD (kvs : List (Key × D)) : D := .dict (kvs.map fun kv => (keyD kv.1, kv.2))
theorem keyD_inj : ∀ {k j : Key}, keyD k = keyD j → k = j
  | .inl a, .inl b, h => by
    injection h with h
    rw [h]
  | .inr a, .inr b, h => by
    injection h with h
    rw [h]
  | .inl a, .inr b, h => by cases h
  | .inr a, .inl b, h => by cases h
end VL
end
section
set_option autoImplicit false
set_option maxRecDepth 100000
set_option maxHeartbeats 2000000
namespace VL
open PySem PySem.Spec PyProof.Rows L2
def wordD : D → Bool
  | .int _ => true
  | .str _ => true
  | _ => false
def layPs : List (D × D) → Bool
  | [] => true
  | (k, d) :: r => (PyData.canLay0 d && wordD k) && layPs r
/-- a thing without dicts, or a dict of such -/
def houseD : D → Bool
  | .dict kvs => layPs kvs
  | d => PyData.canLay0 d
end VL
end
section
set_option autoImplicit false
set_option maxRecDepth 100000
set_option maxHeartbeats 2000000
namespace VL
open PySem PySem.Spec PyProof.Rows L2
/-- data without dicts, of that depth, shown in so many signs -/
structure Rs (k m : Nat) (d : D) : Prop where
  lay : PyData.canLay0 d = true
  sh : PyData.showable d = true
  dep : PyData.depth d ≤ k
  len : (PyData.shown d).length ≤ m
theorem Rs.mono {k m k' m' : Nat} {d : D} (h : Rs k m d) (hk : k ≤ k') (hm : m ≤ m') : Rs k' m' d := ⟨h.lay, h.sh, Nat.le_trans h.dep hk, Nat.le_trans h.len hm⟩
theorem Rs.int {x : Int} (h : x.natAbs.log2 < 64) : Rs 0 65 (.int x) := by
  refine ⟨rfl, ?_, Nat.le_refl _, ?_⟩
  · simp only [PyData.showable]
    exact decide_eq_true (by omega)
  · have := int_text_length_le (a := x) (k := 64) (by decide) h
    simp only [PyData.shown]
    rw [PySem.ofString_length]
    exact this
theorem rs_all {k m : Nat} : ∀ {ds : List D}, (∀ d ∈ ds, Rs k m d) → PyData.canLayAll0 ds = true ∧ PyData.showableAll ds = true ∧ PyData.depthAll ds ≤ k ∧ ((PyData.shownAll ds).map (·.length)).sum ≤ m * ds.length ∧ (PyData.shownAll ds).length = ds.length
  | [], _ => ⟨rfl, rfl, Nat.zero_le _, Nat.zero_le _, rfl⟩
  | d :: r, h => by
    obtain ⟨a, b, c, e, f⟩ := rs_all (ds := r) fun x m => h x (List.mem_cons_of_mem _ m)
    have hd := h d (List.mem_cons_self ..)
    refine ⟨by simp only [PyData.canLayAll0, hd.lay, a, Bool.and_self], by simp only [PyData.showableAll, hd.sh, b, Bool.and_self], ?_, ?_, ?_⟩
    · simp only [PyData.depthAll]
      have := hd.dep
      omega
    · simp only [PyData.shownAll, List.map_cons, List.sum_cons, List.length_cons]
      have := hd.len
      rw [Nat.mul_succ]
      omega
    · simp only [PyData.shownAll, List.length_cons, f]
theorem Rs.tup {k m n : Nat} {ds : List D} (h : ∀ d ∈ ds, Rs k m d) (l : ds.length ≤ n) : Rs (k + 1) ((m + 2) * n + 3) (.tuple ds) := by
  obtain ⟨a, b, c, e, f⟩ := rs_all h
  refine ⟨by simpa only [PyData.canLay0] using a, by simpa only [PyData.showable] using b, by simp only [PyData.depth]; omega, ?_⟩
  simp only [PyData.shown]
  have t := tupleText_len_le (PyData.shownAll ds)
  have u : (m + 2) * ds.length ≤ (m + 2) * n := Nat.mul_le_mul_left _ l
  rw [Nat.add_mul] at u
  omega
theorem Rs.lst {k m n : Nat} {ds : List D} (h : ∀ d ∈ ds, Rs k m d) (l : ds.length ≤ n) : Rs (k + 1) ((m + 2) * n + 3) (.list ds) := by
  obtain ⟨a, b, c, e, f⟩ := rs_all h
  refine ⟨by simpa only [PyData.canLay0] using a, by simpa only [PyData.showable] using b, by simp only [PyData.depth]; omega, ?_⟩
  simp only [PyData.shown]
  have t := listText_len_le (PyData.shownAll ds)
  have u : (m + 2) * ds.length ≤ (m + 2) * n := Nat.mul_le_mul_left _ l
  rw [Nat.add_mul] at u
  omega
/-- a house: of that depth, shown in so many signs -/
structure Rh (k m : Nat) (d : D) : Prop where
  house : houseD d = true
  sh : PyData.showable d = true
  dep : PyData.depth d ≤ k
  len : (PyData.shown d).length ≤ m
theorem rh_kv {k m : Nat} : ∀ {kvs : List (Key × D)}, (∀ kv ∈ kvs, Rs k m kv.2 ∧ (PyData.shown (keyD kv.1)).length ≤ 40 ∧ PyData.showable (keyD kv.1) = true) →
    layPs (kvs.map fun kv => (keyD kv.1, kv.2)) = true ∧ PyData.showableKv (kvs.map fun kv => (keyD kv.1, kv.2)) = true ∧ PyData.depthKv (kvs.map fun kv => (keyD kv.1, kv.2)) ≤ k ∧ ((PyData.shownKv (kvs.map fun kv => (keyD kv.1, kv.2))).map (·.length)).sum ≤ (m + 42) * kvs.length ∧ (PyData.shownKv (kvs.map fun kv => (keyD kv.1, kv.2))).length = kvs.length
  | [], _ => ⟨rfl, rfl, Nat.zero_le _, Nat.zero_le _, rfl⟩
  | kv :: r, h => by
    obtain ⟨a, b, c, e, f⟩ := rh_kv (kvs := r) fun x m => h x (List.mem_cons_of_mem _ m)
    obtain ⟨hd, hk, hs⟩ := h kv (List.mem_cons_self ..)
    have w : wordD (keyD kv.1) = true := by cases kv.1 <;> rfl
    have dk : PyData.depth (keyD kv.1) = 0 := by cases kv.1 <;> rfl
    refine ⟨?_, ?_, ?_, ?_, ?_⟩
    · show ((PyData.canLay0 kv.2 && wordD (keyD kv.1)) && layPs _) = true
      rw [hd.lay, w, a]
      rfl
    · simp only [List.map_cons, PyData.showableKv, hs, hd.sh, b, Bool.and_self]
    · simp only [List.map_cons, PyData.depthKv, dk]
      have := hd.dep
      omega
    · simp only [List.map_cons, PyData.shownKv, List.sum_cons, List.length_cons, strLen_append]
      have := hd.len
      have t : (": " : Str).length = 2 := by decide +kernel
      rw [Nat.mul_succ]
      omega
    · simp only [List.map_cons, PyData.shownKv, List.length_cons, f]
theorem Rh.of {k m n : Nat} {kvs : List (Key × D)} (h : ∀ kv ∈ kvs, Rs k m kv.2 ∧ (PyData.shown (keyD kv.1)).length ≤ 40 ∧ PyData.showable (keyD kv.1) = true) (l : kvs.length ≤ n) : Rh (k + 1) ((m + 44) * n + 3) (dctD kvs) := by
  obtain ⟨a, b, c, e, f⟩ := rh_kv h
  refine ⟨a, by unfold dctD; simpa only [PyData.showable] using b, by unfold dctD; simp only [PyData.depth]; omega, ?_⟩
  unfold dctD
  simp only [PyData.shown]
  have t := dictText_len_le (PyData.shownKv (kvs.map fun kv => (keyD kv.1, kv.2)))
  have u : (m + 44) * kvs.length ≤ (m + 44) * n := Nat.mul_le_mul_left _ l
  rw [Nat.add_mul] at u e
  omega
end VL
end
section
set_option autoImplicit false
set_option maxRecDepth 100000
set_option maxHeartbeats 2000000
namespace VL
open PySem PySem.Spec PyProof.Rows L2
/-- Zi hides besides Z the lists at qs, which hold dss -/
inductive InnZ (K : Fg) (B Z : Hp) : Hp → List Addr → List (List D) → Prop
  | nil : InnZ K B Z Z [] []
  | snoc {Zi : Hp} {q : Addr} {ys : List V} {ds : List D} {qs : List Addr} {dss : List (List D)} (h : InnZ K B Z Zi qs dss) (n : Zi q = none) (r : DqAll K B ys ds) : InnZ K B Z (upd Zi q (.lst ys)) (qs ++ [q]) (dss ++ [ds])
section
variable {K : Fg} {as : As} {B Z Zi : Hp} {qs : List Addr} {dss : List (List D)}
theorem InnZ.ext {B' : Hp} (h : InnZ K B Z Zi qs dss) (e : ExT B B') : InnZ K B' Z Zi qs dss := by
  induction h with
  | nil => exact .nil
  | snoc _ n r ih => exact .snoc ih n (DqAll.ext e r)
theorem InnZ.len (h : InnZ K B Z Zi qs dss) : qs.length = dss.length := by
  induction h with
  | nil => rfl
  | snoc _ _ _ ih => rw [List.length_append, List.length_append, ih]; rfl
theorem InnZ.keep (h : InnZ K B Z Zi qs dss) {a : Addr} {o : HO} (e : Z a = some o) : Zi a = some o := by
  induction h with
  | nil => exact e
  | snoc _ n _ ih => rw [upd_ne (ne_of_none ih n)]; exact ih
theorem InnZ.out (h : InnZ K B Z Zi qs dss) {a : Addr} (n : a ∉ qs) : Zi a = Z a := by
  induction h with
  | nil => rfl
  | @snoc Zi q ys ds qs dss h2 n2 r ih =>
    rw [upd_ne (fun z => n (by rw [z]; exact List.mem_append_right _ (List.mem_singleton.mpr rfl)))]
    exact ih fun m => n (List.mem_append_left _ m)
theorem InnZ.mem (h : InnZ K B Z Zi qs dss) {a : Addr} (m : a ∈ qs) : Z a = none ∧ Zi a ≠ none := by
  induction h with
  | nil => cases m
  | @snoc Zi q ys ds qs dss h2 n2 r ih =>
    rcases List.mem_append.mp m with m | m
    · obtain ⟨h3, h4⟩ := ih m
      refine ⟨h3, ?_⟩
      by_cases z : a = q
      · rw [z, upd_same]
        exact fun z => by cases z
      · rw [upd_ne z]
        exact h4
    · rw [List.mem_singleton.mp m, upd_same]
      refine ⟨?_, fun z => by cases z⟩
      cases e : Z q with
      | none => rfl
      | some o =>
        rw [h2.keep e] at n2
        cases n2
theorem Inn.snoc {H : Hp} (h : Inn K B H qs dss) {q : Addr} {ds : List D} (b : B q = none) (k : ∃ xs, H q = some (.lst xs) ∧ DqAll K B xs ds) : Inn K B H (qs ++ [q]) (dss ++ [ds]) := by
  induction h with
  | nil => exact .cons b k .nil
  | cons b1 h1 r ih => exact .cons b1 h1 ih
end
section
variable {X : Cx} {as : As} {b e : Expr} {u t : WE} {pos : Pos} {x : Str}
theorem Inn.at {K : Fg} {B H : Hp} {qs : List Addr} {dss : List (List D)} (h : Inn K B H qs dss) {k : Nat} {ds : List D} (e : dss[k]? = some ds) : ∃ q xs, qs[k]? = some q ∧ B q = none ∧ H q = some (.lst xs) ∧ DqAll K B xs ds := by
  induction h generalizing k with
  | nil => cases e
  | @cons q ds0 qs dss b h r ih =>
    cases k with
    | zero =>
      obtain ⟨xs, h1, h2⟩ := h
      cases e
      exact ⟨q, xs, rfl, b, h1, h2⟩
    | succ k => exact ih e
theorem Inn.put {K : Fg} {B H : Hp} {qs : List Addr} {dss : List (List D)} (h : Inn K B H qs dss) (nd : qs.Nodup) {k : Nat} {q : Addr} {ds : List D} {ys : List V} (e : qs[k]? = some q) (r : DqAll K B ys ds) : Inn K B (upd H q (.lst ys)) qs (dss.set k ds) := by
  induction h generalizing k with
  | nil => cases e
  | @cons q0 ds0 qs dss b h0 r0 ih =>
    obtain ⟨nq, nd2⟩ := List.nodup_cons.mp nd
    cases k with
    | zero =>
      cases e
      refine .cons b ⟨ys, upd_same, r⟩ (r0.ext (.refl B) fun a m => ⟨(r0.mem m).1, upd_ne fun z => nq (z ▸ m)⟩)
    | succ k =>
      have e' : qs[k]? = some q := e
      have ne : q0 ≠ q := fun z => nq (by rw [z]; exact List.mem_of_getElem? e')
      obtain ⟨xs, h1, h2⟩ := h0
      exact .cons b ⟨xs, by rw [upd_ne ne]; exact h1, h2⟩ (ih nd2 e')
theorem atI_nat {α : Type} {l : List α} {k : Nat} {v : α} (h : l[k]? = some v) : atI l (k : Int) = some v := by
  obtain ⟨hk, _⟩ := List.getElem?_eq_some_iff.mp h
  unfold atI
  rw [show ixN l.length (k : Int) = some k by simp [ixN]; omega]
  exact h
end
end VL
end
section
set_option autoImplicit false
set_option maxRecDepth 100000
set_option maxHeartbeats 2000000
namespace VL
open PySem PySem.Spec PyProof.Rows L2
end VL
end
section
set_option autoImplicit false
set_option maxRecDepth 100000
set_option maxHeartbeats 2000000
namespace VL
open PySem PySem.Spec PyProof.Rows L2
end VL
end
section
set_option autoImplicit false
set_option maxRecDepth 100000
set_option maxHeartbeats 2000000
namespace VL
open PySem PySem.Spec PyProof.Rows L2
end VL
end
section
set_option autoImplicit false
set_option maxRecDepth 100000
namespace VL
open PySem PySem.Spec PyProof.Rows L2
end VL
end
section
set_option autoImplicit false
set_option maxRecDepth 100000
set_option maxHeartbeats 2000000
namespace VL
open PySem PySem.Spec PyProof.Rows L2
end VL
end
section
set_option autoImplicit false
set_option maxRecDepth 100000
set_option maxHeartbeats 2000000
namespace VL
open PySem PySem.Spec PyProof.Rows L2
/-- a dict with tuple keys, for good, as data -/
def dttD (kvs : List (List Key × D)) : D := .dict ((.dict [], .dict []) :: kvs.map fun kv => (keyT kv.1, kv.2))
theorem keyDs_inj : ∀ {k j : List Key}, k.map keyD = j.map keyD → k = j
  | [], [], _ => rfl
  | [], _ :: _, h => by cases h
  | _ :: _, [], h => by cases h
  | a :: k, b :: j, h => by
    injection h with h1 h2
    rw [keyD_inj h1, keyDs_inj h2]
theorem keyT_inj {k j : List Key} (h : keyT k = keyT j) : k = j := by
  unfold keyT at h
  injection h with h
  exact keyDs_inj h
theorem DqPT.kv {K : Fg} {B : Hp} : ∀ {vs : List (List Key × V)} {kvs : List (List Key × D)}, DqPT K B vs (kvs.map fun kv => (keyT kv.1, kv.2)) → DqKV K B vs kvs
  | [], [], _ => .nil
  | [], _ :: _, h => by cases h
  | _ :: _, [], h => by cases h
  | (k, v) :: vs, (j, d) :: kvs, h => by
    rw [List.map_cons] at h
    generalize hx : keyT j = x at h
    cases h with
    | cons h1 h2 =>
      obtain rfl := keyT_inj hx
      exact .cons h1 (DqPT.kv h2)
theorem DqKV.pt {K : Fg} {B : Hp} : ∀ {vs : List (List Key × V)} {kvs : List (List Key × D)}, DqKV K B vs kvs → DqPT K B vs (kvs.map fun kv => (keyT kv.1, kv.2))
  | _, _, .nil => .nil
  | _, _, .cons h1 h2 => .cons h1 (DqKV.pt h2)
theorem no_mark {K : Fg} {B : Hp} {vs : List (Key × V)} {ds : List (D × D)} (h : DqPs K B vs ds) : ∀ (d : D) (r : List (D × D)), ds ≠ (.dict [], d) :: r := by
  intro d r e
  cases h with
  | nil => cases e
  | @cons k v d' r' s a b =>
    injection e with e _
    injection e with e _
    cases k <;> cases e
theorem dtt_of {K : Fg} {B : Hp} {v : V} {kvs : List (List Key × D)} (h : Dq K B v (dttD kvs)) : ∃ a o vs, v = .ref a ∧ B a = some (.frz o (.dT vs)) ∧ DqKV K B vs kvs := by
  unfold dttD at h
  generalize hd : (((PyData.dict [] : D), (PyData.dict [] : D)) :: kvs.map fun kv => (keyT kv.1, kv.2)) = ds at h
  cases h with
  | dtt h1 h2 =>
    injection hd with _ hd
    subst hd
    exact ⟨_, _, _, rfl, h1, DqPT.kv h2⟩
  | dct h1 h2 => exact (no_mark h2 _ _ hd.symm).elim
  | st h1 h2 =>
    exfalso
    injection hd with h3 _
    injection h3 with h3 _
    cases h3
theorem key_tr {K : Fg} {B H : Hp} {v : V} {k : List Key} (e : ∀ a o, B a = some o → H a = some o) (h : Dq K B v (keyT k)) : ∃ c, v = .ref c ∧ H c = some (.tup (k.map kV)) := by
  cases h with
  | tup h1 h2 =>
    rw [keys_of h2] at h1
    exact ⟨_, rfl, e _ _ h1⟩
/-- the dict of an own cell becomes a thing of all, as it stands from then on -/
theorem Sv.give {K : Fg} {as : As} {Z : Hp} {ρ : En} {σ : L2.St} {B H : Hp} (S : Sv K as Z ρ σ B H) {i : Nat} {p : Addr} {kvs : List (List Key × D)} (hi : ρ[i]? = some (.dit kvs)) (hp : σ[i]? = some (some (V.ref p))) (o : HO) :
    ExT B (upd B p o) ∧ Sv K as Z (ρ.set i .un) σ (upd B p o) (upd H p o) := by
  obtain ⟨p', q1, bp, _⟩ := S.own i _ hi rfl
  rw [hp] at q1
  cases q1
  have e : ExT B (upd B p o) := .new bp
  obtain ⟨B', e', S', eB⟩ := S.drop i
  have eB' := eB _ hi rfl p hp
  have off : ∀ {j : Nat} {c : Cell} {a : Addr}, i ≠ j → ρ[j]? = some c → VL.own c = true → Hl σ j c a → a ≠ p := fun {j c a} n hj hc hl z => n (S.one i j _ c p hi hj rfl hc (.inl hp) (z ▸ hl))
  refine ⟨e, S'.len, fun j d h => ?_, fun j c h hc => ?_, S'.one, fun a n z => ?_, fun a u z => ?_, S'.io, fun P m => e.tabs P (S.tab P m)⟩
  · rcases env_set h with ⟨_, z, _⟩ | ⟨n, h⟩
    · cases z
    · obtain ⟨v, h1, h2⟩ := S.dat j d h
      exact ⟨v, h1, Dq.ext e h2⟩
  · rcases env_set h with ⟨_, z, _⟩ | ⟨n, h⟩
    · rw [z] at hc
      cases hc
    · obtain ⟨p', h1, h2, h3⟩ := S.own j c h hc
      have np : p' ≠ p := off n h hc (.inl h1)
      refine ⟨p', h1, by rw [upd_ne np]; exact h2, OwnAt.ext e (upd_ne np) (fun a m => ?_) h3⟩
      have na : a ≠ p := off n h hc (.inr m)
      rw [upd_ne na, upd_ne na]
      exact ⟨(h3.inner m).1, rfl⟩
  · by_cases w : a = p
    · rw [w, upd_same, upd_same]
    · rw [upd_ne w, upd_ne w]
      have := S'.off a n z
      rw [this, eB']
      show (if a = p ∨ a ∈ ([] : List Addr) then H a else B a) = B a
      rw [if_neg (fun q => q.elim w (fun q => nomatch q))]
  · obtain ⟨h1, h2, h3, h4⟩ := S'.hid a u z
    have na : a ≠ p := fun w => by
      obtain ⟨_, hq, _⟩ := (S.own i _ hi rfl)
      rw [w, eB'] at h2
      have h2' : (if p = p ∨ p ∈ ([] : List Addr) then H p else B p) = none := h2
      rw [if_pos (.inl rfl), ← w, h1] at h2'
      cases h2'
    rw [upd_ne na, upd_ne na]
    refine ⟨h1, ?_, h3, h4⟩
    have h2' : (if a = p ∨ a ∈ ([] : List Addr) then H a else B a) = none := by rw [← h2, eB']; rfl
    rwa [if_neg (fun q => q.elim na (fun q => nomatch q))] at h2'
section
variable {X : Cx} {as : As} {x : Str} {a b e : Expr} {pos : Pos} {u t : WE}
/-- a name whose dict is locked from here on -/
def tFrz (i : Nat) : TE := fun σ H Q => ∃ p vs, σ[i]? = some (some (V.ref p)) ∧ H p = some (.dT vs) ∧ ∀ o, Q (.ref p) (upd H p (.frz o (.dT vs)))
theorem pe_frz {i : Nat} (h : PE X (.Name x pos) (tVar i)) : PE X (.Name x pos) (tFrz i) := by
  constructor
  rintro pins s σ H Q I ⟨p, vs, h1, h2, q⟩
  refine thn (h.run pins s σ H (fun v H' => v = .ref p ∧ H' = H) I ⟨_, h1, rfl, rfl⟩) ?_
  rintro u s1 ⟨v, H1, I1, r, rfl, rfl⟩
  obtain ⟨o, I2⟩ := I1.lock h2 True.intro
  exact ⟨_, _, I2, r, q o⟩
/-- an own dict with tuple keys, handed on for good -/
def wFrzT (i : Nat) : WE := fun ρ P => ∃ kvs, ρ[i]? = some (.dit kvs) ∧ P (.d (dttD kvs)) (ρ.set i (.dat (dttD kvs)))
theorem vfrzT (i : Nat) (hN : X.N[i]? = some x := by rfl) (hv : Vis X.env.scope x := by first | exact Or.inl rfl | exact Or.inr (Or.inl rfl) | exact Or.inr (Or.inr rfl)) (hd : (x == ("__debug__" : Str)) = false := by decide)
    (hcd : (x == ("__classdict__" : Str)) = false := by decide) : PE X (.Name x pos) (up X.K as (wFrzT i)) := by
  refine pe_imp (pe_frz (pe_var hN hv hd hcd)) fun σ H Q ⟨Z, ρ, B, P, S, h, k⟩ => ?_
  obtain ⟨kvs, h0, h⟩ := h
  obtain ⟨p, vs, q1, q2, q3⟩ := dit_at S h0
  refine ⟨p, vs, q1, q2, fun o => ?_⟩
  obtain ⟨e, S1⟩ := S.give h0 q1 (.frz o (.dT vs))
  have hd : Dq X.K (upd B p (.frz o (.dT vs))) (.ref p) (dttD kvs) := .dtt upd_same (DqKV.pt (DqKV.ext e q3))
  have S2 := S1.put hd
  have es : σ.set i (some (V.ref p)) = σ := by
    refine List.ext_getElem? fun j => ?_
    by_cases ij : i = j
    · subst ij
      rw [st_set_same (List.getElem?_eq_some_iff.mp q1).1, q1]
    · rw [st_set ij]
  rw [es] at S2
  exact k _ _ _ _ _ h e S2 hd
end
end VL
end
section
set_option autoImplicit false
set_option maxRecDepth 100000
set_option maxHeartbeats 2000000
namespace VL
open PySem PySem.Spec PyProof.Rows L2
section
variable {X : Cx} {as : As} {x : Str} {a b c e f : Expr} {pos p1 apos : Pos} {s u t : WE}
/-- x.get(k, default), x an own dict -/
def wTGet2 (i : Nat) (u t : WE) : WE := fun ρ P => (∃ kvs, ρ[i]? = some (.dit kvs)) ∧ u ρ fun c1 ρ1 => ∃ k, c1 = .d (keyT k) ∧ t ρ1 fun c2 ρ2 => ∃ z kvs, c2 = .d z ∧ ρ2[i]? = some (.dit kvs) ∧ P (.d ((valD kvs k).getD z)) ρ2
theorem vtget2 (i : Nat) (hu : X.A.units + 1 < cLine) (he : PE X e (up X.K as u)) (hf : PE X f (up X.K as t)) (hN : X.N[i]? = some x := by rfl) (hv : Vis X.env.scope x := by first | exact Or.inl rfl | exact Or.inr (Or.inl rfl) | exact Or.inr (Or.inr rfl)) (hd : (x == ("__debug__" : Str)) = false := by decide)
    (hcd : (x == ("__classdict__" : Str)) = false := by decide) (m : M2 X (.Name x p1) "get" apos e f pos := by exact ⟨rfl, rfl, rfl, rfl⟩) : PE X (.Call (.Attribute (.Name x p1) "get" apos) [e, f] [] pos) (up X.K as (wTGet2 i u t)) := by
  refine pe_imp (pe_dget2 hu (pe_var hN hv hd hcd) he hf m) fun σ H Q ⟨Z, ρ, B, P, S, h, k⟩ => ?_
  obtain ⟨⟨kvs0, h0⟩, h⟩ := h
  obtain ⟨p, vs0, q1, q2, q3⟩ := dit_at S h0
  refine ⟨.ref p, q1, p, rfl, .inr ⟨vs0, .inl q2⟩, Z, ρ, B, _, S, h, fun c1 ρ1 v1 B1 H1 h1 x1 S1 o1 => ?_⟩
  obtain ⟨key, rfl, h1⟩ := h1
  have o1' : Dq X.K B1 v1 (keyT key) := o1
  refine ⟨Z, ρ1, B1, _, S1, h1, fun c2 ρ2 v2 B2 H2 h2 x2 S2 o2 => ?_⟩
  obtain ⟨z, kvs, rfl, h3, h4⟩ := h2
  obtain ⟨kc, rfl, tr⟩ := key_tr S2.subE (Dq.ext x2 o1')
  obtain ⟨p', vs, r1, r2, r3⟩ := dit_at S2 h3
  rw [q1] at r1
  cases r1
  rcases r3.val key with ⟨z1, z2⟩ | ⟨d, vv, z1, z2, z3⟩
  · rw [z1] at h4
    exact ⟨none, .inr ⟨vs, key, kc, .inl r2, rfl, tr, z2.symm⟩, k _ _ v2 B2 H2 h4 (x1.trans x2) S2 o2⟩
  · rw [z1] at h4
    exact ⟨some vv, .inr ⟨vs, key, kc, .inl r2, rfl, tr, z2.symm⟩, k _ _ vv B2 H2 h4 (x1.trans x2) S2 z3⟩
/-- d.get(k, default), d a dict for good -/
def wGGet2 (s u t : WE) : WE := fun ρ P => s ρ fun c0 ρ0 => ∃ kvs, c0 = .d (dttD kvs) ∧ u ρ0 fun c1 ρ1 => ∃ k, c1 = .d (keyT k) ∧ t ρ1 fun c2 ρ2 => ∃ z, c2 = .d z ∧ P (.d ((valD kvs k).getD z)) ρ2
theorem vgget2 (hu : X.A.units + 1 < cLine) (hs : PE X a (up X.K as s)) (he : PE X e (up X.K as u)) (hf : PE X f (up X.K as t)) (m : M2 X a "get" apos e f pos := by exact ⟨rfl, rfl, rfl, rfl⟩) : PE X (.Call (.Attribute a "get" apos) [e, f] [] pos) (up X.K as (wGGet2 s u t)) := by
  refine pe_imp (pe_dget2 hu hs he hf m) fun σ H Q ⟨Z, ρ, B, P, S, h, k⟩ => ⟨Z, ρ, B, _, S, h, fun c0 ρ0 v0 B0 H0 h0 x0 S0 o0 => ?_⟩
  obtain ⟨kvs, rfl, h0⟩ := h0
  have o0' : Dq X.K B0 v0 (dttD kvs) := o0
  obtain ⟨d, od, vs, rfl, f1, f2⟩ := dtt_of o0'
  refine ⟨d, rfl, .inr ⟨vs, .inr ⟨od, S0.sub f1⟩⟩, Z, ρ0, B0, _, S0, h0, fun c1 ρ1 v1 B1 H1 h1 x1 S1 o1 => ?_⟩
  obtain ⟨key, rfl, h1⟩ := h1
  have o1' : Dq X.K B1 v1 (keyT key) := o1
  refine ⟨Z, ρ1, B1, _, S1, h1, fun c2 ρ2 v2 B2 H2 h2 x2 S2 o2 => ?_⟩
  obtain ⟨z, rfl, h4⟩ := h2
  obtain ⟨kc, rfl, tr⟩ := key_tr S2.subE (Dq.ext x2 o1')
  have f1' : H2 d = some (.frz od (.dT vs)) := S2.sub ((x1.trans x2).keep _ _ f1 rfl)
  rcases (DqKV.ext (x1.trans x2) f2).val key with ⟨z1, z2⟩ | ⟨dd, vv, z1, z2, z3⟩
  · rw [z1] at h4
    exact ⟨none, .inr ⟨vs, key, kc, .inr ⟨od, f1'⟩, rfl, tr, z2.symm⟩, k _ _ v2 B2 H2 h4 (x0.trans (x1.trans x2)) S2 o2⟩
  · rw [z1] at h4
    exact ⟨some vv, .inr ⟨vs, key, kc, .inr ⟨od, f1'⟩, rfl, tr, z2.symm⟩, k _ _ vv B2 H2 h4 (x0.trans (x1.trans x2)) S2 z3⟩
/-- d[k], d a dict for good -/
def wGKey (s u : WE) : WE := fun ρ P => s ρ fun c0 ρ0 => ∃ kvs, c0 = .d (dttD kvs) ∧ u ρ0 fun c1 ρ1 => ∃ k y, c1 = .d (keyT k) ∧ valD kvs k = some y ∧ P (.d y) ρ1
theorem vgkey (hu : X.A.units + 1 < cLine) (hs : PE X a (up X.K as s)) (he : PE X e (up X.K as u)) (hns : NoSl e := by exact fun _ _ => rfl) : PE X (.Subscript a e pos) (up X.K as (wGKey s u)) := by
  refine pe_imp (pe_dget hu hs he hns) fun σ H Q ⟨Z, ρ, B, P, S, h, k⟩ => ⟨Z, ρ, B, _, S, h, fun c0 ρ0 v0 B0 H0 h0 x0 S0 o0 => ?_⟩
  obtain ⟨kvs, rfl, h0⟩ := h0
  have o0' : Dq X.K B0 v0 (dttD kvs) := o0
  obtain ⟨d, od, vs, rfl, f1, f2⟩ := dtt_of o0'
  refine ⟨Z, ρ0, B0, _, S0, h0, fun c1 ρ1 v1 B1 H1 h1 x1 S1 o1 => ?_⟩
  obtain ⟨key, y, rfl, hl, h4⟩ := h1
  obtain ⟨kc, rfl, tr⟩ := key_tr S1.subE (show Dq X.K B1 v1 (keyT key) from o1)
  have f1' : H1 d = some (.frz od (.dT vs)) := S1.sub (x1.keep _ _ f1 rfl)
  rcases (DqKV.ext x1 f2).val key with ⟨z1, z2⟩ | ⟨dd, vv, z1, z2, z3⟩
  · rw [hl] at z1
    cases z1
  · rw [hl] at z1
    cases z1
    exact ⟨d, vv, rfl, .inr ⟨vs, key, kc, .inr ⟨od, f1'⟩, rfl, tr, z2.symm⟩, k _ _ vv B1 H1 h4 (x0.trans x1) S1 z3⟩
/-- x[k] = e, x an own dict -/
def wTputK (i : Nat) (u t : WE) : WS := fun w ρ => t ρ fun c ρ1 => ∃ y, c = .d y ∧ (∃ kvs, ρ1[i]? = some (.dit kvs)) ∧ u ρ1 fun c2 ρ2 => ∃ k kvs, c2 = .d (keyT k) ∧ ρ2[i]? = some (.dit kvs) ∧ kvs.length < sizeLine ∧ w.nx (ρ2.set i (.dit (putD kvs k y)))
theorem stputK (i : Nat) {p2 : Pos} (hu : X.A.units + 1 < cLine) (hk : PE X b (up X.K as u)) (he : PE X e (up X.K as t)) (hN : X.N[i]? = some x := by rfl) (hv : Vis X.env.scope x := by first | exact Or.inl rfl | exact Or.inr (Or.inl rfl) | exact Or.inr (Or.inr rfl)) (hd : (x == ("__debug__" : Str)) = false := by decide) (hcd : (x == ("__classdict__" : Str)) = false := by decide)
    (hs : swapsWith e (some (.Subscript (.Name x p1) b p2)) pos.line X.env = pure false := by rfl) (hns : NoSl b := by exact fun _ _ => rfl) : PS X (.Assign [.Subscript (.Name x p1) b p2] e pos) (upS X.K as (wTputK i u t)) := by
  refine ps_imp (ps_dput hu (pe_var hN hv hd hcd) hk he hs) fun E σ H ⟨Z, ρ, B, w, S, h, m⟩ => ⟨Z, ρ, B, _, S, h, fun c ρ1 v B1 H1 h1 x1 S1 o1 => ?_⟩
  obtain ⟨y, rfl, ⟨kvs0, h0⟩, h⟩ := h1
  obtain ⟨p, vs0, q1, q2, q3⟩ := dit_at S1 h0
  refine ⟨.ref p, q1, Z, ρ1, B1, _, S1, h, fun c2 ρ2 v2 B2 H2 h2 x2 S2 o2 => ?_⟩
  obtain ⟨key, kvs, rfl, h3, hl, h5⟩ := h2
  obtain ⟨kc, rfl, tr⟩ := key_tr S2.subE (show Dq X.K B2 v2 (keyT key) from o2)
  obtain ⟨p', vs, t1, t2, t3⟩ := dit_at S2 h3
  rw [q1] at t1
  cases t1
  have rp := t3.put (k := key) (Dq.ext x2 o1)
  exact ⟨p, _, rfl, DPut.t (k := key) t2 tr (by rw [t3.len]; exact hl), m.nx _ _ _ _ h5 (x1.trans x2) (S2.mut h3 rfl q1 rfl (fun ds z => by cases z) ⟨_, upd_same, rp⟩)⟩
end
end VL
end
section
set_option autoImplicit false
set_option maxRecDepth 100000
set_option maxHeartbeats 2000000
namespace VL
open PySem PySem.Spec PyProof.Rows L2
theorem DqKV.at {κ : Type} {K : Fg} {B : Hp} {vs : List (κ × V)} {kvs : List (κ × D)} (r : DqKV K B vs kvs) : ∀ {i : Nat} {k : κ} {v : V}, vs[i]? = some (k, v) → ∃ d, kvs[i]? = some (k, d) ∧ Dq K B v d := by
  induction r with
  | nil => intro i k v h; cases h
  | cons h1 h2 ih =>
    intro i k v h
    cases i with
    | zero =>
      cases h
      exact ⟨_, rfl, h1⟩
    | succ i => exact ih (i := i) h
theorem dq_key {K : Fg} {B : Hp} : ∀ k : Key, Dq K B (kV k) (keyD k)
  | .inl i => .int i
  | .inr x => .str x
theorem dqAll_keys {K : Fg} {B : Hp} : ∀ k : List Key, DqAll K B (k.map kV) (k.map keyD)
  | [] => .nil
  | a :: r => .cons (dq_key a) (dqAll_keys r)
theorem wk_keysT {K : Fg} {B : Hp} {d : Addr} {o : Obj} {vs : List (List Key × V)} {kvs : List (List Key × D)} (h : B d = some (.frz o (.dT vs))) (r : DqKV K B vs kvs) : Wk K (Itkt d o vs) B (kvs.map fun kv => keyT kv.1) where
  go := fun i B1 H x s l => ⟨s _ _ (x.keep _ _ h rfl), by rw [List.length_map] at l; rw [r.len]; exact l⟩
  stop := fun i B1 H x s l => ⟨s _ _ (x.keep _ _ h rfl), by rw [List.length_map] at l; rw [r.len]; exact l⟩
  yld := fun i B1 H v H' x s tt l y => by
    obtain ⟨rfl, k, w, q, h1, rfl, h2⟩ := y
    obtain ⟨d, h3, _⟩ := r.at h1
    refine ⟨keyT k, B1, by rw [List.getElem?_map, h3]; rfl, .no, .tup (tt _ _ h2) (dqAll_keys k)⟩
/-- the pairs of a locked dict with tuple keys -/
def ItIT (d : Addr) (o : Obj) (kvs : List (List Key × V)) : It :=
  ⟨fun i H => H d = some (.frz o (.dT kvs)) ∧ i < kvs.length,
    fun i H x H' => ∃ N k v q, kvs[i]? = some (k, v) ∧ x = .ref N ∧ H q = some (.tup (k.map kV)) ∧ H N = none ∧ H' = upd H N (.tup [.ref q, v]),
    fun i H => H d = some (.frz o (.dT kvs)) ∧ kvs.length ≤ i⟩
theorem frz_pairs {X : Cx} {pins : List (Addr × Obj)} {σ : L2.St} {H : Hp} {s : Shared} {d : Addr} {o : Obj} {kvs : List (List Key × V)} (I : Inv X pins σ H s) (h : H d = some (.frz o (.dT kvs))) :
    (d == sysModules) = false ∧ ∃ es ep, o.data = .dict es ep ∧ s.heap.DictRaw d es ep ∧ es.size = kvs.length ∧ ∀ (i : Nat) (k : List Key) (v : V), kvs[i]? = some (k, v) → ∃ (en : DictEntry) (q : Addr), es[i]? = some en ∧ en.key = .ref q ∧ H q = some (.tup (k.map kV)) ∧ RelV v en.val := by
  obtain ⟨hd, z, hs, xs, pr, o', es, ep, ho, hx, hdat, he, _⟩ := I.hok d _ h
  rw [hd] at ho
  cases ho
  refine ⟨hs, es, ep, hdat, ⟨_, hd, hx, hdat⟩, ?_, fun i k v e => ?_⟩
  · have l1 : es.size = xs.length := size_of_entries he
    have l2 : kvs.length = xs.length := Paired.length pr
    omega
  · obtain ⟨b, hb, e1, e2, e3⟩ := paired_get pr e
    have q := entry_at he i
    rw [hb] at q
    exact ⟨_, b.2.1, q, rfl, e2, e3⟩
theorem turn_itemsT {P : Program} {w : World} {K : Fg} {elts : List Expr} {kk : Nat} {tpos : Pos} {d it : Addr} {o : Obj} {es : Array DictEntry} {ep : Nat} {kvs : List (List Key × V)} (hod : o.data = .dict es ep) :
    Turn P w K (.Tuple elts kk tpos) (ItIT d o kvs) [it] it (fun i h => ∃ x y, IsItemIter h it d i es.size ep x y) where
  mem := List.mem_cons_self ..
  obj := fun i h st b hb => by
    obtain rfl := List.mem_singleton.mp hb
    obtain ⟨x, y, e⟩ := st
    exact ⟨_, e, fun v z => nomatch z⟩
  keep := fun i h h' st k => by
    obtain ⟨x, y, e⟩ := st
    exact ⟨x, y, k it (List.mem_cons_self ..) _ e⟩
  item := by
    intro X hP hw hK hc i pins s σ H E I hf st hg
    subst hP hw hK
    obtain ⟨hd, hi⟩ := hg
    obtain ⟨hs, es', ep', hdt, raw, sz, ent⟩ := frz_pairs I hd
    obtain ⟨rfl, rfl⟩ := dict_ep hod hdt
    obtain ⟨⟨k, v⟩, hkv⟩ : ∃ p, kvs[i]? = some p := ⟨kvs[i], List.getElem?_eq_getElem hi⟩
    obtain ⟨en, q, hen, hkey, hq, hv⟩ := ent i k v hkv
    obtain ⟨x, y, he⟩ := st
    have li : i < es'.size := by omega
    have hen' : es'[i] = en := by
      rw [Array.getElem?_eq_getElem li] at hen
      exact Option.some.inj hen
    have lt : it < s.heap.objs.size := Heap.lt_size he
    refine wpAny_pyNext_items_item_raw he raw li fun h1 out new sz1 k1 => ?_
    rw [hen', hkey] at out new
    refine ⟨_, rfl, wpAny_letOwnedTupleGo_items out fun h2 he2 sb => ?_⟩
    have pr : h2.get? s.heap.objs.size = some { cls := .type "tuple", data := .seq #[.ref q, en.val] } := (sb.2 _ (Nat.ne_of_gt lt)).trans new
    have ok : ObjOk X.prog X.w (upd H s.heap.objs.size (.tup [.ref q, v])) h2 s.heap.objs.size (.tup [.ref q, v]) := ⟨show 2 ≤ sizeLine by decide, [.ref q, en.val], .cons rfl (.cons hv .nil), _, pr, rfl, _, rfl⟩
    have I2 : Inv X pins σ (upd H s.heap.objs.size (.tup [.ref q, v])) { s with heap := h2 } :=
      I.turnedNew (t' := s.toks) (ch := [it]) (fun b ob nb e => (sb.2 b (by simpa using nb)).trans (k1 b ob (by simpa using nb) e)) hf (Nat.le_refl _) ok
    refine ⟨.ref s.heap.objs.size, _, I2, rfl, ⟨_, k, v, q, hkv, rfl, hq, I.hok.fresh (Nat.le_refl _), rfl⟩, ⟨_, _, he2⟩, fun b hb => ?_⟩
    obtain rfl := List.mem_singleton.mp hb
    rw [upd_ne (Nat.ne_of_lt lt)]
    exact (hf b hb).1
  done := by
    intro X hP hw hK hc i pins s σ H E I hf st hg
    subst hP hw hK
    obtain ⟨hd, hi⟩ := hg
    obtain ⟨f0, f1, f2, f3, f4, f5⟩ := hf it (List.mem_cons_self ..)
    obtain ⟨hs, es', ep', hdt, raw, sz, ent⟩ := frz_pairs I hd
    obtain ⟨rfl, rfl⟩ := dict_ep hod hdt
    obtain ⟨x, y, he⟩ := st
    exact wpAny_pyNext_items_end_raw (I.ok.hd hc) he raw (by omega) fun h1 eb => ⟨rfl, I.turned (t' := s.toks) (fun b ob hb e => eb b ob hb e) f0 f1 f3 f4 f5⟩
  self := fun A i s Q E st h => by
    obtain ⟨x, y, e⟩ := st
    exact PySem.W.kcp_self e h
section
variable {X : Cx} {as : As} {x : Str} {a b c e f tg : Expr} {pos p1 apos cpos tpos : Pos} {s u t : WE} {td tk tv : TE} {elts : List Expr} {kk : Nat}
def iItemsT (td : TE) : TI := fun σ H R => td σ H fun x H1 => ∃ d o kvs, x = .ref d ∧ H1 d = some (.frz o (.dT kvs)) ∧ R (ItIT d o kvs) H1
theorem pi_itemsT (he : PE X e td) (hbase : attributeBase e "items" X.env (eval e X.env) = eval e X.env) (hline : (apos.endLine == cpos.line) = true) :
    PI X (.Tuple elts kk tpos) (.Call (.Attribute e "items" apos) [] [] cpos) (iItemsT td) := by
  constructor
  intro pins s σ H R I h
  refine wpAny_Call_method (T := "dict") (id := "dict.items") hbase rfl hline F.plainAttrs_dict F.slot_dict_items F.type_dict_items (thn (he.run pins s σ H _ I h) ?_)
  rintro u s1 ⟨x, H1, I1, rx, d, o, kvs, rfl, hd, q⟩
  obtain rfl : u = Value.ref d := rx
  obtain ⟨hs, es, ep, hdt, raw, sz, ent⟩ := frz_pairs I1 hd
  refine ⟨raw.typeIs, ?_, ?_⟩
  · intro a e
    cases e
    obtain ⟨od, g1, g2, g3⟩ := raw
    exact ⟨od, g1, g2.2.1⟩
  have I2 : Inv X pins σ H1 { s1 with heap := s1.heap.push { cls := .type "dict_items", data := .fields #[.ref d] } } := I1.kept (t' := s1.toks) fun b ob q => Heap.get?_push_of_some _ q
  have fin : wpAny (model X.prog X.w) X.A (pyIter (.ref s1.heap.objs.size)) (PIE X pins σ (.Tuple elts kk tpos) R) X.xe { s1 with heap := s1.heap.push { cls := .type "dict_items", data := .fields #[.ref d] } } := by
    refine wpAny_pyIter_items_raw ⟨_, Heap.get?_push_size _ rfl, rfl, rfl⟩ (raw.at fun o e => Heap.get?_push_of_some _ e) (pi_one (tk := s1.toks) I2 _ (turn_itemsT hdt) ⟨.none, .none, ?_⟩ q)
    exact Heap.get?_push_size _ rfl
  show wpAny _ _ (callWith cpos (.builtin "dict.items") [.ref d] [] []) _ X.xe s1
  exact method_meetsIn F.slot_dict_items F.entry_dict_items rfl (PySem.evalArgs_none ⟨rfl, raw.typeIs, F.args_dict_items_1 _, _, meets_dict_items_raw d hs, ⟨es, ep, raw⟩, fin⟩)
theorem wk_itemsT {K : Fg} {B : Hp} {d : Addr} {o : Obj} {vs : List (List Key × V)} {kvs : List (List Key × D)} (h : B d = some (.frz o (.dT vs))) (r : DqKV K B vs kvs) : Wk K (ItIT d o vs) B (kvs.map fun kv => .tuple [keyT kv.1, kv.2]) where
  go := fun i B1 H x s l => ⟨s _ _ (x.keep _ _ h rfl), by rw [List.length_map] at l; rw [r.len]; exact l⟩
  stop := fun i B1 H x s l => ⟨s _ _ (x.keep _ _ h rfl), by rw [List.length_map] at l; rw [r.len]; exact l⟩
  yld := fun i B1 H v H' x s tt l y => by
    obtain ⟨N, k, w, q, h1, rfl, h2, hN, rfl⟩ := y
    obtain ⟨d, h3, h4⟩ := r.at h1
    have xe : ExT B1 (upd B1 N (.tup [.ref q, w])) := .new (free_of s hN)
    have dk : Dq K B1 (.ref q) (keyT k) := .tup (tt _ _ h2) (dqAll_keys k)
    exact ⟨.tuple [keyT k, d], _, by rw [List.getElem?_map, h3]; rfl, .new hN, .tup upd_same (.cons (Dq.ext xe dk) (.cons (Dq.ext (x.trans xe) h4) .nil))⟩
/-- d.items(), d a dict for good -/
def wItemsT (s : WE) : WN := fun ρ P => s ρ fun c ρ' => ∃ kvs, c = .d (dttD kvs) ∧ P (kvs.map fun kv => .tuple [keyT kv.1, kv.2]) ρ'
theorem iitemsT (hs : PE X e (up X.K as s)) (hbase : attributeBase e "items" X.env (eval e X.env) = eval e X.env := by rfl) (hline : (apos.endLine == cpos.line) = true := by rfl) : PI X (.Tuple elts kk tpos) (.Call (.Attribute e "items" apos) [] [] cpos) (upI X.K as (wItemsT s)) := by
  refine pi_imp (pi_itemsT hs hbase hline) fun σ H R ⟨Z, ρ, B, P, S, h, k⟩ => ⟨Z, ρ, B, _, S, h, fun c ρ' v B' H' h1 x S' o1 => ?_⟩
  obtain ⟨kvs, rfl, h1⟩ := h1
  obtain ⟨d, o, vs, rfl, f1, f2⟩ := dtt_of (show Dq X.K B' v (dttD kvs) from o1)
  exact ⟨d, o, vs, rfl, S'.sub f1, k _ _ B' H' _ h1 x S' (wk_itemsT f1 f2)⟩
/-- the keys of d, d a dict for good -/
def wKeysT (s : WE) : WN := fun ρ P => s ρ fun c ρ' => ∃ kvs, c = .d (dttD kvs) ∧ P (kvs.map fun kv => keyT kv.1) ρ'
theorem ikeysT (hs : PE X e (up X.K as s)) : PI X tg e (upI X.K as (wKeysT s)) := by
  refine pi_imp (pi_keys hs) fun σ H R ⟨Z, ρ, B, P, S, h, k⟩ => ⟨Z, ρ, B, _, S, h, fun c ρ' v B' H' h1 x S' o1 => ?_⟩
  obtain ⟨kvs, rfl, h1⟩ := h1
  obtain ⟨d, o, vs, rfl, f1, f2⟩ := dtt_of (show Dq X.K B' v (dttD kvs) from o1)
  exact ⟨d, o, rfl, .inr ⟨vs, S'.sub f1, k _ _ B' H' _ h1 x S' (wk_keysT f1 f2)⟩⟩
def tDisp1 (tk tv : TE) : TE := fun σ H Q => ∀ p, H p = none → tk σ (upd H p (.dT [])) fun x H1 => tv σ H1 fun y H2 => ∃ k c, x = .ref c ∧ H2 c = some (.tup (k.map kV)) ∧ H2 p = some (.dT []) ∧ ∀ o, Q (.ref p) (upd H2 p (.frz o (.dT [(k, y)])))
theorem pe_disp1 (hu : X.A.units + 1 < cLine) (hk : PE X a tk) (hv : PE X b tv) : PE X (.Dict [some a] [b] pos) (tDisp1 tk tv) := by
  constructor
  intro pins s σ H Q I q
  have hn := I.hok.fresh (Nat.le_refl s.heap.objs.size)
  have I1 := I.laid (a := s.heap.objs.size) (o := .dT []) (h' := s.heap.push { cls := .type "dict", data := .dict #[] }) (t' := s.toks) (fun _ _ q => Heap.get?_push_of_some _ q) (Nat.le_refl _) (dt_empty s.heap I.big)
  rw [arm_eval_Dict, zip_pairTrees [some a] [b] X.env pos rfl rfl, dictDisplay_pairs (pairTrees [some a] [b] X.env pos) (fun z => by cases z) (by simp [pairTrees])]
  refine wpAny_bind (wpAny_standAt (wpAny_bind (wpAny_subDictH (knd := tupleKind (mixKind X.prog X.w)) (Nat.lt_of_succ_lt hu) (by simp [pairTrees]) (pairTrees_cons_walk (thn (hk.run pins _ σ _ _ I1 (q _ hn)) ?_)))))
  rintro u s1 ⟨x, H1, I2, rx, q1⟩
  refine thn (hv.run pins s1 σ H1 _ I2 q1) ?_
  rintro w s2 ⟨y, H2, I3, ry, k, c, rfl, hc, hp, q2⟩
  obtain rfl : u = Value.ref c := rx
  refine pairTrees_nil_walk ?_
  obtain ⟨z, hd, xs, rel, dd⟩ := dt_of I3.hok hp
  cases rel
  refine ⟨[(k, c, w)], ⟨rfl, rfl, key_of I3.hok hc, True.intro⟩, dd, fun h' tk' d2 sb => wpAny_pure ?_⟩
  obtain ⟨o, es, ep, g1, g2, g3, g4, _, g6⟩ := d2
  have np : c ≠ s.heap.objs.size := fun e => by
    rw [e, hp] at hc
    cases hc
  have ok : ObjOk X.prog X.w (upd H2 s.heap.objs.size (.dT [(k, y)])) h' s.heap.objs.size (.dT [(k, y)]) :=
    ⟨by show 1 ≤ sizeLine; decide, hd, [(k, c, w)], .cons ⟨rfl, by rw [upd_ne np]; exact hc, ry⟩ .nil, o, es, ep, g1, g2, g3, g4, g6⟩
  have I4 := d_write (t' := tk') I3 (by rw [hp]; exact True.intro) sb ⟨o, g1⟩ ok
  obtain ⟨od, I5⟩ := I4.lock upd_same True.intro
  refine ⟨.ref s.heap.objs.size, _, I5, rfl, ?_⟩
  have e : upd (upd H2 s.heap.objs.size (.dT [(k, y)])) s.heap.objs.size (.frz od (.dT [(k, y)])) = upd H2 s.heap.objs.size (.frz od (.dT [(k, y)])) := by
    funext b
    by_cases z : b = s.heap.objs.size
    · rw [z, upd_same, upd_same]
    · rw [upd_ne z, upd_ne z, upd_ne z]
  rw [e]
  exact q2 od
end
end VL
end
section
set_option autoImplicit false
set_option maxRecDepth 100000
set_option maxHeartbeats 2000000
namespace VL
open PySem PySem.Spec PyProof.Rows L2
section
variable {X : Cx} {as : As} {a b e : Expr} {pos : Pos} {u t t0 : WE}
/-- {k: v}, k any tuple, for good -/
def wDispT (u t : WE) : WE := fun ρ P => u ρ fun c ρ1 => ∃ k, c = .d (keyT k) ∧ t ρ1 fun c2 ρ2 => ∃ y, c2 = .d y ∧ P (.d (dttD [(k, y)])) ρ2
theorem vdispT (hu : X.A.units + 1 < cLine) (hk : PE X a (up X.K as u)) (hv : PE X b (up X.K as t)) : PE X (.Dict [some a] [b] pos) (up X.K as (wDispT u t)) := by
  refine pe_imp (pe_disp1 hu hk hv) fun σ H Q ⟨Z, ρ, B, P, S, h, k⟩ => fun p hp => ?_
  have Zp := S.nZ hp
  refine ⟨_, ρ, B, _, S.hideT (kvs := []) hp, h, fun c ρ1 v1 B1 H1 h1 x1 S1 o1 => ?_⟩
  obtain ⟨key, rfl, h1⟩ := h1
  refine ⟨_, ρ1, B1, _, S1, h1, fun c2 ρ2 v2 B2 H2 h2 x2 S2 o2 => ?_⟩
  obtain ⟨y, rfl, h2⟩ := h2
  have o1' : Dq X.K B1 v1 (keyT key) := o1
  have o2' : Dq X.K B2 v2 y := o2
  obtain ⟨c, rfl, hc⟩ := key_tr S2.subE (Dq.ext x2 o1')
  obtain ⟨H0, S0, hp0, rfl⟩ := S2.unhide Zp
  refine ⟨key, c, rfl, hc, upd_same, fun o => ?_⟩
  have ee : upd (upd H0 p (.dT [])) p (.frz o (.dT [(key, v2)])) = upd H0 p (.frz o (.dT [(key, v2)])) := by
    funext a
    by_cases z : a = p
    · rw [z, upd_same, upd_same]
    · rw [upd_ne z, upd_ne z, upd_ne z]
  rw [ee]
  have xe : ExT B2 (upd B2 p (.frz o (.dT [(key, v2)]))) := .new (S0.free hp0)
  exact k _ _ _ _ _ h2 (x1.trans (x2.trans xe)) (S0.al hp0) (.dtt upd_same (DqKV.pt (.cons (Dq.ext xe o2') .nil)))
end
section
variable {X : Cx}
def rCntD (K : PySem.W.Frag) : V → List V → Hp → VK → Prop := fun x xs H Q => ∃ (a : Addr) (y : V) (d : PyData) (ds : List PyData), x = V.ref a ∧ xs = [y] ∧ Dp K H (V.ref a) (.list ds) ∧ Dp K H y d ∧
  SeqAt.shaped (.list ds) = true ∧ SeqAt.shaped d = true ∧ Q (.int (ds.countP (fun z => PyData.eqv z d) : Nat)) H
theorem mt_countD (hu : X.A.units + 65 < cLine) : MtR X "list.count" (rCntD X.K) := by
  intro pins s σ H x xs v us Q I rx rxs h
  obtain ⟨a, y, d, ds, rfl, rfl, hl, hy, sl, sd, q⟩ := h
  cases rx
  obtain ⟨uy, rfl, ry⟩ := rxs.one
  obtain ⟨bs, r1⟩ := Dp.reads I d y uy hy ry
  have hxs : PyData.canLayAll0 ds = true := SeqAt.canLay_of_shaped sl
  have hroom : X.A.units + 1 + min (PyData.depthAll ds) d.depth < cLine := room_in_shaped sd hu
  cases hl with
  | lst hs ha =>
    obtain ⟨its, rv, ⟨⟨cls, dd, data, sls⟩, n, ho, hc, hdn, hdt⟩, hlen⟩ := I.list hs
    simp only at hc hdt
    subst hc hdt
    obtain ⟨as, h4⟩ := Dp.readsAll I ds _ its ha rv
    have hmap : its.map (SeqAt.readOf s.heap) = ds := SeqAt.readsAll_map ds its as hxs h4
    refine call_meets PySem.F.slot_list_count ⟨_, ho, rfl⟩ PySem.F.entry_list_count (PySem.F.args_list_count_2 _ _)
      (SeqAt.list_countAt a its.toArray n dd sls uy (fun u => PyData.eqv (SeqAt.readOf s.heap u) d)) ⟨ho, SeqAt.items_eqAt (vs := its.toArray) (show ReadsAll s.heap its.toArray.toList ds as from h4) r1 hxs (SeqAt.canLay_of_shaped sd) hroom, ?_⟩
    have ec : its.toArray.toList.countP (fun u => PyData.eqv (SeqAt.readOf s.heap u) d) = ds.countP (fun z => PyData.eqv z d) := by
      rw [← hmap, List.countP_map]
      rfl
    rw [ec]
    exact ⟨.int (ds.countP (fun z => PyData.eqv z d) : Nat), H, I.tok _, ⟨_, rfl⟩, q⟩
end
section
variable {X : Cx} {as : As} {a b e : Expr} {pos : Pos} {u t t0 : WE}
/-- x.count(e), x a list -/
def wCount (t0 t : WE) : WE := fun ρ P => t0 ρ fun c0 ρ0 => (∃ ds0, der ρ0 c0 = some (.list ds0)) ∧ t ρ0 fun c ρ1 => ∃ y ds, c = .d y ∧ der ρ1 c0 = some (.list ds) ∧ shp (.list ds) = true ∧ shp y = true ∧ P (.d (.int (ds.countP (fun z => PyData.eqv z y) : Nat))) ρ1
theorem vcount {o : Expr} {p2 cpos : Pos} (hu : X.A.units + 65 < cLine) (ho : PE X o (up X.K as t0)) (ha : PE X e (up X.K as t))
    (hbase : attributeBase o "count" X.env (eval o X.env) = eval o X.env := by rfl)
    (hfew : ((backTo cpos (starEach (e :: []) X.env)).all (fun x => !x.1) && (backToKw cpos (keywordEach [] X.env)).all (fun x => x.1.isSome) && decide ((e :: []).length + ([] : List Keyword).length + (if ([] : List Keyword).isEmpty then 0 else 1) < 30)) = true := by rfl)
    (hline : (p2.endLine == cpos.line) = true := by rfl) (he : starEach (e :: []) X.env = (false, eval e X.env) :: starEach [] X.env := by rfl) (hplain : (backTo cpos (starEach [] X.env)).any (·.1) = false := by rfl) :
    PE X (.Call (.Attribute o "count" p2) [e] [] cpos) (up X.K as (wCount t0 t)) := by
  refine pe_imp (pe_bm PySem.F.plainAttrs_list PySem.F.slot_list_count PySem.F.type_list_count (mt_countD hu) ho (pa_cons ha pa_nil he) hbase hfew hline he hplain) fun σ H Q ⟨Z, ρ, B, P, S, h, k⟩ => ⟨Z, ρ, B, _, S, h, fun c0 ρ0 v0 B0 H0 h0 x0 S0 o0 => ?_⟩
  obtain ⟨⟨ds0, e0⟩, h⟩ := h0
  obtain ⟨p, xs, rfl, q2, q3⟩ := (rv_of S0 o0 e0).list S0.subE
  refine ⟨.inl ⟨rfl, xs, q2⟩, Z, ρ0, B0, _, S0, h, fun c ρ1 v B1 H1 h1 x1 S1 o1 => ?_⟩
  obtain ⟨y, ds1, rfl, h2, f1, f2, h3⟩ := h1
  have o1' : Dq X.K B1 v y := o1
  refine ⟨p, v, y, ds1, rfl, rfl, ((rv_of S1 (o0.ext x1) h2).dpH S1.subE).dp (SeqAt.canLay_of_shaped f1), ?_, f1, f2, k _ _ _ B1 H1 h3 (x0.trans x1) S1 (.int _)⟩
  have r : Rv X.K B1 H1 v y := .dp o1'
  exact (r.dpH S1.subE).dp (SeqAt.canLay_of_shaped f2)
end
end VL
end
section
set_option autoImplicit false
set_option maxRecDepth 100000
set_option maxHeartbeats 4000000
set_option exponentiation.threshold 7000
namespace K13
open PySem PySem.Spec PyProof.Rows L2 VL
def isIntD : D → Bool
  | .int _ => true
  | _ => false
def fromD (m : Int) : D → Bool
  | .int i => decide (m ≤ i)
  | _ => false
def intL (ns : List Int) : D := .list (ns.map .int)
def Bd (n : Int) : Prop := n.natAbs < 2 ^ 4000
def S_is_integer : VL.Spec := fun ρ Q => ∃ d, ρ = [.dat d] ∧ Q (.d (.bool (isIntD d))) [.un]
def S_is_integer_from : VL.Spec := fun ρ Q => ∃ d m, ρ = [.dat d, .dat (.int m)] ∧ Q (.d (.bool (fromD m d))) [.un, .un]
def S_check_place : VL.Spec := fun ρ Q => ∃ k : Nat, ρ = [.dat (.int k)] ∧ Q (.d .none) [.un]
structure Pl where
  to : Bool
  i : Nat
deriving DecidableEq
def Pl.w (p : Pl) : Str := if p.to = true then "to" else "is"
def Pl.key (p : Pl) : List Key := [.inr p.w, .inl (p.i : Nat)]
def Pl.d (p : Pl) : D := .tuple [.str p.w, .int (p.i : Nat)]
def Pl.ok (n m : Nat) (p : Pl) : Prop := (p.to = true → p.i < m) ∧ (p.to = false → p.i < n)
structure Mc where
  n : Nat
  b : Pl
  rs : List (Pl × Pl)
structure Mc.Ok (M : Mc) : Prop where
  n1 : 1 ≤ M.n
  n6 : M.n ≤ 6
  m : M.rs.length ≤ 12
  b : M.b.ok M.n M.rs.length
  r : ∀ r ∈ M.rs, r.1.ok M.n M.rs.length ∧ r.2.ok M.n M.rs.length
def rwD (r : Pl × Pl) : D := .tuple [r.1.d, r.2.d]
def rsD (rs : List (Pl × Pl)) : D := .tuple (rs.map rwD)
def mcD (M : Mc) : D := .tuple [.int (M.n : Nat), M.b.d, rsD M.rs]
def Mc.next (M : Mc) (p : Pl) (t : Nat) : Pl := if t = 0 then (M.rs.getD p.i (M.b, M.b)).1 else (M.rs.getD p.i (M.b, M.b)).2
def stp (M : Mc) (a : List Nat × Pl) (t : Nat) : List Nat × Pl := if (M.next a.2 t).to = true then (a.1, M.next a.2 t) else (a.1 ++ [(M.next a.2 t).i], M.b)
def wlk (M : Mc) (ts : List Nat) : List Nat × Pl := ts.foldl (stp M) ([], M.b)
def nsD (ns : List Nat) : List D := ns.map fun i => .int (i : Nat)
def wlkD (a : List Nat × Pl) : D := .tuple [.tuple (nsD a.1), a.2.d]
structure Ts (ts : List Nat) : Prop where
  len : ts.length ≤ 41
  lt : ∀ t ∈ ts, t < 2
def seqD (l : Bool) (ds : List D) : D := if l = true then .list ds else .tuple ds
def Fine (M : Mc) (ts : List Nat) : Prop := M.b.to = true ∨ ts = []
def S_is_thing : VL.Spec := fun ρ Q => ∃ i n : Nat, ρ = [.dat (.int i), .dat (.int n)] ∧ i < n ∧ Q (.d (.bool true)) [.un, .un]
def S_is_place : VL.Spec := fun ρ Q => ∃ (p : Pl) (n m : Nat), ρ = [.dat p.d, .dat (.int n), .dat (.int m)] ∧ p.ok n m ∧ Q (.d (.bool true)) [.un, .un, .un]
def S_is_pair : VL.Spec := fun ρ Q => ∃ (r : Pl × Pl) (n m : Nat), ρ = [.dat (rwD r), .dat (.int n), .dat (.int m)] ∧ r.1.ok n m ∧ r.2.ok n m ∧ Q (.d (.bool true)) [.un, .un, .un]
def S_is_machine : VL.Spec := fun ρ Q => ∃ M : Mc, ρ = [.dat (mcD M)] ∧ M.Ok ∧ Q (.d (.bool true)) [.un]
def S_check_machine : VL.Spec := fun ρ Q => ∃ M : Mc, ρ = [.dat (mcD M)] ∧ M.Ok ∧ Q (.d .none) [.un]
def S_is_signs : VL.Spec := fun ρ Q => ∃ ts : List Nat, ρ = [.dat (.tuple (nsD ts))] ∧ Ts ts ∧ Q (.d (.bool true)) [.un]
def S_walk : VL.Spec := fun ρ Q => ∃ (M : Mc) (l : Bool) (ts : List Nat), ρ = [.dat (mcD M), .dat (seqD l (nsD ts))] ∧ M.Ok ∧ Ts ts ∧ (M.b.to = false → ts ≠ [] → Q (.err "NotDrawn" (mcD M)) [.un, .un]) ∧ (Fine M ts → Q (.d (wlkD (wlk M ts))) [.un, .un])
def S__law_walk : VL.Spec := fun ρ Q => ∃ (M : Mc) (l : Bool) (ts : List Nat), ρ = [.dat (mcD M), .dat (seqD l (nsD ts))] ∧ M.Ok ∧ Ts ts ∧ Fine M ts ∧ Q (.d (wlkD (wlk M ts))) [.un, .un]
def toldD (M : Mc) (ts : List Nat) : D := if M.b.to = false ∧ ts ≠ [] then .tuple [.str "not drawn", mcD M] else .tuple [.str "walk", wlkD (wlk M ts)]
def S__law_told : VL.Spec := fun ρ Q => ∃ (M : Mc) (l : Bool) (ts : List Nat) (b : Bool), ρ = [.dat (mcD M), .dat (seqD l (nsD ts)), .dat (.bool b)] ∧ M.Ok ∧ Ts ts ∧ Q (.d (toldD M ts)) [.un, .un, .un]
abbrev Kv := List (Pl × Nat)
def kvK (kvs : Kv) : List (List Key × D) := kvs.map fun kv => (kv.1.key, .int (kv.2 : Nat))
def getK (kvs : Kv) (p : Pl) : Nat := ((kvs.find? fun kv => decide (kv.1 = p)).map (·.2)).getD 0
def putK (kvs : Kv) (p : Pl) (v : Nat) : Kv := if (kvs.any fun kv => decide (kv.1 = p)) = true then kvs.map (fun kv => if kv.1 = p then (kv.1, v) else kv) else kvs ++ [(p, v)]
def addK (kvs : Kv) (p : Pl) (c : Nat) : Kv := putK kvs p (getK kvs p + c)
def add2 (M : Mc) (f : Kv) (kv : Pl × Nat) : Kv := if kv.1.to = true then addK (addK f (M.next kv.1 0) kv.2) (M.next kv.1 1) kv.2 else f
def lvl (M : Mc) (kvs : Kv) : Kv := kvs.foldl (add2 M) []
def cnts (M : Mc) : Nat → Kv
  | 0 => [(M.b, 1)]
  | k + 1 => lvl M (cnts M k)
structure KvOk (M : Mc) (kvs : Kv) : Prop where
  nd : (kvs.map (·.1)).Nodup
  ok : ∀ kv ∈ kvs, kv.1.ok M.n M.rs.length
def leafD (M : Mc) (k : Nat) : D := .tuple ((List.range M.n).map fun i => .int (getK (cnts M k) ⟨false, i⟩ : Nat))
def S_counts_below : VL.Spec := fun ρ Q => ∃ (M : Mc) (kvs : Kv), ρ = [.dat (rsD M.rs), .dat (dttD (kvK kvs))] ∧ M.Ok ∧ KvOk M kvs ∧ Q (.d (dttD (kvK (lvl M kvs)))) [.un, .un]
def S_leaves_of : VL.Spec := fun ρ Q => ∃ (M : Mc) (k : Nat), ρ = [.dat (mcD M), .dat (.int k)] ∧ M.Ok ∧ k ≤ 300 ∧ Q (.d (leafD M k)) [.un, .un]
def S__law_counts : VL.Spec := fun ρ Q => ∃ (M : Mc) (k : Nat), ρ = [.dat (mcD M), .dat (.int k)] ∧ M.Ok ∧ k ≤ 300 ∧ Q (.d (dttD (kvK (cnts M k)))) [.un, .un]
def com1 (M : Mc) : Option Pl → Nat → Option Pl
  | some p, t => if p.to = true then some (M.next p t) else none
  | none, _ => none
def com (M : Mc) (ts : List Nat) : Option Pl := ts.foldl (com1 M) (some M.b)
def comD : Option Pl → D
  | some p => p.d
  | none => .none
def S__law_come : VL.Spec := fun ρ Q => ∃ (M : Mc) (ts : List Nat), ρ = [.dat (mcD M), .dat (.tuple (nsD ts))] ∧ M.Ok ∧ (∀ t ∈ ts, t < 2) ∧ Q (.d (comD (com M ts))) [.un, .un]
def S__law_by_rows : VL.Spec := fun ρ Q => ∃ (M : Mc) (k : Nat), ρ = [.dat (mcD M), .dat (.int k)] ∧ M.Ok ∧ k ≤ 7 ∧ Q (.d (leafD M k)) [.un, .un]
/-- the pot: whatever is drawn, its third counts the cells met -/
structure Pot (pot : List Int) : Prop where
  lo : 3 ≤ pot.length
  hi : pot.length ≤ 66
  b : ∃ x, pot[1]? = some x ∧ 0 ≤ x ∧ x < 2 ^ 31
  c : ∃ x, pot[2]? = some x ∧ 3 ≤ x ∧ x ≤ 66
def potC (pot : List Int) : Cell := .lst true (pot.map .int)
def S__law_take : VL.Spec := fun ρ Q => ∃ (pot : List Int) (m : Int), ρ = [potC pot, .dat (.int m)] ∧ Pot pot ∧ 0 < m ∧ m < 2 ^ 30 ∧ ∀ (r : Nat) (pot' : List Int), Pot pot' → (r : Int) < m → Q (.d (.int r)) [potC pot', .un]
def S__law_place : VL.Spec := fun ρ Q => ∃ (pot : List Int) (n m w : Nat), ρ = [potC pot, .dat (.int n), .dat (.int m), .dat (.int w)] ∧ Pot pot ∧ 1 ≤ n ∧ n ≤ 6 ∧ m ≤ 12 ∧ ∀ (p : Pl) (pot' : List Int), Pot pot' → p.ok n m → Q (.d p.d) [potC pot', .un, .un, .un]
def S__law_machine : VL.Spec := fun ρ Q => ∃ pot : List Int, ρ = [potC pot, .dat (.int 6), .dat (.int 12)] ∧ Pot pot ∧ ∀ (M : Mc) (pot' : List Int), Pot pot' → M.Ok → Q (.d (mcD M)) [potC pot', .un, .un]
/-- data of ints, texts, lists and tuples of that depth -/
inductive Ok : Nat → D → Prop
  | int (j : Nat) (i : Int) : Ok (j + 1) (.int i)
  | str (j : Nat) (x : Str) : PyData.strOk x = true → Ok (j + 1) (.str x)
  | lst (j : Nat) (ds : List D) : ds.length ≤ 300 → (∀ d ∈ ds, Ok j d) → Ok (j + 1) (.list ds)
  | tup (j : Nat) (ds : List D) : ds.length ≤ 300 → (∀ d ∈ ds, Ok j d) → Ok (j + 1) (.tuple ds)
def S__law_same (j : Nat) : VL.Spec := fun ρ Q => ∃ d, ρ = [.dat d, .dat d] ∧ Ok j d ∧ Q (.d (.bool true)) [.un, .un]
def S_law : VL.Spec := fun ρ Q => ∃ ns : List Int, ρ = [.dat (intL ns)] ∧ ns.length ≤ 63 ∧ Q (.d (.bool true)) [.un]
end K13
end
section
set_option autoImplicit false
set_option maxRecDepth 100000
set_option maxHeartbeats 4000000
namespace K13
open PySem PySem.Spec PyProof.Rows L2 VL
def topS (i : Nat) : Stmt := PySem.Challenge.pw_tosstrees_k13_whole_walks_and_leaves_of.main.body.getD i (.Pass ⟨0, 0, 0, 0⟩)
structure Tx (mg : Str → Option Value) : Prop where
  all_ : mg "all" = none
  bool_ : mg "bool" = none
  int_ : mg "int" = none
  isinstance : mg "isinstance" = none
  len_ : mg "len" = none
  list_ : mg "list" = none
  max_ : mg "max" = none
  range_ : mg "range" = none
  str_ : mg "str" = none
  tuple_ : mg "tuple" = none
abbrev cs_ : List Str := ["TossError", "InvalidNumber", "InvalidMachine", "InvalidRow", "NotDrawn"]
def k_TossError (n : Str) : Bool := n == "TossError" || n == "InvalidNumber" || n == "InvalidMachine" || n == "InvalidRow" || n == "NotDrawn"
def k_NotDrawn (n : Str) : Bool := n == "NotDrawn"
abbrev s_init_ : Stmt := (clsBody (topS 1)).getD 0 (.Pass ⟨0, 0, 0, 0⟩)
theorem sc_init_ : FnScope ["self", "value"] ["self", "value"] (defScope s_init_) := ⟨rfl, rfl, rfl, by decide +kernel, rfl, by decide +kernel, by decide +kernel⟩
theorem ok_init_ {P : Program} {w : World} {K : PySem.W.Frag} {mg : Str → Option Value} {base : Heap} {fI : Addr} {fd : FuncData} (F : Fun K "__init__" "TossError.__init__" s_init_ fI fd) (hm : mg "ValueError" = none) (vV : PySem.W.findCls K (.type "ValueError") (.type "type") "__init__" = some (.val (.builtin "ValueError.__init__"))) : FnOk P w K mg base CX0 1 fI fd ["self", "value"] (spIn K) :=
  F.ok sc_init_ (fun vs H Q E h => by obtain ⟨a, C, v, rfl, _⟩ := h; rfl) fun cdv A outer s H vs Q E hr h => ⟨tInit K, pss_cons (ps_expr (pe_veinit rfl hm vV (pa_cons (pv 0) (pa_cons (pv 1) pa_nil)))) (pss_one (ps_ost (pv 0) (pv 1))), spIn_start h⟩
section
variable {P : Program} {w : World} {K : PySem.W.Frag} {mg : Str → Option Value} {base : Heap} {ts : List Addr}
abbrev s__law_take : Stmt := topS 23
theorem sc__law_take : FnScope ["pot", "many", "cell", "drawn_now", "mixed"] ["pot", "many"] (defScope s__law_take) := ⟨rfl, rfl, rfl, by decide +kernel, rfl, by decide +kernel, by decide +kernel⟩
def t__law_take : WS :=
  (wSeq (wIfS (wAndT (wTest (wOp oEq (wOp itemD (wVar 0) (wC (.int 0))) (wC (.int 0)))) (wTest (wOp oLt (wOp itemD (wVar 0) (wC (.int 2))) (wCB oLen (wCons (wVar 0) wNil)))))
  (wSeq (wAsg (wOp itemD (wVar 0) (wOp itemD (wVar 0) (wC (.int 2)))) (wSet 2))
  (wSeq (wAugIt (fun i j => i + j) 0 (wC (.int 2)) (wC (.int 1)))
  (wIfS (wTest (wOp oGe (wVar 2) (wOp oPow (wC (.int 10)) (wC (.int 18)))))
  (wSetIt 0 (wC (.int 0)) (wOp oSub (wVar 2) (wOp oPow (wC (.int 10)) (wC (.int 18)))))
  (wSeq (wAsg (wOp oMod (wCB oToInt (wCons (wVar 2) wNil)) (wC (.int 2147483647))) (wSet 4))
  (wSeq (wAsg (wOp oMod (wCB oToInt (wCons (wOp oAdd (wOp oAdd (wOp oMul (wVar 4) (wVar 4)) (wOp oMul (wC (.int 69621)) (wVar 4))) (wOp oMul (wC (.int 977)) (wOp itemD (wVar 0) (wC (.int 2))))) wNil)) (wC (.int 2147483629))) (wSet 4))
  (wSetIt 0 (wC (.int 1)) (wOp oMod (wCB oToInt (wCons (wOp oAdd (wOp itemD (wVar 0) (wC (.int 1))) (wVar 4)) wNil)) (wC (.int 2147483629)))))))))
  wNext)
  (wSeq (wIfS (wTest (wOp oGt (wOp itemD (wVar 0) (wC (.int 0))) (wC (.int 0))))
  (wSeq (wAsg (wOp oMod (wCB oToInt (wCons (wOp itemD (wVar 0) (wC (.int 0))) wNil)) (wVar 1)) (wSet 3))
  (wSeq (wSetIt 0 (wC (.int 0)) (wOp oFdiv (wOp itemD (wVar 0) (wC (.int 0))) (wVar 1)))
  (wRet (wVar 3))))
  wNext)
  (wSeq (wSetIt 0 (wC (.int 1)) (wOp oMod (wCB oToInt (wCons (wOp oAdd (wOp oAdd (wOp oMul (wOp itemD (wVar 0) (wC (.int 1))) (wC (.int 48271))) (wOp oMul (wC (.int 40692)) (wOp itemD (wVar 0) (wC (.int 2))))) (wC (.int 11))) wNil)) (wC (.int 2147483647))))
  (wSeq (wSetIt 0 (wC (.int 1)) (wOp oMod (wCB oToInt (wCons (wOp oAdd (wOp oMul (wOp itemD (wVar 0) (wC (.int 1))) (wOp itemD (wVar 0) (wC (.int 1)))) (wC (.int 7))) wNil)) (wC (.int 2147483629))))
  (wRet (wOp oMod (wCB oToInt (wCons (wOp oFdiv (wOp itemD (wVar 0) (wC (.int 1))) (wC (.int 8))) wNil)) (wVar 1)))))))
theorem d__law_take {f__law_take_ : Addr} {cdv : Value} {A : Around} {outer : List PySem.Env} {s : Shared} {H : Hp} {E : XK} {as : List (Option V)} (T : Tx mg) (hr : Room 0 (A.deeper (envOfC "_law_take" (defScope s__law_take) s.heap.objs.size f__law_take_ cdv))) :
    PSs (cxOf CX0 P w K mg base ["pot", "many", "cell", "drawn_now", "mixed"] "_law_take" (defScope s__law_take) f__law_take_ cdv A outer s H E).nox (defBody s__law_take) (upS K (as, ts, nW) t__law_take) :=
  (scons (sif (L2.PW.pt (wand (tcmp (op_eqD hr.units) opv_eq (vix ix_seq opv_ix (vv 0) vint) vint) (wand1 (tcmp op_lt (opv_I0 fun _ _ _ => .bl _) (vix ix_seq opv_ix (vv 0) vint) (vcb call_len cv_len T.len_ (by decide +kernel) (acons (vv 0) anil))))))
  (scons (sset (i := 2) sc__law_take.nd (vix ix_seq opv_ix (vv 0) (vix ix_seq opv_ix (vv 0) vint)))
  (scons (saugit 0 ip_add vint vint)
  (sone (sif (tcmp op_ge (opv_I0 fun _ _ _ => .bl _) (vv 2) (vop op_pow (opv_I fun _ _ _ => .int _) vint vint))
  (sone (ssetit 0 (vop op_sub (opv_I0 fun _ _ _ => .int _) (vv 2) (vop op_pow (opv_I fun _ _ _ => .int _) vint vint)) vint))
  (scons (sset (i := 4) sc__law_take.nd (vop op_modN (opv_I fun _ _ _ => .int _) (vct call_int1 cv_int T.int_ (by decide +kernel) (acons (vv 2) anil)) vint))
  (scons (sset (i := 4) sc__law_take.nd (vop op_modN (opv_I fun _ _ _ => .int _) (vct call_int1 cv_int T.int_ (by decide +kernel) (acons (vop op_add' opv_add (vop op_add' opv_add (vop op_mul' (opv_I fun _ _ _ => .int _) (vv 4) (vv 4)) (vop op_mul' (opv_I fun _ _ _ => .int _) vint (vv 4))) (vop op_mul' (opv_I fun _ _ _ => .int _) vint (vix ix_seq opv_ix (vv 0) vint))) anil)) vint))
  (sone (ssetit 0 (vop op_modN (opv_I fun _ _ _ => .int _) (vct call_int1 cv_int T.int_ (by decide +kernel) (acons (vop op_add' opv_add (vix ix_seq opv_ix (vv 0) vint) (vv 4)) anil)) vint) vint))))))))
  snil)
  (scons (sif (tcmp op_gt (opv_I0 fun _ _ _ => .bl _) (vix ix_seq opv_ix (vv 0) vint) vint)
  (scons (sset (i := 3) sc__law_take.nd (vop op_modN (opv_I fun _ _ _ => .int _) (vct call_int1 cv_int T.int_ (by decide +kernel) (acons (vix ix_seq opv_ix (vv 0) vint) anil)) (vv 1)))
  (scons (ssetit 0 (vop op_fdiv' (opv_I fun _ _ _ => .int _) (vix ix_seq opv_ix (vv 0) vint) (vv 1)) vint)
  (sone (sret (vv 3)))))
  snil)
  (scons (ssetit 0 (vop op_modN (opv_I fun _ _ _ => .int _) (vct call_int1 cv_int T.int_ (by decide +kernel) (acons (vop op_add' opv_add (vop op_add' opv_add (vop op_mul' (opv_I fun _ _ _ => .int _) (vix ix_seq opv_ix (vv 0) vint) vint) (vop op_mul' (opv_I fun _ _ _ => .int _) vint (vix ix_seq opv_ix (vv 0) vint))) vint) anil)) vint) vint)
  (scons (ssetit 0 (vop op_modN (opv_I fun _ _ _ => .int _) (vct call_int1 cv_int T.int_ (by decide +kernel) (acons (vop op_add' opv_add (vop op_mul' (opv_I fun _ _ _ => .int _) (vix ix_seq opv_ix (vv 0) vint) (vix ix_seq opv_ix (vv 0) vint)) vint) anil)) vint) vint)
  (sone (sret (vop op_modN (opv_I fun _ _ _ => .int _) (vct call_int1 cv_int T.int_ (by decide +kernel) (acons (vop op_fdiv' (opv_I fun _ _ _ => .int _) (vix ix_seq opv_ix (vv 0) vint) vint) anil)) (vv 1))))))))
abbrev s__law_place : Stmt := topS 25
theorem sc__law_place : FnScope ["pot", "n", "many", "weight"] ["pot", "n", "many", "weight"] (defScope s__law_place) := ⟨rfl, rfl, rfl, by decide +kernel, rfl, by decide +kernel, by decide +kernel⟩
def t__law_place : WS :=
  (wSeq (wIfS (wOrT (wTest (wOp oEq (wVar 2) (wC (.int 0)))) (wTest (wOp oGt (wCallIo 2 S__law_take (wCons (wVar 0) (wCons (wC (.int 4)) wNil))) (wVar 3))))
  (wRet (wTup (wCons (wC (.str "is")) (wCons (wCallIo 2 S__law_take (wCons (wVar 0) (wCons (wVar 1) wNil))) wNil))))
  wNext)
  (wRet (wTup (wCons (wC (.str "to")) (wCons (wCallIo 2 S__law_take (wCons (wVar 0) (wCons (wVar 2) wNil))) wNil)))))
theorem d__law_place {f__law_place_ : Addr} {cdv : Value} {A : Around} {outer : List PySem.Env} {s : Shared} {H : Hp} {E : XK} {as : List (Option V)} (T : Tx mg) {f__law_take : Addr} {fd__law_take : FuncData} (c__law_take : FOk P w K ts mg base 1 2 "_law_take" f__law_take fd__law_take ["pot", "many"] S__law_take) (hr : Room 1 (A.deeper (envOfC "_law_place" (defScope s__law_place) s.heap.objs.size f__law_place_ cdv))) :
    PSs (cxOf CX0 P w K mg base ["pot", "n", "many", "weight"] "_law_place" (defScope s__law_place) f__law_place_ cdv A outer s H E).nox (defBody s__law_place) (upS K (as, ts, nW) t__law_place) :=
  (scons (sif (L2.PW.pt (wor (tcmp (op_eqD hr.units) opv_eq (vv 2) vint) (wor1 (tcmp op_gt (opv_I0 fun _ _ _ => .bl _) (vcallIo ⟨c__law_take.fn, c__law_take.g, c__law_take.kp, c__law_take.b⟩ hr (acons (vv 0) (acons vint anil))) (vv 3)))))
  (sone (sret (vtup (acons vstr (acons (vcallIo ⟨c__law_take.fn, c__law_take.g, c__law_take.kp, c__law_take.b⟩ hr (acons (vv 0) (acons (vv 1) anil))) anil)))))
  snil)
  (sone (sret (vtup (acons vstr (acons (vcallIo ⟨c__law_take.fn, c__law_take.g, c__law_take.kp, c__law_take.b⟩ hr (acons (vv 0) (acons (vv 2) anil))) anil))))))
abbrev s__law_machine : Stmt := topS 26
theorem sc__law_machine : FnScope ["pot", "things", "states", "many", "rows_now", "begin", "n", "weight", "k"] ["pot", "things", "states"] (defScope s__law_machine) := ⟨rfl, rfl, rfl, by decide +kernel, rfl, by decide +kernel, by decide +kernel⟩
def t__law_machine : WS :=
  (wSeq (wAsg (wTup (wCons (wOp oAdd (wC (.int 1)) (wCallIo 2 S__law_take (wCons (wVar 0) (wCons (wVar 1) wNil)))) (wCons (wCallIo 2 S__law_take (wCons (wVar 0) (wCons (wOp oAdd (wVar 2) (wC (.int 1))) wNil))) (wCons (wCallIo 2 S__law_take (wCons (wVar 0) (wCons (wC (.int 4)) wNil))) wNil)))) (wGt [(wSet 6), (wSet 3), (wSet 7)]))
  (wSeq (wAsg (wCB oMax2 (wCons (wVar 3) (wCons (wCallIo 2 S__law_take (wCons (wVar 0) (wCons (wOp oAdd (wVar 2) (wC (.int 1))) wNil))) wNil))) (wSet 3))
  (wSeq (wNew (wLc (wRng1 (wCons (wVar 3) wNil)) (wSet 8) wYes (wTup (wCons (wCallIo 4 S__law_place (wCons (wVar 0) (wCons (wVar 6) (wCons (wVar 3) (wCons (wVar 7) wNil))))) (wCons (wCallIo 4 S__law_place (wCons (wVar 0) (wCons (wVar 6) (wCons (wVar 3) (wCons (wVar 7) wNil))))) wNil))) [8]) 4)
  (wSeq (wIfS (wAndT (wTest (wOp oGt (wVar 3) (wC (.int 1)))) (wTest (wOp oEq (wCallIo 2 S__law_take (wCons (wVar 0) (wCons (wC (.int 3)) wNil))) (wC (.int 0)))))
  (wSetIt 4 (wCallIo 2 S__law_take (wCons (wVar 0) (wCons (wVar 3) wNil))) (wOp itemD (wVar 4) (wCallIo 2 S__law_take (wCons (wVar 0) (wCons (wVar 3) wNil)))))
  wNext)
  (wSeq (wAsg (wIf (wAndT (wTest (wOp oGt (wVar 3) (wC (.int 0)))) (wTest (wOp oGt (wCallIo 2 S__law_take (wCons (wVar 0) (wCons (wC (.int 12)) wNil))) (wC (.int 0))))) (wTup (wCons (wC (.str "to")) (wCons (wCallIo 2 S__law_take (wCons (wVar 0) (wCons (wVar 3) wNil))) wNil))) (wTup (wCons (wC (.str "is")) (wCons (wCallIo 2 S__law_take (wCons (wVar 0) (wCons (wVar 6) wNil))) wNil)))) (wSet 5))
  (wRet (wTup (wCons (wVar 6) (wCons (wVar 5) (wCons (wCB oTupOf (wCons (wVar 4) wNil)) wNil))))))))))
theorem d__law_machine {f__law_machine_ : Addr} {cdv : Value} {A : Around} {outer : List PySem.Env} {s : Shared} {H : Hp} {E : XK} {as : List (Option V)} (T : Tx mg) {f__law_take : Addr} {fd__law_take : FuncData} (c__law_take : FOk P w K ts mg base 1 2 "_law_take" f__law_take fd__law_take ["pot", "many"] S__law_take) {f__law_place : Addr} {fd__law_place : FuncData} (c__law_place : FOk P w K ts mg base 2 4 "_law_place" f__law_place fd__law_place ["pot", "n", "many", "weight"] S__law_place) (hr : Room 2 (A.deeper (envOfC "_law_machine" (defScope s__law_machine) s.heap.objs.size f__law_machine_ cdv))) :
    PSs (cxOf CX0 P w K mg base ["pot", "things", "states", "many", "rows_now", "begin", "n", "weight", "k"] "_law_machine" (defScope s__law_machine) f__law_machine_ cdv A outer s H E).nox (defBody s__law_machine) (upS K (as, ts, nW) t__law_machine) :=
  (scons (sasg (vtup (acons (vop op_add' opv_add vint (vcallIo ⟨c__law_take.fn, c__law_take.g, c__law_take.kp, c__law_take.b⟩ (hr.mono (by decide)) (acons (vv 0) (acons (vv 1) anil)))) (acons (vcallIo ⟨c__law_take.fn, c__law_take.g, c__law_take.kp, c__law_take.b⟩ (hr.mono (by decide)) (acons (vv 0) (acons (vop op_add' opv_add (vv 2) vint) anil))) (acons (vcallIo ⟨c__law_take.fn, c__law_take.g, c__law_take.kp, c__law_take.b⟩ (hr.mono (by decide)) (acons (vv 0) (acons vint anil))) anil)))) (gtup rfl (gcons (gset (i := 6) sc__law_machine.nd) (gcons (gset (i := 3) sc__law_machine.nd) (gcons (gset (i := 7) sc__law_machine.nd) gnil)))))
  (scons (sset (i := 3) sc__law_machine.nd (vcb (call_max2 rfl) (cv_i2 fun _ _ _ => .int _) T.max_ (by decide +kernel) (acons (vv 3) (acons (vcallIo ⟨c__law_take.fn, c__law_take.g, c__law_take.kp, c__law_take.b⟩ (hr.mono (by decide)) (acons (vv 0) (acons (vop op_add' opv_add (vv 2) vint) anil))) anil))))
  (scons (snewLc (i := 4) [("k", 8)] rfl sc__law_machine.nd (sw_true rfl rfl rfl (by decide +kernel)) (irng1 T.range_ (acons (vv 3) anil)) (fun _ _ _ _ _ => (gup (gset (i := 8) sc__law_machine.nd))) (fun _ _ _ _ _ => tsnil) (fun _ _ _ _ _ => (vtup (acons (vcallIo ⟨c__law_place.fn, c__law_place.g, c__law_place.kp, c__law_place.b⟩ hr (acons (vv 0) (acons (vv 6) (acons (vv 3) (acons (vv 7) anil))))) (acons (vcallIo ⟨c__law_place.fn, c__law_place.g, c__law_place.kp, c__law_place.b⟩ hr (acons (vv 0) (acons (vv 6) (acons (vv 3) (acons (vv 7) anil))))) anil)))) (blkOk_by (N := ["pot", "things", "states", "many", "rows_now", "begin", "n", "weight", "k"]) (sc := defScope s__law_machine) (by decide +kernel)) (by decide))
  (scons (sif (L2.PW.pt (wand (tcmp op_gt (opv_I0 fun _ _ _ => .bl _) (vv 3) vint) (wand1 (tcmp (op_eqD hr.units) opv_eq (vcallIo ⟨c__law_take.fn, c__law_take.g, c__law_take.kp, c__law_take.b⟩ (hr.mono (by decide)) (acons (vv 0) (acons vint anil))) vint))))
  (sone (ssetit 4 (vix ix_seq opv_ix (vv 4) (vcallIo ⟨c__law_take.fn, c__law_take.g, c__law_take.kp, c__law_take.b⟩ (hr.mono (by decide)) (acons (vv 0) (acons (vv 3) anil)))) (vcallIo ⟨c__law_take.fn, c__law_take.g, c__law_take.kp, c__law_take.b⟩ (hr.mono (by decide)) (acons (vv 0) (acons (vv 3) anil)))))
  snil)
  (scons (sset (i := 5) sc__law_machine.nd (vif (L2.PW.pt (wand (tcmp op_gt (opv_I0 fun _ _ _ => .bl _) (vv 3) vint) (wand1 (tcmp op_gt (opv_I0 fun _ _ _ => .bl _) (vcallIo ⟨c__law_take.fn, c__law_take.g, c__law_take.kp, c__law_take.b⟩ (hr.mono (by decide)) (acons (vv 0) (acons vint anil))) vint)))) (vtup (acons vstr (acons (vcallIo ⟨c__law_take.fn, c__law_take.g, c__law_take.kp, c__law_take.b⟩ (hr.mono (by decide)) (acons (vv 0) (acons (vv 3) anil))) anil))) (vtup (acons vstr (acons (vcallIo ⟨c__law_take.fn, c__law_take.g, c__law_take.kp, c__law_take.b⟩ (hr.mono (by decide)) (acons (vv 0) (acons (vv 6) anil))) anil)))))
  (sone (sret (vtup (acons (vv 6) (acons (vv 5) (acons (vct call_tuple_of cv_tuple T.tuple_ (by decide +kernel) (acons (vv 4) anil)) anil)))))))))))
abbrev s__law_counts : Stmt := topS 28
theorem sc__law_counts : FnScope ["machine", "k", "many", "turn", "follow", "word", "at", "place"] ["machine", "k"] (defScope s__law_counts) := ⟨rfl, rfl, rfl, by decide +kernel, rfl, by decide +kernel, by decide +kernel⟩
def t__law_counts : WS :=
  (wSeq (wAsg (wDispT (wOp itemD (wVar 0) (wC (.int 1))) (wC (.int 1))) (wSet 2))
  (wSeq (wFor (wRng1 (wCons (wVar 1) wNil)) (wSet 3)
  (wSeq (wTnew 4)
  (wSeq (wFor (wKeysT (wVar 2)) (wGt [(wSet 5), (wSet 6)])
  (wFor (wSeqOf (wIf (wTest (wOp oEq (wVar 5) (wC (.str "to")))) (wOp itemD (wOp itemD (wVar 0) (wC (.int 2))) (wVar 6)) (wTup wNil))) (wSet 7)
  (wTputK 4 (wVar 7) (wOp oAdd (wTGet2 4 (wVar 7) (wC (.int 0))) (wGKey (wVar 2) (wTup (wCons (wVar 5) (wCons (wVar 6) wNil))))))))
  (wAsg (wFrzT 4) (wSet 2)))))
  (wRet (wVar 2))))
theorem d__law_counts {f__law_counts_ : Addr} {cdv : Value} {A : Around} {outer : List PySem.Env} {s : Shared} {H : Hp} {E : XK} {as : List (Option V)} (T : Tx mg) (hr : Room 0 (A.deeper (envOfC "_law_counts" (defScope s__law_counts) s.heap.objs.size f__law_counts_ cdv))) :
    PSs (cxOf CX0 P w K mg base ["machine", "k", "many", "turn", "follow", "word", "at", "place"] "_law_counts" (defScope s__law_counts) f__law_counts_ cdv A outer s H E).nox (defBody s__law_counts) (upS K (as, ts, nW) t__law_counts) :=
  (scons (sset (i := 2) sc__law_counts.nd (vdispT (hu_of hr) (vix ix_seq opv_ix (vv 0) vint) vint))
  (scons (sfor rfl (irng1 T.range_ (acons (vv 1) anil)) (gset (i := 3) sc__law_counts.nd)
  (scons (stnew (i := 4) sc__law_counts.nd)
  (scons (sfor rfl (ikeysT (vv 2)) (gtup rfl (gcons (gset (i := 5) sc__law_counts.nd) (gcons (gset (i := 6) sc__law_counts.nd) gnil)))
  (sone (sfor rfl (iseq (vif (tcmp (op_eqD hr.units) opv_eq (vv 5) vstr) (vix ix_seq opv_ix (vix ix_seq opv_ix (vv 0) vint) (vv 6)) (vtup anil))) (gset (i := 7) sc__law_counts.nd)
  (sone (stputK 4 (hu_of hr) (vv 7) (vop op_add' opv_add (vtget2 4 (hu_of hr) (vv 7) vint) (vgkey (hu_of hr) (vv 2) (vtup (acons (vv 5) (acons (vv 6) anil))))))) PassesOwn.never)) PassesOwn.never)
  (sone (sset (i := 2) sc__law_counts.nd (vfrzT 4))))) PassesOwn.never)
  (sone (sret (vv 2)))))
abbrev s__law_come : Stmt := topS 27
theorem sc__law_come : FnScope ["machine", "tosses", "place", "toss"] ["machine", "tosses"] (defScope s__law_come) := ⟨rfl, rfl, rfl, by decide +kernel, rfl, by decide +kernel, by decide +kernel⟩
def t__law_come : WS :=
  (wSeq (wAsg (wOp itemD (wVar 0) (wC (.int 1))) (wSet 2))
  (wSeq (wFor (wSeqOf (wVar 1)) (wSet 3)
  (wSeq (wIfS (wOrT (wTest (wOp (oIsN false) (wVar 2) (wC .none))) (wTest (wOp oEq (wOp itemD (wVar 2) (wC (.int 0))) (wC (.str "is")))))
  (wRet (wC .none))
  wNext)
  (wAsg (wOp itemD (wOp itemD (wOp itemD (wVar 0) (wC (.int 2))) (wOp itemD (wVar 2) (wC (.int 1)))) (wVar 3)) (wSet 2))))
  (wRet (wVar 2))))
theorem d__law_come {f__law_come_ : Addr} {cdv : Value} {A : Around} {outer : List PySem.Env} {s : Shared} {H : Hp} {E : XK} {as : List (Option V)} (T : Tx mg) (hr : Room 0 (A.deeper (envOfC "_law_come" (defScope s__law_come) s.heap.objs.size f__law_come_ cdv))) :
    PSs (cxOf CX0 P w K mg base ["machine", "tosses", "place", "toss"] "_law_come" (defScope s__law_come) f__law_come_ cdv A outer s H E).nox (defBody s__law_come) (upS K (as, ts, nW) t__law_come) :=
  (scons (sset (i := 2) sc__law_come.nd (vix ix_seq opv_ix (vv 0) vint))
  (scons (sfor rfl (iseq (vv 1)) (gset (i := 3) sc__law_come.nd)
  (scons (sif (L2.PW.pt (wor (tcmp op_isN opv_isN (vv 2) vnon) (wor1 (tcmp (op_eqD hr.units) opv_eq (vix ix_seq opv_ix (vv 2) vint) vstr))))
  (sone (sret vnon))
  snil)
  (sone (sset (i := 2) sc__law_come.nd (vix ix_seq opv_ix (vix ix_seq opv_ix (vix ix_seq opv_ix (vv 0) vint) (vix ix_seq opv_ix (vv 2) vint)) (vv 3))))) PassesOwn.never)
  (sone (sret (vv 2)))))
abbrev s__law_by_rows : Stmt := topS 31
theorem sc__law_by_rows : FnScope ["machine", "k", "rows_now", "turn", "come", "row", "i"] ["machine", "k"] (defScope s__law_by_rows) := ⟨rfl, rfl, rfl, by decide +kernel, rfl, by decide +kernel, by decide +kernel⟩
def t__law_by_rows : WS :=
  (wSeq (wAsg (wStay (wLst (wCons (wTup wNil) wNil))) (wSet 2))
  (wSeq (wFor (wRng1 (wCons (wVar 1) wNil)) (wSet 3)
  (wAsg (wOp oAdd (wStay (wLc (wSeqOf (wVar 2)) (wSet 5) wYes (wOp oAdd (wVar 5) (wTup (wCons (wC (.int 0)) wNil))) [5])) (wStay (wLc (wSeqOf (wVar 2)) (wSet 5) wYes (wOp oAdd (wVar 5) (wTup (wCons (wC (.int 1)) wNil))) [5]))) (wSet 2)))
  (wSeq (wAsg (wStay (wLc (wSeqOf (wVar 2)) (wSet 5) wYes (wCall 2 S__law_come (wCons (wVar 0) (wCons (wVar 5) wNil))) [5])) (wSet 4))
  (wRet (wCB oTupOf (wCons (wStay (wLc (wRng1 (wCons (wOp itemD (wVar 0) (wC (.int 0))) wNil)) (wSet 6) wYes (wCount (wVar 4) (wTup (wCons (wC (.str "is")) (wCons (wVar 6) wNil)))) [6])) wNil))))))
theorem d__law_by_rows {f__law_by_rows_ : Addr} {cdv : Value} {A : Around} {outer : List PySem.Env} {s : Shared} {H : Hp} {E : XK} {as : List (Option V)} (T : Tx mg) {f__law_come : Addr} {fd__law_come : FuncData} (c__law_come : FOk P w K ts mg base 1 2 "_law_come" f__law_come fd__law_come ["machine", "tosses"] S__law_come) (hr : Room 1 (A.deeper (envOfC "_law_by_rows" (defScope s__law_by_rows) s.heap.objs.size f__law_by_rows_ cdv))) :
    PSs (cxOf CX0 P w K mg base ["machine", "k", "rows_now", "turn", "come", "row", "i"] "_law_by_rows" (defScope s__law_by_rows) f__law_by_rows_ cdv A outer s H E).nox (defBody s__law_by_rows) (upS K (as, ts, nW) t__law_by_rows) :=
  (scons (sset (i := 2) sc__law_by_rows.nd (vstay (vlst (acons (vtup anil) anil))))
  (scons (sfor rfl (irng1 T.range_ (acons (vv 1) anil)) (gset (i := 3) sc__law_by_rows.nd)
  (sone (sset (i := 2) sc__law_by_rows.nd (vop op_add' opv_add (vstay (vlc [("row", 5)] rfl (sc__law_by_rows.nd) (iseq (vv 2)) (fun _ _ _ _ _ => (gup (gset (i := 5) sc__law_by_rows.nd))) (fun _ _ _ _ _ => tsnil) (fun _ _ _ _ _ => (vop op_add' opv_add (vv 5) (vtup (acons vint anil)))) (blkOk_by (N := ["machine", "k", "rows_now", "turn", "come", "row", "i"]) (sc := defScope s__law_by_rows) (by decide +kernel)) (by decide))) (vstay (vlc [("row", 5)] rfl (sc__law_by_rows.nd) (iseq (vv 2)) (fun _ _ _ _ _ => (gup (gset (i := 5) sc__law_by_rows.nd))) (fun _ _ _ _ _ => tsnil) (fun _ _ _ _ _ => (vop op_add' opv_add (vv 5) (vtup (acons vint anil)))) (blkOk_by (N := ["machine", "k", "rows_now", "turn", "come", "row", "i"]) (sc := defScope s__law_by_rows) (by decide +kernel)) (by decide)))))) PassesOwn.never)
  (scons (sset (i := 4) sc__law_by_rows.nd (vstay (vlc [("row", 5)] rfl (sc__law_by_rows.nd) (iseq (vv 2)) (fun _ _ _ _ _ => (gup (gset (i := 5) sc__law_by_rows.nd))) (fun _ _ _ _ _ => tsnil) (fun _ _ _ _ _ => (vcall ⟨c__law_come.fn, c__law_come.g, c__law_come.kp, c__law_come.b⟩ hr (acons (vv 0) (acons (vv 5) anil)))) (blkOk_by (N := ["machine", "k", "rows_now", "turn", "come", "row", "i"]) (sc := defScope s__law_by_rows) (by decide +kernel)) (by decide))))
  (sone (sret (vct call_tuple_of cv_tuple T.tuple_ (by decide +kernel) (acons (vstay (vlc [("i", 6)] rfl (sc__law_by_rows.nd) (irng1 T.range_ (acons (vix ix_seq opv_ix (vv 0) vint) anil)) (fun _ _ _ _ _ => (gup (gset (i := 6) sc__law_by_rows.nd))) (fun _ _ _ _ _ => tsnil) (fun _ _ _ _ _ => (vcount (hu65 hr) (vv 4) (vtup (acons vstr (acons (vv 6) anil))))) (blkOk_by (N := ["machine", "k", "rows_now", "turn", "come", "row", "i"]) (sc := defScope s__law_by_rows) (by decide +kernel)) (by decide))) anil)))))))
abbrev s__law_same : Stmt := topS 24
theorem sc__law_same : FnScope ["got", "due", "k"] ["got", "due"] (defScope s__law_same) := ⟨rfl, rfl, rfl, by decide +kernel, rfl, by decide +kernel, by decide +kernel⟩
def t__law_same (j : Nat) : WS :=
  (wSeq (wIfS (wTest (wOp (oIsN false) (wVar 1) (wC .none)))
  (wRet (wOp (oIsN false) (wVar 0) (wC .none)))
  wNext)
  (wSeq (wIfS (wTest (wIsi2 "bool" "str" (wVar 1)))
  (wRet (wAnd (wOp oEq (wIsi "bool" (wVar 0)) (wIsi "bool" (wVar 1))) (wAnd (wIsi2 "bool" "str" (wVar 0)) (wOp oEq (wVar 0) (wVar 1)))))
  wNext)
  (wSeq (wIfS (wTest (wIsi "int" (wVar 1)))
  (wRet (wAnd (wIsi "int" (wVar 0)) (wAnd (wNot (wIsi "bool" (wVar 0))) (wOp oEq (wVar 0) (wVar 1)))))
  wNext)
  (wSeq (wIfS (wOrT (wTest (wOp oNe (wIsi "list" (wVar 1)) (wIsi "list" (wVar 0)))) (wTest (wOp oNe (wIsi "tuple" (wVar 1)) (wIsi "tuple" (wVar 0)))))
  (wRet (wC (.bool false)))
  wNext)
  (wRet (wAnd (wOp oEq (wCB oLen (wCons (wVar 0) wNil)) (wCB oLen (wCons (wVar 1) wNil))) (wCB oAllL (wCons (wStay (wLc (wRng1 (wCons (wCB oLen (wCons (wVar 1) wNil)) wNil)) (wSet 2) wYes (wCall 2 (S__law_same j) (wCons (wOp itemD (wVar 0) (wVar 2)) (wCons (wOp itemD (wVar 1) (wVar 2)) wNil))) [2])) wNil))))))))
theorem d__law_same {j : Nat} {f__law_same_ : Addr} {cdv : Value} {A : Around} {outer : List PySem.Env} {s : Shared} {H : Hp} {E : XK} {as : List (Option V)} (T : Tx mg) {f__law_same : Addr} {fd__law_same : FuncData} (c__law_same : FOk P w K ts mg base (1 + j) 2 "_law_same" f__law_same fd__law_same ["got", "due"] (S__law_same j)) (hr : Room (1 + j) (A.deeper (envOfC "_law_same" (defScope s__law_same) s.heap.objs.size f__law_same_ cdv))) :
    PSs (cxOf CX0 P w K mg base ["got", "due", "k"] "_law_same" (defScope s__law_same) f__law_same_ cdv A outer s H E).nox (defBody s__law_same) (upS K (as, ts, nW) (t__law_same j)) :=
  (scons (sif (tcmp op_isN opv_isN (vv 1) vnon)
  (sone (sret (vcmp op_isN opv_isN (vv 0) vnon)))
  snil)
  (scons (sif (tval (visi2 T.isinstance T.bool_ (by decide +kernel) T.str_ (by decide +kernel) (vv 1)))
  (sone (sret (vand (vcmp (op_eqD hr.units) opv_eq (visi T.isinstance T.bool_ (by decide +kernel) (vv 0)) (visi T.isinstance T.bool_ (by decide +kernel) (vv 1))) (vand (visi2 T.isinstance T.bool_ (by decide +kernel) T.str_ (by decide +kernel) (vv 0)) (vone (vcmp (op_eqD hr.units) opv_eq (vv 0) (vv 1)))))))
  snil)
  (scons (sif (tval (visi T.isinstance T.int_ (by decide +kernel) (vv 1)))
  (sone (sret (vand (visi T.isinstance T.int_ (by decide +kernel) (vv 0)) (vand (vnot (visi T.isinstance T.bool_ (by decide +kernel) (vv 0))) (vone (vcmp (op_eqD hr.units) opv_eq (vv 0) (vv 1)))))))
  snil)
  (scons (sif (L2.PW.pt (wor (tcmp (op_neD hr.units) opv_ne (visi T.isinstance T.list_ (by decide +kernel) (vv 1)) (visi T.isinstance T.list_ (by decide +kernel) (vv 0))) (wor1 (tcmp (op_neD hr.units) opv_ne (visi T.isinstance T.tuple_ (by decide +kernel) (vv 1)) (visi T.isinstance T.tuple_ (by decide +kernel) (vv 0))))))
  (sone (sret vbl))
  snil)
  (sone (sret (vand (vcmp (op_eqD hr.units) opv_eq (vcb call_len cv_len T.len_ (by decide +kernel) (acons (vv 0) anil)) (vcb call_len cv_len T.len_ (by decide +kernel) (acons (vv 1) anil))) (vone (vcb (cr_all rfl) cv_allL T.all_ (by decide +kernel) (acons (vstay (vlc [("k", 2)] rfl (sc__law_same.nd) (irng1 T.range_ (acons (vcb call_len cv_len T.len_ (by decide +kernel) (acons (vv 1) anil)) anil)) (fun _ _ _ _ _ => (gup (gset (i := 2) sc__law_same.nd))) (fun _ _ _ _ _ => tsnil) (fun _ _ _ _ _ => (vcall ⟨c__law_same.fn, c__law_same.g, c__law_same.kp, c__law_same.b⟩ hr (acons (vix ix_seq opv_ix (vv 0) (vv 2)) (acons (vix ix_seq opv_ix (vv 1) (vv 2)) anil)))) (blkOk_by (N := ["got", "due", "k"]) (sc := defScope s__law_same) (by decide +kernel)) (by decide))) anil))))))))))
abbrev s__law_walk : Stmt := topS 29
theorem sc__law_walk : FnScope ["machine", "tosses", "toss", "things", "place"] ["machine", "tosses"] (defScope s__law_walk) := ⟨rfl, rfl, rfl, by decide +kernel, rfl, by decide +kernel, by decide +kernel⟩
def t__law_walk : WS :=
  (wSeq (wPar 3 4 (wCons (wTup wNil) (wCons (wOp itemD (wVar 0) (wC (.int 1))) wNil)))
  (wSeq (wFor (wSeqOf (wVar 1)) (wSet 2)
  (wSeq (wAsg (wOp itemD (wOp itemD (wOp itemD (wVar 0) (wC (.int 2))) (wOp itemD (wVar 4) (wC (.int 1)))) (wVar 2)) (wSet 4))
  (wIfS (wTest (wOp oEq (wOp itemD (wVar 4) (wC (.int 0))) (wC (.str "is"))))
  (wPar 3 4 (wCons (wOp oAdd (wVar 3) (wTup (wCons (wOp itemD (wVar 4) (wC (.int 1))) wNil))) (wCons (wOp itemD (wVar 0) (wC (.int 1))) wNil)))
  wNext)))
  (wRet (wTup (wCons (wVar 3) (wCons (wVar 4) wNil))))))
theorem d__law_walk {f__law_walk_ : Addr} {cdv : Value} {A : Around} {outer : List PySem.Env} {s : Shared} {H : Hp} {E : XK} {as : List (Option V)} (T : Tx mg) (hr : Room 0 (A.deeper (envOfC "_law_walk" (defScope s__law_walk) s.heap.objs.size f__law_walk_ cdv))) :
    PSs (cxOf CX0 P w K mg base ["machine", "tosses", "toss", "things", "place"] "_law_walk" (defScope s__law_walk) f__law_walk_ cdv A outer s H E).nox (defBody s__law_walk) (upS K (as, ts, nW) t__law_walk) :=
  (scons (spar (i := 3) (j := 4) rfl sc__law_walk.nd (acons (vtup anil) (acons (vix ix_seq opv_ix (vv 0) vint) anil)))
  (scons (sfor rfl (iseq (vv 1)) (gset (i := 2) sc__law_walk.nd)
  (scons (sset (i := 4) sc__law_walk.nd (vix ix_seq opv_ix (vix ix_seq opv_ix (vix ix_seq opv_ix (vv 0) vint) (vix ix_seq opv_ix (vv 4) vint)) (vv 2)))
  (sone (sif (tcmp (op_eqD hr.units) opv_eq (vix ix_seq opv_ix (vv 4) vint) vstr)
  (sone (spar (i := 3) (j := 4) rfl sc__law_walk.nd (acons (vop op_add' opv_add (vv 3) (vtup (acons (vix ix_seq opv_ix (vv 4) vint) anil))) (acons (vix ix_seq opv_ix (vv 0) vint) anil))))
  snil))) PassesOwn.never)
  (sone (sret (vtup (acons (vv 3) (acons (vv 4) anil)))))))
abbrev s_is_integer : Stmt := topS 7
theorem sc_is_integer : FnScope ["told"] ["told"] (defScope s_is_integer) := ⟨rfl, rfl, rfl, by decide +kernel, rfl, by decide +kernel, by decide +kernel⟩
def t_is_integer : WS :=
  (wRet (wAnd (wIsi "int" (wVar 0)) (wNot (wIsi "bool" (wVar 0)))))
theorem d_is_integer {f_is_integer_ : Addr} {cdv : Value} {A : Around} {outer : List PySem.Env} {s : Shared} {H : Hp} {E : XK} {as : List (Option V)} (T : Tx mg) (hr : Room 0 (A.deeper (envOfC "is_integer" (defScope s_is_integer) s.heap.objs.size f_is_integer_ cdv))) :
    PSs (cxOf CX0 P w K mg base ["told"] "is_integer" (defScope s_is_integer) f_is_integer_ cdv A outer s H E).nox (defBody s_is_integer) (upS K (as, ts, nW) t_is_integer) :=
  (sone (sret (vand (visi T.isinstance T.int_ (by decide +kernel) (vv 0)) (vone (vnot (visi T.isinstance T.bool_ (by decide +kernel) (vv 0)))))))
abbrev s_is_integer_from : Stmt := topS 8
theorem sc_is_integer_from : FnScope ["told", "least"] ["told", "least"] (defScope s_is_integer_from) := ⟨rfl, rfl, rfl, by decide +kernel, rfl, by decide +kernel, by decide +kernel⟩
def t_is_integer_from : WS :=
  (wRet (wAnd (wCall 1 S_is_integer (wCons (wVar 0) wNil)) (wOp oGe (wVar 0) (wVar 1))))
theorem d_is_integer_from {f_is_integer_from_ : Addr} {cdv : Value} {A : Around} {outer : List PySem.Env} {s : Shared} {H : Hp} {E : XK} {as : List (Option V)} (T : Tx mg) {f_is_integer : Addr} {fd_is_integer : FuncData} (c_is_integer : FOk P w K ts mg base 1 1 "is_integer" f_is_integer fd_is_integer ["told"] S_is_integer) (hr : Room 1 (A.deeper (envOfC "is_integer_from" (defScope s_is_integer_from) s.heap.objs.size f_is_integer_from_ cdv))) :
    PSs (cxOf CX0 P w K mg base ["told", "least"] "is_integer_from" (defScope s_is_integer_from) f_is_integer_from_ cdv A outer s H E).nox (defBody s_is_integer_from) (upS K (as, ts, nW) t_is_integer_from) :=
  (sone (sret (vand (vcall ⟨c_is_integer.fn, c_is_integer.g, c_is_integer.kp, c_is_integer.b⟩ hr (acons (vv 0) anil)) (vone (vcmp op_ge (opv_I0 fun _ _ _ => .bl _) (vv 0) (vv 1))))))
abbrev s_is_thing : Stmt := topS 10
theorem sc_is_thing : FnScope ["told", "n"] ["told", "n"] (defScope s_is_thing) := ⟨rfl, rfl, rfl, by decide +kernel, rfl, by decide +kernel, by decide +kernel⟩
def t_is_thing : WS :=
  (wRet (wAnd (wCall 2 S_is_integer_from (wCons (wVar 0) (wCons (wC (.int 0)) wNil))) (wOp oLt (wVar 0) (wVar 1))))
theorem d_is_thing {f_is_thing_ : Addr} {cdv : Value} {A : Around} {outer : List PySem.Env} {s : Shared} {H : Hp} {E : XK} {as : List (Option V)} (T : Tx mg) {f_is_integer_from : Addr} {fd_is_integer_from : FuncData} (c_is_integer_from : FOk P w K ts mg base 2 2 "is_integer_from" f_is_integer_from fd_is_integer_from ["told", "least"] S_is_integer_from) (hr : Room 2 (A.deeper (envOfC "is_thing" (defScope s_is_thing) s.heap.objs.size f_is_thing_ cdv))) :
    PSs (cxOf CX0 P w K mg base ["told", "n"] "is_thing" (defScope s_is_thing) f_is_thing_ cdv A outer s H E).nox (defBody s_is_thing) (upS K (as, ts, nW) t_is_thing) :=
  (sone (sret (vand (vcall ⟨c_is_integer_from.fn, c_is_integer_from.g, c_is_integer_from.kp, c_is_integer_from.b⟩ hr (acons (vv 0) (acons vint anil))) (vone (vcmp op_lt (opv_I0 fun _ _ _ => .bl _) (vv 0) (vv 1))))))
abbrev s_is_place : Stmt := topS 17
theorem sc_is_place : FnScope ["told", "n", "states"] ["told", "n", "states"] (defScope s_is_place) := ⟨rfl, rfl, rfl, by decide +kernel, rfl, by decide +kernel, by decide +kernel⟩
def t_is_place : WS :=
  (wSeq (wIfS (wOrT (wNotT (wTest (wIsi "tuple" (wVar 0)))) (wTest (wOp oNe (wCB oLen (wCons (wVar 0) wNil)) (wC (.int 2)))))
  (wRet (wC (.bool false)))
  wNext)
  (wSeq (wIfS (wTest (wOp oEq (wOp itemD (wVar 0) (wC (.int 0))) (wC (.str "to"))))
  (wRet (wCall 2 S_is_thing (wCons (wOp itemD (wVar 0) (wC (.int 1))) (wCons (wVar 2) wNil))))
  wNext)
  (wRet (wAnd (wOp oEq (wOp itemD (wVar 0) (wC (.int 0))) (wC (.str "is"))) (wCall 2 S_is_thing (wCons (wOp itemD (wVar 0) (wC (.int 1))) (wCons (wVar 1) wNil)))))))
theorem d_is_place {f_is_place_ : Addr} {cdv : Value} {A : Around} {outer : List PySem.Env} {s : Shared} {H : Hp} {E : XK} {as : List (Option V)} (T : Tx mg) {f_is_thing : Addr} {fd_is_thing : FuncData} (c_is_thing : FOk P w K ts mg base 3 2 "is_thing" f_is_thing fd_is_thing ["told", "n"] S_is_thing) (hr : Room 3 (A.deeper (envOfC "is_place" (defScope s_is_place) s.heap.objs.size f_is_place_ cdv))) :
    PSs (cxOf CX0 P w K mg base ["told", "n", "states"] "is_place" (defScope s_is_place) f_is_place_ cdv A outer s H E).nox (defBody s_is_place) (upS K (as, ts, nW) t_is_place) :=
  (scons (sif (L2.PW.pt (wor (tnot (tval (visi T.isinstance T.tuple_ (by decide +kernel) (vv 0)))) (wor1 (tcmp (op_neD hr.units) opv_ne (vcb call_len cv_len T.len_ (by decide +kernel) (acons (vv 0) anil)) vint))))
  (sone (sret vbl))
  snil)
  (scons (sif (tcmp (op_eqD hr.units) opv_eq (vix ix_seq opv_ix (vv 0) vint) vstr)
  (sone (sret (vcall ⟨c_is_thing.fn, c_is_thing.g, c_is_thing.kp, c_is_thing.b⟩ hr (acons (vix ix_seq opv_ix (vv 0) vint) (acons (vv 2) anil)))))
  snil)
  (sone (sret (vand (vcmp (op_eqD hr.units) opv_eq (vix ix_seq opv_ix (vv 0) vint) vstr) (vone (vcall ⟨c_is_thing.fn, c_is_thing.g, c_is_thing.kp, c_is_thing.b⟩ hr (acons (vix ix_seq opv_ix (vv 0) vint) (acons (vv 1) anil)))))))))
abbrev s_is_pair : Stmt := topS 16
theorem sc_is_pair : FnScope ["told", "n", "states"] ["told", "n", "states"] (defScope s_is_pair) := ⟨rfl, rfl, rfl, by decide +kernel, rfl, by decide +kernel, by decide +kernel⟩
def t_is_pair : WS :=
  (wSeq (wIfS (wOrT (wNotT (wTest (wIsi "tuple" (wVar 0)))) (wTest (wOp oNe (wCB oLen (wCons (wVar 0) wNil)) (wC (.int 2)))))
  (wRet (wC (.bool false)))
  wNext)
  (wRet (wAnd (wCall 3 S_is_place (wCons (wOp itemD (wVar 0) (wC (.int 0))) (wCons (wVar 1) (wCons (wVar 2) wNil)))) (wCall 3 S_is_place (wCons (wOp itemD (wVar 0) (wC (.int 1))) (wCons (wVar 1) (wCons (wVar 2) wNil)))))))
theorem d_is_pair {f_is_pair_ : Addr} {cdv : Value} {A : Around} {outer : List PySem.Env} {s : Shared} {H : Hp} {E : XK} {as : List (Option V)} (T : Tx mg) {f_is_place : Addr} {fd_is_place : FuncData} (c_is_place : FOk P w K ts mg base 4 3 "is_place" f_is_place fd_is_place ["told", "n", "states"] S_is_place) (hr : Room 4 (A.deeper (envOfC "is_pair" (defScope s_is_pair) s.heap.objs.size f_is_pair_ cdv))) :
    PSs (cxOf CX0 P w K mg base ["told", "n", "states"] "is_pair" (defScope s_is_pair) f_is_pair_ cdv A outer s H E).nox (defBody s_is_pair) (upS K (as, ts, nW) t_is_pair) :=
  (scons (sif (L2.PW.pt (wor (tnot (tval (visi T.isinstance T.tuple_ (by decide +kernel) (vv 0)))) (wor1 (tcmp (op_neD hr.units) opv_ne (vcb call_len cv_len T.len_ (by decide +kernel) (acons (vv 0) anil)) vint))))
  (sone (sret vbl))
  snil)
  (sone (sret (vand (vcall ⟨c_is_place.fn, c_is_place.g, c_is_place.kp, c_is_place.b⟩ hr (acons (vix ix_seq opv_ix (vv 0) vint) (acons (vv 1) (acons (vv 2) anil)))) (vone (vcall ⟨c_is_place.fn, c_is_place.g, c_is_place.kp, c_is_place.b⟩ hr (acons (vix ix_seq opv_ix (vv 0) vint) (acons (vv 1) (acons (vv 2) anil)))))))))
abbrev s_is_machine : Stmt := topS 15
theorem sc_is_machine : FnScope ["told", "n", "begin", "rows", "row"] ["told"] (defScope s_is_machine) := ⟨rfl, rfl, rfl, by decide +kernel, rfl, by decide +kernel, by decide +kernel⟩
def t_is_machine : WS :=
  (wSeq (wIfS (wOrT (wNotT (wTest (wIsi "tuple" (wVar 0)))) (wTest (wOp oNe (wCB oLen (wCons (wVar 0) wNil)) (wC (.int 3)))))
  (wRet (wC (.bool false)))
  wNext)
  (wSeq (wAsg (wVar 0) (wGt [(wSet 1), (wSet 2), (wSet 3)]))
  (wSeq (wIfS (wOrT (wNotT (wTest (wCall 2 S_is_integer_from (wCons (wVar 1) (wCons (wC (.int 1)) wNil))))) (wNotT (wTest (wIsi "tuple" (wVar 3)))))
  (wRet (wC (.bool false)))
  wNext)
  (wRet (wAnd (wCall 3 S_is_place (wCons (wVar 2) (wCons (wVar 1) (wCons (wCB oLen (wCons (wVar 3) wNil)) wNil)))) (wGAll (wSeqOf (wVar 3)) (wSet 4) wYes (wCall 3 S_is_pair (wCons (wVar 4) (wCons (wVar 1) (wCons (wCB oLen (wCons (wVar 3) wNil)) wNil)))) [4]))))))
theorem d_is_machine {f_is_machine_ : Addr} {cdv : Value} {A : Around} {outer : List PySem.Env} {s : Shared} {H : Hp} {E : XK} {as : List (Option V)} (T : Tx mg) {c_ P_ : Addr} (G : GxD base mg ts cdv c_ P_) {f_is_integer_from : Addr} {fd_is_integer_from : FuncData} (c_is_integer_from : FOk P w K ts mg base 2 2 "is_integer_from" f_is_integer_from fd_is_integer_from ["told", "least"] S_is_integer_from) {f_is_place : Addr} {fd_is_place : FuncData} (c_is_place : FOk P w K ts mg base 4 3 "is_place" f_is_place fd_is_place ["told", "n", "states"] S_is_place) {f_is_pair : Addr} {fd_is_pair : FuncData} (c_is_pair : FOk P w K ts mg base 5 3 "is_pair" f_is_pair fd_is_pair ["told", "n", "states"] S_is_pair) (hr : Room 7 (A.deeper (envOfC "is_machine" (defScope s_is_machine) s.heap.objs.size f_is_machine_ cdv))) :
    PSs (cxOf CX0 P w K mg base ["told", "n", "begin", "rows", "row"] "is_machine" (defScope s_is_machine) f_is_machine_ cdv A outer s H E).nox (defBody s_is_machine) (upS K (as, ts, nW) t_is_machine) :=
  (scons (sif (L2.PW.pt (wor (tnot (tval (visi T.isinstance T.tuple_ (by decide +kernel) (vv 0)))) (wor1 (tcmp (op_neD hr.units) opv_ne (vcb call_len cv_len T.len_ (by decide +kernel) (acons (vv 0) anil)) vint))))
  (sone (sret vbl))
  snil)
  (scons (sasg (vv 0) (gtup rfl (gcons (gset (i := 1) sc_is_machine.nd) (gcons (gset (i := 2) sc_is_machine.nd) (gcons (gset (i := 3) sc_is_machine.nd) gnil)))))
  (scons (sif (L2.PW.pt (wor (tnot (tval (vcall ⟨c_is_integer_from.fn, c_is_integer_from.g, c_is_integer_from.kp, c_is_integer_from.b⟩ (hr.mono (by decide)) (acons (vv 1) (acons vint anil))))) (wor1 (tnot (tval (visi T.isinstance T.tuple_ (by decide +kernel) (vv 3)))))))
  (sone (sret vbl))
  snil)
  (sone (sret (vand (vcall ⟨c_is_place.fn, c_is_place.g, c_is_place.kp, c_is_place.b⟩ (hr.mono (by decide)) (acons (vv 2) (acons (vv 1) (acons (vcb call_len cv_len T.len_ (by decide +kernel) (acons (vv 3) anil)) anil)))) (vone (vgall (k := 5) [("row", 4)] T.all_ rfl sc_is_machine.nd hr (gxt0 G.hP G.TB G.hc) (iseq (vv 3)) (fun _ _ _ _ _ _ _ _ => (gup (gset (i := 4) sc_is_machine.nd))) (fun _ _ _ _ _ _ _ _ _ hin hr => tsnil) (fun _ _ _ _ _ _ _ _ _ hin hr => (vcall ⟨c_is_pair.fn, c_is_pair.g, c_is_pair.kp, c_is_pair.b⟩ hr (acons (vv 4) (acons (vv 1) (acons (vcb call_len cv_len T.len_ (by decide +kernel) (acons (vv 3) anil)) anil))))) (blkOk_by (N := ["told", "n", "begin", "rows", "row"]) (sc := defScope s_is_machine) (by decide +kernel)) (by decide +kernel) (by decide)))))))))
abbrev s_check_machine : Stmt := topS 18
theorem sc_check_machine : FnScope ["machine"] ["machine"] (defScope s_check_machine) := ⟨rfl, rfl, rfl, by decide +kernel, rfl, by decide +kernel, by decide +kernel⟩
def t_check_machine : WS :=
  (wIfS (wNotT (wTest (wCall 1 S_is_machine (wCons (wVar 0) wNil))))
  wNever
  wNext)
theorem d_check_machine {f_check_machine_ : Addr} {cdv : Value} {A : Around} {outer : List PySem.Env} {s : Shared} {H : Hp} {E : XK} {as : List (Option V)} (T : Tx mg) {f_is_machine : Addr} {fd_is_machine : FuncData} (c_is_machine : FOk P w K ts mg base 8 1 "is_machine" f_is_machine fd_is_machine ["told"] S_is_machine) (hr : Room 8 (A.deeper (envOfC "check_machine" (defScope s_check_machine) s.heap.objs.size f_check_machine_ cdv))) :
    PSs (cxOf CX0 P w K mg base ["machine"] "check_machine" (defScope s_check_machine) f_check_machine_ cdv A outer s H E).nox (defBody s_check_machine) (upS K (as, ts, nW) t_check_machine) :=
  (sone (sif (tnot (tval (vcall ⟨c_is_machine.fn, c_is_machine.g, c_is_machine.kp, c_is_machine.b⟩ hr (acons (vv 0) anil))))
  (sone snever)
  snil))
abbrev s_is_signs : Stmt := topS 13
theorem sc_is_signs : FnScope ["told", "sign"] ["told"] (defScope s_is_signs) := ⟨rfl, rfl, rfl, by decide +kernel, rfl, by decide +kernel, by decide +kernel⟩
def t_is_signs : WS :=
  (wRet (wAnd (wIsi "tuple" (wVar 0)) (wGAll (wSeqOf (wVar 0)) (wSet 1) wYes (wAnd (wCall 2 S_is_integer_from (wCons (wVar 1) (wCons (wC (.int 0)) wNil))) (wOp oLe (wVar 1) (wC (.int 1)))) [1])))
theorem d_is_signs {f_is_signs_ : Addr} {cdv : Value} {A : Around} {outer : List PySem.Env} {s : Shared} {H : Hp} {E : XK} {as : List (Option V)} (T : Tx mg) {c_ P_ : Addr} (G : GxD base mg ts cdv c_ P_) {f_is_integer_from : Addr} {fd_is_integer_from : FuncData} (c_is_integer_from : FOk P w K ts mg base 2 2 "is_integer_from" f_is_integer_from fd_is_integer_from ["told", "least"] S_is_integer_from) (hr : Room 4 (A.deeper (envOfC "is_signs" (defScope s_is_signs) s.heap.objs.size f_is_signs_ cdv))) :
    PSs (cxOf CX0 P w K mg base ["told", "sign"] "is_signs" (defScope s_is_signs) f_is_signs_ cdv A outer s H E).nox (defBody s_is_signs) (upS K (as, ts, nW) t_is_signs) :=
  (sone (sret (vand (visi T.isinstance T.tuple_ (by decide +kernel) (vv 0)) (vone (vgall (k := 2) [("sign", 1)] T.all_ rfl sc_is_signs.nd hr (gxt0 G.hP G.TB G.hc) (iseq (vv 0)) (fun _ _ _ _ _ _ _ _ => (gup (gset (i := 1) sc_is_signs.nd))) (fun _ _ _ _ _ _ _ _ _ hin hr => tsnil) (fun _ _ _ _ _ _ _ _ _ hin hr => (vand (vcall ⟨c_is_integer_from.fn, c_is_integer_from.g, c_is_integer_from.kp, c_is_integer_from.b⟩ hr (acons (vv 1) (acons vint anil))) (vone (vcmp op_le (opv_I0 fun _ _ _ => .bl _) (vv 1) vint)))) (blkOk_by (N := ["told", "sign"]) (sc := defScope s_is_signs) (by decide +kernel)) (by decide +kernel) (by decide))))))
abbrev s_walk : Stmt := topS 19
theorem sc_walk : FnScope ["machine", "tosses", "things", "place", "toss", "_", "begin", "rows"] ["machine", "tosses"] (defScope s_walk) := ⟨rfl, rfl, rfl, by decide +kernel, rfl, by decide +kernel, by decide +kernel⟩
def t_walk : WS :=
  (wSeq (wDrop (wCall 1 S_check_machine (wCons (wVar 0) wNil)))
  (wSeq (wIfS (wOrT (wNotT (wTest (wIsi2 "list" "tuple" (wVar 1)))) (wNotT (wTest (wCall 1 S_is_signs (wCons (wCB oTupOf (wCons (wVar 1) wNil)) wNil)))))
  (wRaise "InvalidRow" (wVar 1))
  wNext)
  (wSeq (wAsg (wVar 0) (wGt [(wSet 5), (wSet 6), (wSet 7)]))
  (wSeq (wIfS (wAndT (wTest (wOp oEq (wOp itemD (wVar 6) (wC (.int 0))) (wC (.str "is")))) (wTest (wOp oGt (wCB oLen (wCons (wVar 1) wNil)) (wC (.int 0)))))
  (wRaise "NotDrawn" (wVar 0))
  wNext)
  (wSeq (wNew (wLst wNil) 2)
  (wSeq (wAsg (wVar 6) (wSet 3))
  (wSeq (wFor (wSeqOf (wVar 1)) (wSet 4)
  (wSeq (wAsg (wOp itemD (wOp itemD (wVar 7) (wOp itemD (wVar 3) (wC (.int 1)))) (wVar 4)) (wSet 3))
  (wIfS (wTest (wOp oEq (wOp itemD (wVar 3) (wC (.int 0))) (wC (.str "is"))))
  (wSeq (wApp 2 (wOp itemD (wVar 3) (wC (.int 1))))
  (wAsg (wVar 6) (wSet 3)))
  wNext)))
  (wRet (wTup (wCons (wCB oTupOf (wCons (wVar 2) wNil)) (wCons (wVar 3) wNil)))))))))))
theorem d_walk {f_walk_ : Addr} {cdv : Value} {A : Around} {outer : List PySem.Env} {s : Shared} {H : Hp} {E : XK} {as : List (Option V)} (T : Tx mg) (er_InvalidRow : ErT P w K mg base "InvalidRow") (er_NotDrawn : ErT P w K mg base "NotDrawn") {f_check_machine : Addr} {fd_check_machine : FuncData} (c_check_machine : FOk P w K ts mg base 9 1 "check_machine" f_check_machine fd_check_machine ["machine"] S_check_machine) {f_is_signs : Addr} {fd_is_signs : FuncData} (c_is_signs : FOk P w K ts mg base 5 1 "is_signs" f_is_signs fd_is_signs ["told"] S_is_signs) {W : Str → V → L2.St → Hp → Prop} (tk : Takes (cxOf (L2.CX P w) P w K mg base ["machine", "tosses", "things", "place", "toss", "_", "begin", "rows"] "walk" (defScope s_walk) f_walk_ cdv A outer s H E) (wxV mg W)) (hr : Room 9 (A.deeper (envOfC "walk" (defScope s_walk) s.heap.objs.size f_walk_ cdv))) :
    PSs (cxOf (L2.CX P w) P w K mg base ["machine", "tosses", "things", "place", "toss", "_", "begin", "rows"] "walk" (defScope s_walk) f_walk_ cdv A outer s H E) (defBody s_walk) (upS K (as, ts, W) t_walk) :=
  (scons (sdrop (vcall ⟨c_check_machine.fn, c_check_machine.g, c_check_machine.kp, c_check_machine.b⟩ hr (acons (vv 0) anil)))
  (scons (sif (L2.PW.pt (wor (tnot (tval (visi2 T.isinstance T.list_ (by decide +kernel) T.tuple_ (by decide +kernel) (vv 1)))) (wor1 (tnot (tval (vcall ⟨c_is_signs.fn, c_is_signs.g, c_is_signs.kp, c_is_signs.b⟩ (hr.mono (by decide)) (acons (vct call_tuple_of cv_tuple T.tuple_ (by decide +kernel) (acons (vv 1) anil)) anil)))))))
  (sone (sraise er_InvalidRow rfl tk (hr.mono (by decide)) (vv 1)))
  snil)
  (scons (sasg (vv 0) (gtup rfl (gcons (gset (i := 5) sc_walk.nd) (gcons (gset (i := 6) sc_walk.nd) (gcons (gset (i := 7) sc_walk.nd) gnil)))))
  (scons (sif (L2.PW.pt (wand (tcmp (op_eqD hr.units) opv_eq (vix ix_seq opv_ix (vv 6) vint) vstr) (wand1 (tcmp op_gt (opv_I0 fun _ _ _ => .bl _) (vcb call_len cv_len T.len_ (by decide +kernel) (acons (vv 1) anil)) vint))))
  (sone (sraise er_NotDrawn rfl tk (hr.mono (by decide)) (vv 0)))
  snil)
  (scons (snew (i := 2) sc_walk.nd (vlst anil))
  (scons (sset (i := 3) sc_walk.nd (vv 6))
  (scons (sfor rfl (iseq (vv 1)) (gset (i := 4) sc_walk.nd)
  (scons (sset (i := 3) sc_walk.nd (vix ix_seq opv_ix (vix ix_seq opv_ix (vv 7) (vix ix_seq opv_ix (vv 3) vint)) (vv 4)))
  (sone (sif (tcmp (op_eqD hr.units) opv_eq (vix ix_seq opv_ix (vv 3) vint) vstr)
  (scons (sapp 2 (vix ix_seq opv_ix (vv 3) vint))
  (sone (sset (i := 3) sc_walk.nd (vv 6))))
  snil))) (L2.passes_of rfl))
  (sone (sret (vtup (acons (vct call_tuple_of cv_tuple T.tuple_ (by decide +kernel) (acons (vv 2) anil)) (acons (vv 3) anil))))))))))))
abbrev s__law_told : Stmt := topS 30
theorem sc__law_told : FnScope ["machine", "tosses", "named", "e", "answer"] ["machine", "tosses", "named"] (defScope s__law_told) := ⟨rfl, rfl, rfl, by decide +kernel, rfl, by decide +kernel, by decide +kernel⟩
def t__law_told : WS :=
  (wSeq (wTry cs_
  (wAsgX (wTupX (wConsX (wPure (wC (.str "walk"))) (wConsX (wIfX (wPureT (wTest (wVar 2))) (wCallKX 0 2 [1, 0] S_walk wNil (wCons (wVar 1) (wCons (wVar 0) wNil))) (wCallX 2 S_walk (wPureA (wCons (wVar 0) (wCons (wVar 1) wNil))))) (wPureA wNil)))) (wSet 4))
  [.named k_NotDrawn 3 (fun x_ => (wAsg (wTup (wCons (wC (.str "not drawn")) (wCons (wC x_) wNil))) (wSet 4))), .named k_TossError 3 (fun x_ => (wAsg (wTup (wCons (wC (.str "wrong")) (wCons (wC x_) wNil))) (wSet 4)))])
  (wRet (wVar 4)))
theorem d__law_told {f__law_told_ : Addr} {cdv : Value} {A : Around} {outer : List PySem.Env} {s : Shared} {H : Hp} {E : XK} {as : List (Option V)} (T : Tx mg) (erf : ErF K mg cs_) (cl_NotDrawn : ClT K mg cs_ "NotDrawn" k_NotDrawn) (cl_TossError : ClT K mg cs_ "TossError" k_TossError) {f_walk : Addr} {fd_walk : FuncData} (c_walk : FOkX P w K ts mg base 10 2 "walk" f_walk fd_walk ["machine", "tosses"] S_walk) (kw_walk_0_tosses_machine : KwB K fd_walk ["machine", "tosses"] 0 ["tosses", "machine"] [1, 0]) (hr : Room 10 (A.deeper (envOfC "_law_told" (defScope s__law_told) s.heap.objs.size f__law_told_ cdv))) :
    PSs (cxOf CX0 P w K mg base ["machine", "tosses", "named", "e", "answer"] "_law_told" (defScope s__law_told) f__law_told_ cdv A outer s H E).nox (defBody s__law_told) (upS K (as, ts, nW) t__law_told) :=
  (scons (stryE sc__law_told.nd takes_no erf (fun W pn xe tk => (sone (xset (i := 4) sc__law_told.nd (xtup (xcons (xpure vstr) (xcons (xif (xpureT (tval (vv 2))) (xcallK0 (pm := [1, 0]) ⟨c_walk.fn, c_walk.g, c_walk.kp, c_walk.b⟩ tk hr kw_walk_0_tosses_machine (akcons (vv 1) (akcons (vv 0) aknil))) (xcall ⟨c_walk.fn, c_walk.g, c_walk.kp, c_walk.b⟩ tk hr (xpureA (acons (vv 0) (acons (vv 1) anil))))) (xpureA anil))))))) (clN cl_NotDrawn (fun a oe cls d pn hz hf => (esone (eset (j := 4) sc__law_told.nd (etup (econs (epure vstr) (econs (evalue (i := 3) hz hf) enil)))))) (clN cl_TossError (fun a oe cls d pn hz hf => (esone (eset (j := 4) sc__law_told.nd (etup (econs (epure vstr) (econs (evalue (i := 3) hz hf) enil)))))) cl0)))
  (sone (sret (vv 4))))
abbrev s_check_place : Stmt := topS 12
theorem sc_check_place : FnScope ["k"] ["k"] (defScope s_check_place) := ⟨rfl, rfl, rfl, by decide +kernel, rfl, by decide +kernel, by decide +kernel⟩
def t_check_place : WS :=
  (wIfS (wNotT (wTest (wCall 2 S_is_integer_from (wCons (wVar 0) (wCons (wC (.int 0)) wNil)))))
  wNever
  wNext)
theorem d_check_place {f_check_place_ : Addr} {cdv : Value} {A : Around} {outer : List PySem.Env} {s : Shared} {H : Hp} {E : XK} {as : List (Option V)} (T : Tx mg) {f_is_integer_from : Addr} {fd_is_integer_from : FuncData} (c_is_integer_from : FOk P w K ts mg base 2 2 "is_integer_from" f_is_integer_from fd_is_integer_from ["told", "least"] S_is_integer_from) (hr : Room 2 (A.deeper (envOfC "check_place" (defScope s_check_place) s.heap.objs.size f_check_place_ cdv))) :
    PSs (cxOf CX0 P w K mg base ["k"] "check_place" (defScope s_check_place) f_check_place_ cdv A outer s H E).nox (defBody s_check_place) (upS K (as, ts, nW) t_check_place) :=
  (sone (sif (tnot (tval (vcall ⟨c_is_integer_from.fn, c_is_integer_from.g, c_is_integer_from.kp, c_is_integer_from.b⟩ hr (acons (vv 0) (acons vint anil)))))
  (sone snever)
  snil))
abbrev s_counts_below : Stmt := topS 21
theorem sc_counts_below : FnScope ["rows", "counts", "found", "place", "many", "below"] ["rows", "counts"] (defScope s_counts_below) := ⟨rfl, rfl, rfl, by decide +kernel, rfl, by decide +kernel, by decide +kernel⟩
def t_counts_below : WS :=
  (wSeq (wTnew 2)
  (wSeq (wFor (wItemsT (wVar 1)) (wGt [(wSet 3), (wSet 4)])
  (wIfS (wTest (wOp oEq (wOp itemD (wVar 3) (wC (.int 0))) (wC (.str "to"))))
  (wFor (wSeqOf (wOp itemD (wVar 0) (wOp itemD (wVar 3) (wC (.int 1))))) (wSet 5)
  (wTputK 2 (wVar 5) (wOp oAdd (wTGet2 2 (wVar 5) (wC (.int 0))) (wVar 4))))
  wNext))
  (wRet (wFrzT 2))))
theorem d_counts_below {f_counts_below_ : Addr} {cdv : Value} {A : Around} {outer : List PySem.Env} {s : Shared} {H : Hp} {E : XK} {as : List (Option V)} (T : Tx mg) (hr : Room 0 (A.deeper (envOfC "counts_below" (defScope s_counts_below) s.heap.objs.size f_counts_below_ cdv))) :
    PSs (cxOf CX0 P w K mg base ["rows", "counts", "found", "place", "many", "below"] "counts_below" (defScope s_counts_below) f_counts_below_ cdv A outer s H E).nox (defBody s_counts_below) (upS K (as, ts, nW) t_counts_below) :=
  (scons (stnew (i := 2) sc_counts_below.nd)
  (scons (sfor rfl (iitemsT (vv 1)) (gtup rfl (gcons (gset (i := 3) sc_counts_below.nd) (gcons (gset (i := 4) sc_counts_below.nd) gnil)))
  (sone (sif (tcmp (op_eqD hr.units) opv_eq (vix ix_seq opv_ix (vv 3) vint) vstr)
  (sone (sfor rfl (iseq (vix ix_seq opv_ix (vv 0) (vix ix_seq opv_ix (vv 3) vint))) (gset (i := 5) sc_counts_below.nd)
  (sone (stputK 2 (hu_of hr) (vv 5) (vop op_add' opv_add (vtget2 2 (hu_of hr) (vv 5) vint) (vv 4)))) PassesOwn.never))
  snil)) PassesOwn.never)
  (sone (sret (vfrzT 2)))))
abbrev s_leaves_of : Stmt := topS 20
theorem sc_leaves_of : FnScope ["machine", "k", "counts", "_", "n", "begin", "rows", "thing"] ["machine", "k"] (defScope s_leaves_of) := ⟨rfl, rfl, rfl, by decide +kernel, rfl, by decide +kernel, by decide +kernel⟩
def t_leaves_of : WS :=
  (wSeq (wDrop (wCall 1 S_check_machine (wCons (wVar 0) wNil)))
  (wSeq (wDrop (wCall 1 S_check_place (wCons (wVar 1) wNil)))
  (wSeq (wAsg (wVar 0) (wGt [(wSet 4), (wSet 5), (wSet 6)]))
  (wSeq (wAsg (wDispT (wVar 5) (wC (.int 1))) (wSet 2))
  (wSeq (wFor (wRng1 (wCons (wVar 1) wNil)) (wSet 3)
  (wAsg (wCall 2 S_counts_below (wCons (wVar 6) (wCons (wVar 2) wNil))) (wSet 2)))
  (wRet (wGTup (wRng1 (wCons (wVar 4) wNil)) (wSet 7) wYes (wGGet2 (wVar 2) (wTup (wCons (wC (.str "is")) (wCons (wVar 7) wNil))) (wC (.int 0))) [7])))))))
theorem d_leaves_of {f_leaves_of_ : Addr} {cdv : Value} {A : Around} {outer : List PySem.Env} {s : Shared} {H : Hp} {E : XK} {as : List (Option V)} (T : Tx mg) {c_ P_ : Addr} (G : GxD base mg ts cdv c_ P_) {f_check_machine : Addr} {fd_check_machine : FuncData} (c_check_machine : FOk P w K ts mg base 9 1 "check_machine" f_check_machine fd_check_machine ["machine"] S_check_machine) {f_check_place : Addr} {fd_check_place : FuncData} (c_check_place : FOk P w K ts mg base 3 1 "check_place" f_check_place fd_check_place ["k"] S_check_place) {f_counts_below : Addr} {fd_counts_below : FuncData} (c_counts_below : FOk P w K ts mg base 1 2 "counts_below" f_counts_below fd_counts_below ["rows", "counts"] S_counts_below) (hr : Room 9 (A.deeper (envOfC "leaves_of" (defScope s_leaves_of) s.heap.objs.size f_leaves_of_ cdv))) :
    PSs (cxOf CX0 P w K mg base ["machine", "k", "counts", "_", "n", "begin", "rows", "thing"] "leaves_of" (defScope s_leaves_of) f_leaves_of_ cdv A outer s H E).nox (defBody s_leaves_of) (upS K (as, ts, nW) t_leaves_of) :=
  (scons (sdrop (vcall ⟨c_check_machine.fn, c_check_machine.g, c_check_machine.kp, c_check_machine.b⟩ hr (acons (vv 0) anil)))
  (scons (sdrop (vcall ⟨c_check_place.fn, c_check_place.g, c_check_place.kp, c_check_place.b⟩ (hr.mono (by decide)) (acons (vv 1) anil)))
  (scons (sasg (vv 0) (gtup rfl (gcons (gset (i := 4) sc_leaves_of.nd) (gcons (gset (i := 5) sc_leaves_of.nd) (gcons (gset (i := 6) sc_leaves_of.nd) gnil)))))
  (scons (sset (i := 2) sc_leaves_of.nd (vdispT (hu_of hr) (vv 5) vint))
  (scons (sfor rfl (irng1 T.range_ (acons (vv 1) anil)) (gset (i := 3) sc_leaves_of.nd)
  (sone (sset (i := 2) sc_leaves_of.nd (vcall ⟨c_counts_below.fn, c_counts_below.g, c_counts_below.kp, c_counts_below.b⟩ (hr.mono (by decide)) (acons (vv 6) (acons (vv 2) anil))))) PassesOwn.never)
  (sone (sret (vgtup (k := 7) [("thing", 7)] T.tuple_ rfl sc_leaves_of.nd hr (gxt0 G.hP G.TB G.hc) (irng1 T.range_ (acons (vv 4) anil)) (fun _ _ _ _ _ _ _ _ => (gup (gset (i := 7) sc_leaves_of.nd))) (fun _ _ _ _ _ _ _ _ _ hin hr => tsnil) (fun _ _ _ _ _ _ _ _ _ hin hr => (vgget2 (hu_of hr) (vv 2) (vtup (acons vstr (acons (vv 7) anil))) vint)) (blkOk_by (N := ["machine", "k", "counts", "_", "n", "begin", "rows", "thing"]) (sc := defScope s_leaves_of) (by decide +kernel)) (by decide +kernel) (by decide)))))))))
abbrev s_law : Stmt := topS 32
theorem sc_law : FnScope ["script", "pot", "turn", "machine", "look", "k", "counts", "tosses", "due", "kept", "told", "i"] ["script"] (defScope s_law) := ⟨rfl, rfl, rfl, by decide +kernel, rfl, by decide +kernel, by decide +kernel⟩
def t_law : WS :=
  (wSeq (wNew (wOpN oCatN (wStay (wLst (wCons (wC (.int 0)) (wCons (wC (.int 7)) (wCons (wC (.int 3)) wNil))))) (wStay (wCBN oSeqN (wCons (wVar 0) wNil)))) 1)
  (wSeq (wFor (wRng1 (wCons (wC (.int 6)) wNil)) (wSet 2)
  (wSeq (wAsg (wCallIo 3 S__law_machine (wCons (wVar 1) (wCons (wC (.int 6)) (wCons (wC (.int 12)) wNil)))) (wSet 3))
  (wSeq (wFor (wRng1 (wCons (wC (.int 4)) wNil)) (wSet 4)
  (wSeq (wAsg (wStay (wLc (wRng1 (wCons (wIf (wTest (wOp oGt (wVar 4) (wC (.int 0)))) (wCallIo 2 S__law_take (wCons (wVar 1) (wCons (wC (.int 41)) wNil))) (wC (.int 0))) wNil)) (wSet 5) wYes (wCallIo 2 S__law_take (wCons (wVar 1) (wCons (wC (.int 2)) wNil))) [5])) (wSet 7))
  (wSeq (wAsg (wTup (wCons (wC (.str "walk")) (wCons (wCall 2 S__law_walk (wCons (wVar 3) (wCons (wIf (wTest (wOp oEq (wOp itemD (wOp itemD (wVar 3) (wC (.int 1))) (wC (.int 0))) (wC (.str "to")))) (wVar 7) (wTup wNil)) wNil))) wNil))) (wSet 8))
  (wSeq (wIfS (wAndT (wTest (wOp oEq (wOp itemD (wOp itemD (wVar 3) (wC (.int 1))) (wC (.int 0))) (wC (.str "is")))) (wTest (wOp (oEmp true) (wVar 7) (wStay (wLst wNil)))))
  (wAsg (wTup (wCons (wC (.str "not drawn")) (wCons (wVar 3) wNil))) (wSet 8))
  wNext)
  (wSeq (wAsg (wStay (wCBN oSeqN (wCons (wVar 7) wNil))) (wSet 9))
  (wSeq (wAsg (wStay (wLst (wCons (wCall 3 S__law_told (wCons (wVar 3) (wCons (wVar 7) (wCons (wC (.bool false)) wNil)))) (wCons (wCall 3 S__law_told (wCons (wVar 3) (wCons (wCB oTupOf (wCons (wVar 7) wNil)) (wCons (wC (.bool true)) wNil)))) wNil)))) (wSet 10))
  (wIfS (wOrT (wNotT (wTest (wCall 2 (S__law_same 8) (wCons (wVar 10) (wCons (wStay (wLst (wCons (wVar 8) (wCons (wVar 8) wNil)))) wNil))))) (wTest (wOp oNe (wVar 7) (wVar 9))))
  (wRet (wC (.bool false)))
  wNext)))))))
  (wSeq (wFor (wSeqOf (wStay (wLst (wCons (wC (.int 0)) (wCons (wC (.int 1)) (wCons (wOp oAdd (wC (.int 2)) (wCallIo 2 S__law_take (wCons (wVar 1) (wCons (wC (.int 6)) wNil)))) wNil)))))) (wSet 5)
  (wSeq (wAsg (wCall 2 S__law_by_rows (wCons (wVar 3) (wCons (wVar 5) wNil))) (wSet 8))
  (wIfS (wNotT (wTest (wCall 2 (S__law_same 8) (wCons (wStay (wLst (wCons (wCall 2 S_leaves_of (wCons (wVar 3) (wCons (wVar 5) wNil))) (wCons (wCallK 0 2 [1, 0] S_leaves_of wNil (wCons (wVar 5) (wCons (wVar 3) wNil))) wNil)))) (wCons (wStay (wLst (wCons (wVar 8) (wCons (wVar 8) wNil)))) wNil)))))
  (wRet (wC (.bool false)))
  wNext)))
  (wSeq (wAsg (wCallIo 2 S__law_take (wCons (wVar 1) (wCons (wC (.int 201)) wNil))) (wSet 5))
  (wSeq (wAsg (wCall 2 S__law_counts (wCons (wVar 3) (wCons (wVar 5) wNil))) (wSet 6))
  (wIfS (wNotT (wTest (wCall 2 (S__law_same 8) (wCons (wCall 2 S_leaves_of (wCons (wVar 3) (wCons (wVar 5) wNil))) (wCons (wCB oTupOf (wCons (wStay (wLc (wRng1 (wCons (wOp itemD (wVar 3) (wC (.int 0))) wNil)) (wSet 11) wYes (wGGet2 (wVar 6) (wTup (wCons (wC (.str "is")) (wCons (wVar 11) wNil))) (wC (.int 0))) [11])) wNil)) wNil)))))
  (wRet (wC (.bool false)))
  wNext)))))))
  (wRet (wC (.bool true)))))
theorem d_law {f_law_ : Addr} {cdv : Value} {A : Around} {outer : List PySem.Env} {s : Shared} {H : Hp} {E : XK} {as : List (Option V)} (T : Tx mg) {f__law_take : Addr} {fd__law_take : FuncData} (c__law_take : FOk P w K ts mg base 1 2 "_law_take" f__law_take fd__law_take ["pot", "many"] S__law_take) {f__law_machine : Addr} {fd__law_machine : FuncData} (c__law_machine : FOk P w K ts mg base 3 3 "_law_machine" f__law_machine fd__law_machine ["pot", "things", "states"] S__law_machine) {f__law_counts : Addr} {fd__law_counts : FuncData} (c__law_counts : FOk P w K ts mg base 1 2 "_law_counts" f__law_counts fd__law_counts ["machine", "k"] S__law_counts) {f__law_by_rows : Addr} {fd__law_by_rows : FuncData} (c__law_by_rows : FOk P w K ts mg base 2 2 "_law_by_rows" f__law_by_rows fd__law_by_rows ["machine", "k"] S__law_by_rows) {f__law_same : Addr} {fd__law_same : FuncData} (c__law_same : FOk P w K ts mg base 9 2 "_law_same" f__law_same fd__law_same ["got", "due"] (S__law_same 8)) {f__law_walk : Addr} {fd__law_walk : FuncData} (c__law_walk : FOk P w K ts mg base 1 2 "_law_walk" f__law_walk fd__law_walk ["machine", "tosses"] S__law_walk) {f__law_told : Addr} {fd__law_told : FuncData} (c__law_told : FOk P w K ts mg base 11 3 "_law_told" f__law_told fd__law_told ["machine", "tosses", "named"] S__law_told) {f_leaves_of : Addr} {fd_leaves_of : FuncData} (c_leaves_of : FOk P w K ts mg base 10 2 "leaves_of" f_leaves_of fd_leaves_of ["machine", "k"] S_leaves_of) (kw_leaves_of_0_k_machine : KwB K fd_leaves_of ["machine", "k"] 0 ["k", "machine"] [1, 0]) (hr : Room 11 (A.deeper (envOfC "law" (defScope s_law) s.heap.objs.size f_law_ cdv))) :
    PSs (cxOf CX0 P w K mg base ["script", "pot", "turn", "machine", "look", "k", "counts", "tosses", "due", "kept", "told", "i"] "law" (defScope s_law) f_law_ cdv A outer s H E).nox (defBody s_law) (upS K (as, ts, nW) t_law) :=
  (scons (snew (i := 1) sc_law.nd (vopN op_catR opv_catN (vstay (vlst (acons vint (acons vint (acons vint anil))))) (vstay (vctN call_list_of cv_list T.list_ (by decide +kernel) (acons (vv 0) anil)))))
  (scons (sfor rfl (irng1 T.range_ (acons vint anil)) (gset (i := 2) sc_law.nd)
  (scons (sset (i := 3) sc_law.nd (vcallIo ⟨c__law_machine.fn, c__law_machine.g, c__law_machine.kp, c__law_machine.b⟩ (hr.mono (by decide)) (acons (vv 1) (acons vint (acons vint anil)))))
  (scons (sfor rfl (irng1 T.range_ (acons vint anil)) (gset (i := 4) sc_law.nd)
  (scons (ssetLc (i := 7) [("k", 5)] rfl sc_law.nd (sw_true rfl rfl rfl (by decide +kernel)) (irng1 T.range_ (acons (vif (tcmp op_gt (opv_I0 fun _ _ _ => .bl _) (vv 4) vint) (vcallIo ⟨c__law_take.fn, c__law_take.g, c__law_take.kp, c__law_take.b⟩ (hr.mono (by decide)) (acons (vv 1) (acons vint anil))) vint) anil)) (fun _ _ _ _ _ => (gup (gset (i := 5) sc_law.nd))) (fun _ _ _ _ _ => tsnil) (fun _ _ _ _ _ => (vcallIo ⟨c__law_take.fn, c__law_take.g, c__law_take.kp, c__law_take.b⟩ (hr.mono (by decide)) (acons (vv 1) (acons vint anil)))) (blkOk_by (N := ["script", "pot", "turn", "machine", "look", "k", "counts", "tosses", "due", "kept", "told", "i"]) (sc := defScope s_law) (by decide +kernel)) (by decide))
  (scons (sset (i := 8) sc_law.nd (vtup (acons vstr (acons (vcall ⟨c__law_walk.fn, c__law_walk.g, c__law_walk.kp, c__law_walk.b⟩ (hr.mono (by decide)) (acons (vv 3) (acons (vif (tcmp (op_eqD hr.units) opv_eq (vix ix_seq opv_ix (vix ix_seq opv_ix (vv 3) vint) vint) vstr) (vv 7) (vtup anil)) anil))) anil))))
  (scons (sif (L2.PW.pt (wand (tcmp (op_eqD hr.units) opv_eq (vix ix_seq opv_ix (vix ix_seq opv_ix (vv 3) vint) vint) vstr) (wand1 (tcmp (op_neE hr.units) (opv_emp (neg := true)) (vv 7) (vstay (vlst anil))))))
  (sone (sset (i := 8) sc_law.nd (vtup (acons vstr (acons (vv 3) anil)))))
  snil)
  (scons (sset (i := 9) sc_law.nd (vstay (vctN call_list_of cv_list T.list_ (by decide +kernel) (acons (vv 7) anil))))
  (scons (sset (i := 10) sc_law.nd (vstay (vlst (acons (vcall ⟨c__law_told.fn, c__law_told.g, c__law_told.kp, c__law_told.b⟩ hr (acons (vv 3) (acons (vv 7) (acons vbl anil)))) (acons (vcall ⟨c__law_told.fn, c__law_told.g, c__law_told.kp, c__law_told.b⟩ hr (acons (vv 3) (acons (vct call_tuple_of cv_tuple T.tuple_ (by decide +kernel) (acons (vv 7) anil)) (acons vbl anil)))) anil)))))
  (sone (sif (L2.PW.pt (wor (tnot (tval (vcall ⟨c__law_same.fn, c__law_same.g, c__law_same.kp, c__law_same.b⟩ (hr.mono (by decide)) (acons (vv 10) (acons (vstay (vlst (acons (vv 8) (acons (vv 8) anil)))) anil))))) (wor1 (tcmp (op_neD hr.units) opv_ne (vv 7) (vv 9)))))
  (sone (sret vbl))
  snil))))))) PassesOwn.never)
  (scons (sfor rfl (iseq (vstay (vlst (acons vint (acons vint (acons (vop op_add' opv_add vint (vcallIo ⟨c__law_take.fn, c__law_take.g, c__law_take.kp, c__law_take.b⟩ (hr.mono (by decide)) (acons (vv 1) (acons vint anil)))) anil)))))) (gset (i := 5) sc_law.nd)
  (scons (sset (i := 8) sc_law.nd (vcall ⟨c__law_by_rows.fn, c__law_by_rows.g, c__law_by_rows.kp, c__law_by_rows.b⟩ (hr.mono (by decide)) (acons (vv 3) (acons (vv 5) anil))))
  (sone (sif (tnot (tval (vcall ⟨c__law_same.fn, c__law_same.g, c__law_same.kp, c__law_same.b⟩ (hr.mono (by decide)) (acons (vstay (vlst (acons (vcall ⟨c_leaves_of.fn, c_leaves_of.g, c_leaves_of.kp, c_leaves_of.b⟩ (hr.mono (by decide)) (acons (vv 3) (acons (vv 5) anil))) (acons (vcallK0 (pm := [1, 0]) ⟨c_leaves_of.fn, c_leaves_of.g, c_leaves_of.kp, c_leaves_of.b⟩ (hr.mono (by decide)) kw_leaves_of_0_k_machine (akcons (vv 5) (akcons (vv 3) aknil))) anil)))) (acons (vstay (vlst (acons (vv 8) (acons (vv 8) anil)))) anil)))))
  (sone (sret vbl))
  snil))) PassesOwn.never)
  (scons (sset (i := 5) sc_law.nd (vcallIo ⟨c__law_take.fn, c__law_take.g, c__law_take.kp, c__law_take.b⟩ (hr.mono (by decide)) (acons (vv 1) (acons vint anil))))
  (scons (sset (i := 6) sc_law.nd (vcall ⟨c__law_counts.fn, c__law_counts.g, c__law_counts.kp, c__law_counts.b⟩ (hr.mono (by decide)) (acons (vv 3) (acons (vv 5) anil))))
  (sone (sif (tnot (tval (vcall ⟨c__law_same.fn, c__law_same.g, c__law_same.kp, c__law_same.b⟩ (hr.mono (by decide)) (acons (vcall ⟨c_leaves_of.fn, c_leaves_of.g, c_leaves_of.kp, c_leaves_of.b⟩ (hr.mono (by decide)) (acons (vv 3) (acons (vv 5) anil))) (acons (vct call_tuple_of cv_tuple T.tuple_ (by decide +kernel) (acons (vstay (vlc [("i", 11)] rfl (sc_law.nd) (irng1 T.range_ (acons (vix ix_seq opv_ix (vv 3) vint) anil)) (fun _ _ _ _ _ => (gup (gset (i := 11) sc_law.nd))) (fun _ _ _ _ _ => tsnil) (fun _ _ _ _ _ => (vgget2 (hu_of hr) (vv 6) (vtup (acons vstr (acons (vv 11) anil))) vint)) (blkOk_by (N := ["script", "pot", "turn", "machine", "look", "k", "counts", "tosses", "due", "kept", "told", "i"]) (sc := defScope s_law) (by decide +kernel)) (by decide))) anil)) anil)))))
  (sone (sret vbl))
  snil))))))) PassesOwn.never)
  (sone (sret vbl))))
end
end K13
end
section
set_option autoImplicit false
set_option maxRecDepth 100000
set_option maxHeartbeats 4000000
set_option exponentiation.threshold 7000
namespace K13
open PySem PySem.Spec PyProof.Rows L2 VL
theorem log2_lt {n k : Nat} (h : n < 2 ^ k) (hk : 0 < k) : n.log2 < k := by
  by_cases z : n = 0
  · subst z
    simpa using hk
  · exact (Nat.log2_lt z).mpr h
theorem cdv_pos {x m : Int} (h : 0 < m) (hb : Bd m) : CDv x m := .inr ⟨h, Nat.lt_trans (log2_lt hb (by decide)) (by decide)⟩
theorem small_bd {m : Int} (h : 0 ≤ m) (hb : m < 2 ^ 64) : Bd m := by
  unfold Bd
  have : (2 : Nat) ^ 64 ≤ 2 ^ 4000 := Nat.pow_le_pow_right (by decide) (by decide)
  omega
theorem cok_bd {x y : Int} (hx : x.natAbs < 2 ^ 490000) (hy : y.natAbs < 2 ^ 490000) : COk x y := by
  refine .inr ?_
  have h1 := log2_lt hx (by decide)
  have h2 := log2_lt hy (by decide)
  show x.natAbs.log2 + y.natAbs.log2 < 1000000
  omega
theorem bd_big {x : Int} (h : Bd x) : x.natAbs < 2 ^ 490000 := Nat.lt_of_lt_of_le h (Nat.pow_le_pow_right (by decide) (by decide))
theorem h_is_integer (ρ : En) (Q : RV → En → Prop) (h : S_is_integer ρ Q) : t_is_integer (endsV 1 Q) (ρ ++ List.replicate (1 - 1) .un) := by
  obtain ⟨d, rfl, h⟩ := h
  unfold t_is_integer
  cases d <;> (simp only [VL.wSeq, VL.wNext, VL.wNever, VL.wAsg, VL.wSet, VL.wVar, VL.wFrz, VL.wC, VL.wOp, VL.wTest, VL.wNotT, VL.wAndT, VL.wOrT, VL.wAnd, VL.wOr, VL.wNot, VL.wIf, VL.wNil, VL.wCons, VL.wTup, VL.wLst, VL.wStay, VL.wNew, VL.wPar, VL.wAug, VL.wDrop, VL.wRet, VL.wRetN, VL.wRet0, VL.wIfS, VL.wBrk, VL.wCnt, VL.wGt, VL.wGs, VL.wCB, VL.wCBN, VL.wCall, VL.wCallN, VL.wCallIo, VL.wCallIoN, VL.wCallK, VL.wIsi, VL.wIsi2, VL.wApp, VL.wExt, VL.wIns, VL.wSetIt, VL.wNoPart, VL.wPart, VL.wSl, VL.wSlN, VL.wChain, VL.wNeg, VL.wDnew, VL.wDput, VL.wDget, VL.wDin, VL.wDnin, VL.wIndex, VL.wRev, VL.wParNE, VL.wParEN, VL.wPar3, VL.wYes, VL.wSeqOf, VL.wRng1, VL.wRng2, VL.oI, VL.oI0, VL.oLt, VL.oLe, VL.oGt, VL.oGe, VL.oSub, VL.oMul, VL.oFdiv, VL.oMod, VL.oPow, VL.oShl', VL.oAbs, VL.oMax2, VL.oMin2, VL.oGcd, VL.atI_0, VL.atI_1, VL.atI_2, VL.ixN_20, VL.ixN_21, and_assoc, VL.shp_int, VL.shp_bool, VL.shp_none, VL.eqv_int, VL.eqv_bool, VL.isiD, VL.tyD, String.reduceBEq, Bool.not_true, Bool.not_false, Bool.and_true, Bool.and_false, Bool.true_and, Bool.false_and, Bool.or_true, Bool.or_false, Bool.true_or, Bool.false_or, decide_true, decide_false, Bool.not_eq_true', Bool.not_eq_eq_eq_not, decide_eq_true_eq, decide_eq_false_iff_not, VL.oInt1, VL.oInt2, VL.oLen, VL.oToInt, VL.oAdd, VL.oEq, VL.oNe, VL.oIsN, VL.oIn, VL.itemD, VL.isN, VL.der, VL.ders, VL.dats, VL.ioA, VL.endsV, VL.retE, VL.keepC, Option.map, List.range_succ, List.range_zero, List.map_cons, List.map_nil, List.map_append, List.nil_append, List.cons_append, List.append_nil, List.replicate_zero, List.replicate_succ, List.length_cons, List.length_nil, Nat.sub_self, List.getElem?_cons_zero, List.getElem?_cons_succ, List.set_cons_zero, List.set_cons_succ, Option.some.injEq, exists_eq_left', exists_eq_left, exists_eq_right, exists_and_left, exists_and_right, and_true, true_and, CV.d.injEq, CV.loc.injEq, Cell.lst.injEq, Cell.dat.injEq, Cell.dic.injEq, PyData.int.injEq, PyData.bool.injEq, PyData.list.injEq, PyData.tuple.injEq, PyData.str.injEq, reduceCtorEq, false_and, and_false, exists_false, false_or, or_false, if_true, if_false, reduceIte, Bool.false_eq_true, Nat.reduceAdd, Nat.reduceSub, Nat.succ_sub_succ, Nat.zero_add, VL.gP, List.filterMap_cons, List.filterMap_nil, List.cons.injEq, VL.wDisp0, VL.wDisp, VL.wPairs, VL.oLcm, VL.wPop, VL.wRevM, VL.wClearM, VL.wTupRg, VL.wListRg, VL.wR1, VL.wR2, VL.wRevN, VL.oRepT, VL.oRepL]; simpa [isiD, tyD, isIntD] using h)
theorem h_is_integer_from (ρ : En) (Q : RV → En → Prop) (h : S_is_integer_from ρ Q) : t_is_integer_from (endsV 2 Q) (ρ ++ List.replicate (2 - 2) .un) := by
  obtain ⟨d, m, rfl, h⟩ := h
  unfold t_is_integer_from
  cases d <;> (simp only [VL.wSeq, VL.wNext, VL.wNever, VL.wAsg, VL.wSet, VL.wVar, VL.wFrz, VL.wC, VL.wOp, VL.wTest, VL.wNotT, VL.wAndT, VL.wOrT, VL.wAnd, VL.wOr, VL.wNot, VL.wIf, VL.wNil, VL.wCons, VL.wTup, VL.wLst, VL.wStay, VL.wNew, VL.wPar, VL.wAug, VL.wDrop, VL.wRet, VL.wRetN, VL.wRet0, VL.wIfS, VL.wBrk, VL.wCnt, VL.wGt, VL.wGs, VL.wCB, VL.wCBN, VL.wCall, VL.wCallN, VL.wCallIo, VL.wCallIoN, VL.wCallK, VL.wIsi, VL.wIsi2, VL.wApp, VL.wExt, VL.wIns, VL.wSetIt, VL.wNoPart, VL.wPart, VL.wSl, VL.wSlN, VL.wChain, VL.wNeg, VL.wDnew, VL.wDput, VL.wDget, VL.wDin, VL.wDnin, VL.wIndex, VL.wRev, VL.wParNE, VL.wParEN, VL.wPar3, VL.wYes, VL.wSeqOf, VL.wRng1, VL.wRng2, VL.oI, VL.oI0, VL.oLt, VL.oLe, VL.oGt, VL.oGe, VL.oSub, VL.oMul, VL.oFdiv, VL.oMod, VL.oPow, VL.oShl', VL.oAbs, VL.oMax2, VL.oMin2, VL.oGcd, VL.atI_0, VL.atI_1, VL.atI_2, VL.ixN_20, VL.ixN_21, and_assoc, VL.shp_int, VL.shp_bool, VL.shp_none, VL.eqv_int, VL.eqv_bool, VL.isiD, VL.tyD, String.reduceBEq, Bool.not_true, Bool.not_false, Bool.and_true, Bool.and_false, Bool.true_and, Bool.false_and, Bool.or_true, Bool.or_false, Bool.true_or, Bool.false_or, decide_true, decide_false, Bool.not_eq_true', Bool.not_eq_eq_eq_not, decide_eq_true_eq, decide_eq_false_iff_not, VL.oInt1, VL.oInt2, VL.oLen, VL.oToInt, VL.oAdd, VL.oEq, VL.oNe, VL.oIsN, VL.oIn, VL.itemD, VL.isN, VL.der, VL.ders, VL.dats, VL.ioA, VL.endsV, VL.retE, VL.keepC, Option.map, List.range_succ, List.range_zero, List.map_cons, List.map_nil, List.map_append, List.nil_append, List.cons_append, List.append_nil, List.replicate_zero, List.replicate_succ, List.length_cons, List.length_nil, Nat.sub_self, List.getElem?_cons_zero, List.getElem?_cons_succ, List.set_cons_zero, List.set_cons_succ, Option.some.injEq, exists_eq_left', exists_eq_left, exists_eq_right, exists_and_left, exists_and_right, and_true, true_and, CV.d.injEq, CV.loc.injEq, Cell.lst.injEq, Cell.dat.injEq, Cell.dic.injEq, PyData.int.injEq, PyData.bool.injEq, PyData.list.injEq, PyData.tuple.injEq, PyData.str.injEq, reduceCtorEq, false_and, and_false, exists_false, false_or, or_false, if_true, if_false, reduceIte, Bool.false_eq_true, Nat.reduceAdd, Nat.reduceSub, Nat.succ_sub_succ, Nat.zero_add, VL.gP, List.filterMap_cons, List.filterMap_nil, List.cons.injEq, VL.wDisp0, VL.wDisp, VL.wPairs, VL.oLcm, VL.wPop, VL.wRevM, VL.wClearM, VL.wTupRg, VL.wListRg, VL.wR1, VL.wR2, VL.wRevN, VL.oRepT, VL.oRepL, S_is_integer]; simpa [isIntD, fromD] using h)
theorem h_check_place (ρ : En) (Q : RV → En → Prop) (h : S_check_place ρ Q) : t_check_place (endsV 1 Q) (ρ ++ List.replicate (1 - 1) .un) := by
  obtain ⟨k, rfl, h⟩ := h
  unfold t_check_place
  simp only [VL.wSeq, VL.wNext, VL.wNever, VL.wAsg, VL.wSet, VL.wVar, VL.wFrz, VL.wC, VL.wOp, VL.wTest, VL.wNotT, VL.wAndT, VL.wOrT, VL.wAnd, VL.wOr, VL.wNot, VL.wIf, VL.wNil, VL.wCons, VL.wTup, VL.wLst, VL.wStay, VL.wNew, VL.wPar, VL.wAug, VL.wDrop, VL.wRet, VL.wRetN, VL.wRet0, VL.wIfS, VL.wBrk, VL.wCnt, VL.wGt, VL.wGs, VL.wCB, VL.wCBN, VL.wCall, VL.wCallN, VL.wCallIo, VL.wCallIoN, VL.wCallK, VL.wIsi, VL.wIsi2, VL.wApp, VL.wExt, VL.wIns, VL.wSetIt, VL.wNoPart, VL.wPart, VL.wSl, VL.wSlN, VL.wChain, VL.wNeg, VL.wDnew, VL.wDput, VL.wDget, VL.wDin, VL.wDnin, VL.wIndex, VL.wRev, VL.wParNE, VL.wParEN, VL.wPar3, VL.wYes, VL.wSeqOf, VL.wRng1, VL.wRng2, VL.oI, VL.oI0, VL.oLt, VL.oLe, VL.oGt, VL.oGe, VL.oSub, VL.oMul, VL.oFdiv, VL.oMod, VL.oPow, VL.oShl', VL.oAbs, VL.oMax2, VL.oMin2, VL.oGcd, VL.atI_0, VL.atI_1, VL.atI_2, VL.ixN_20, VL.ixN_21, and_assoc, VL.shp_int, VL.shp_bool, VL.shp_none, VL.eqv_int, VL.eqv_bool, VL.isiD, VL.tyD, String.reduceBEq, Bool.not_true, Bool.not_false, Bool.and_true, Bool.and_false, Bool.true_and, Bool.false_and, Bool.or_true, Bool.or_false, Bool.true_or, Bool.false_or, decide_true, decide_false, Bool.not_eq_true', Bool.not_eq_eq_eq_not, decide_eq_true_eq, decide_eq_false_iff_not, VL.oInt1, VL.oInt2, VL.oLen, VL.oToInt, VL.oAdd, VL.oEq, VL.oNe, VL.oIsN, VL.oIn, VL.itemD, VL.isN, VL.der, VL.ders, VL.dats, VL.ioA, VL.endsV, VL.retE, VL.keepC, Option.map, List.range_succ, List.range_zero, List.map_cons, List.map_nil, List.map_append, List.nil_append, List.cons_append, List.append_nil, List.replicate_zero, List.replicate_succ, List.length_cons, List.length_nil, Nat.sub_self, List.getElem?_cons_zero, List.getElem?_cons_succ, List.set_cons_zero, List.set_cons_succ, Option.some.injEq, exists_eq_left', exists_eq_left, exists_eq_right, exists_and_left, exists_and_right, and_true, true_and, CV.d.injEq, CV.loc.injEq, Cell.lst.injEq, Cell.dat.injEq, Cell.dic.injEq, PyData.int.injEq, PyData.bool.injEq, PyData.list.injEq, PyData.tuple.injEq, PyData.str.injEq, reduceCtorEq, false_and, and_false, exists_false, false_or, or_false, if_true, if_false, reduceIte, Bool.false_eq_true, Nat.reduceAdd, Nat.reduceSub, Nat.succ_sub_succ, Nat.zero_add, VL.gP, List.filterMap_cons, List.filterMap_nil, List.cons.injEq, VL.wDisp0, VL.wDisp, VL.wPairs, VL.oLcm, VL.wPop, VL.wRevM, VL.wClearM, VL.wTupRg, VL.wListRg, VL.wR1, VL.wR2, VL.wRevN, VL.oRepT, VL.oRepL, S_is_integer_from, fromD]
  rw [if_neg (by simp)]
  exact h
theorem fmod_lt {a m : Int} (h : 0 < m) : ∃ r : Nat, a.fmod m = r ∧ (r : Int) < m := by
  have h1 := Int.fmod_nonneg_of_pos a h
  have h2 := Int.fmod_lt_of_pos a h
  exact ⟨(a.fmod m).toNat, by omega, by omega⟩
theorem rng_at {n i : Nat} {d : D} (h : (rngD 0 (n : Int))[i]? = some d) : d = .int i ∧ i < n := by
  unfold rngD at h
  rw [List.getElem?_map] at h
  cases e : (List.range ((n : Int) - 0).toNat)[i]? with
  | none =>
    rw [e] at h
    cases h
  | some x =>
    rw [e] at h
    cases h
    obtain ⟨h1, h2⟩ := List.getElem?_eq_some_iff.mp e
    rw [List.getElem_range] at h2
    rw [List.length_range] at h1
    subst h2
    exact ⟨congrArg PyData.int (Int.zero_add _), by omega⟩
theorem rng_len {n : Nat} : (rngD 0 (n : Int)).length = n := by simp [rngD]
theorem seq_gen {t u : WS} {w : WEn} {ρ : En} (h : ∀ k : En → Prop, (∀ ρ', k ρ' = u w ρ') → t { w with nx := k } ρ) : wSeq t u w ρ := h _ (fun _ => rfl)
theorem for_body {wi : WN} {g : WG} {tb : WS} {w : WEn} {ρ : En} (h : ∀ B : WS, (∀ w' ρ', B w' ρ' = tb w' ρ') → wFor wi g B w ρ) : wFor wi g tb w ρ := h tb fun _ _ => rfl
theorem ifs_gen {t : WT} {A B : WS} {w : WEn} {ρ : En} (h : ∀ X Y : WS, (∀ w' ρ', X w' ρ' = A w' ρ') → (∀ w' ρ', Y w' ρ' = B w' ρ') → wIfS t X Y w ρ) : wIfS t A B w ρ := h A B (fun _ _ => rfl) fun _ _ => rfl
end K13
end
section
set_option autoImplicit false
set_option maxRecDepth 100000
set_option maxHeartbeats 4000000
set_option exponentiation.threshold 7000
namespace K13
open PySem PySem.Spec PyProof.Rows L2 VL
theorem z__law_same {ρ : En} {Q : RV → En → Prop} (h : S__law_same 0 ρ Q) : False := by
  obtain ⟨d, _, h, _⟩ := h
  cases h
theorem atI_at {ds : List D} {i : Nat} (hi : i < ds.length) : atI ds (i : Int) = some ds[i] := by
  unfold atI
  rw [show ixN ds.length (i : Int) = some i by simp [ixN]; omega]
  simp [hi]
theorem small_size {n : Nat} (h : n ≤ 3000) : n < sizeLine := Nat.lt_of_le_of_lt h (by decide)
theorem at0 {a : D} {r : List D} : atI (a :: r) (0 : Int) = some a := atI_nat (j := 0) rfl
theorem at1 {a b : D} {r : List D} : atI (a :: b :: r) (1 : Int) = some b := atI_nat (j := 1) rfl
theorem at2 {a b c : D} {r : List D} : atI (a :: b :: c :: r) (2 : Int) = some c := atI_nat (j := 2) rfl
theorem ix0 {n : Nat} (h : 3 ≤ n) : ixN n (0 : Int) = some 0 := by
  unfold ixN
  rw [if_pos (by decide), if_pos (by omega)]
  rfl
theorem ix1 {n : Nat} (h : 3 ≤ n) : ixN n (1 : Int) = some 1 := by
  unfold ixN
  rw [if_pos (by decide), if_pos (by omega)]
  rfl
theorem ix2 {n : Nat} (h : 3 ≤ n) : ixN n (2 : Int) = some 2 := by
  unfold ixN
  rw [if_pos (by decide), if_pos (by omega)]
  rfl
theorem pot3 {pot : List Int} (P : Pot pot) : ∃ a b c r, pot = a :: b :: c :: r ∧ 0 ≤ b ∧ b < 2 ^ 31 ∧ 3 ≤ c ∧ c ≤ 66 ∧ r.length ≤ 63 := by
  obtain ⟨lo, hi, ⟨x, e1, b0, b1⟩, ⟨y, e2, c0, c1⟩⟩ := P
  match pot, lo, e1, e2 with
  | a :: b :: c :: r, _, e1, e2 =>
    cases e1
    cases e2
    refine ⟨a, _, _, r, rfl, b0, b1, c0, c1, ?_⟩
    simp only [List.length_cons] at hi
    omega
theorem pot_of {a b c : Int} {r : List Int} (b0 : 0 ≤ b) (b1 : b < 2 ^ 31) (c0 : 3 ≤ c) (c1 : c ≤ 66) (l : r.length ≤ 63) : Pot (a :: b :: c :: r) :=
  ⟨by simp, by simp only [List.length_cons]; omega, ⟨b, rfl, b0, b1⟩, ⟨c, rfl, c0, c1⟩⟩
theorem h__law_take (ρ : En) (Q : RV → En → Prop) (h : S__law_take ρ Q) : t__law_take (endsV 2 Q) (ρ ++ List.replicate (5 - 2) .un) := by
  obtain ⟨pot, m, rfl, P, h0, hm, h⟩ := h
  obtain ⟨a, b, c, r, rfl, b0, b1, c0, c1, l⟩ := pot3 P
  clear P
  have cp : CPow 10 18 := ⟨by decide, by decide, by decide⟩
  have h3 : ∀ (x y z : D) (s : List D), 3 ≤ (x :: y :: z :: s).length := fun x y z s => by simp
  unfold t__law_take potC
  refine seq_gen fun k hk => ?_
  have tail : ∀ (a b c : Int) (c1 c2 c3 : Cell), 0 ≤ b → b < 2 ^ 31 → 3 ≤ c → c ≤ 66 → k [.lst true (PyData.int a :: .int b :: .int c :: r.map .int), .dat (.int m), c1, c2, c3] := by
    clear b0 b1 c0 c1 a b c
    intro a b c c1 c2 c3 b0 b1 d0 d1
    rw [hk]
    clear hk k
    refine seq_gen fun k hk => ?_
    refine ifs_gen fun X Y hX hY => ?_
    simp only [VL.wSeq, VL.wNext, VL.wNever, VL.wAsg, VL.wSet, VL.wVar, VL.wFrz, VL.wC, VL.wOp, VL.wTest, VL.wNotT, VL.wAndT, VL.wOrT, VL.wAnd, VL.wOr, VL.wNot, VL.wIf, VL.wNil, VL.wCons, VL.wTup, VL.wLst, VL.wStay, VL.wNew, VL.wPar, VL.wAug, VL.wDrop, VL.wRet, VL.wRetN, VL.wRet0, VL.wIfS, VL.wBrk, VL.wCnt, VL.wGt, VL.wGs, VL.wCB, VL.wCBN, VL.wCall, VL.wCallN, VL.wCallIo, VL.wCallIoN, VL.wCallK, VL.wIsi, VL.wIsi2, VL.wApp, VL.wExt, VL.wIns, VL.wSetIt, VL.wNoPart, VL.wPart, VL.wSl, VL.wSlN, VL.wChain, VL.wNeg, VL.wDnew, VL.wDput, VL.wDget, VL.wDin, VL.wDnin, VL.wIndex, VL.wRev, VL.wParNE, VL.wParEN, VL.wPar3, VL.wYes, VL.wSeqOf, VL.wRng1, VL.wRng2, VL.oI, VL.oI0, VL.oLt, VL.oLe, VL.oGt, VL.oGe, VL.oSub, VL.oMul, VL.oFdiv, VL.oMod, VL.oPow, VL.oShl', VL.oAbs, VL.oMax2, VL.oMin2, VL.oGcd, VL.atI_0, VL.atI_1, VL.atI_2, VL.ixN_20, VL.ixN_21, and_assoc, VL.shp_int, VL.shp_bool, VL.shp_none, VL.eqv_int, VL.eqv_bool, VL.isiD, VL.tyD, String.reduceBEq, Bool.not_true, Bool.not_false, Bool.and_true, Bool.and_false, Bool.true_and, Bool.false_and, Bool.or_true, Bool.or_false, Bool.true_or, Bool.false_or, decide_true, decide_false, Bool.not_eq_true', Bool.not_eq_eq_eq_not, decide_eq_true_eq, decide_eq_false_iff_not, VL.oInt1, VL.oInt2, VL.oLen, VL.oToInt, VL.oAdd, VL.oEq, VL.oNe, VL.oIsN, VL.oIn, VL.itemD, VL.isN, VL.der, VL.ders, VL.dats, VL.ioA, VL.endsV, VL.retE, VL.keepC, Option.map, List.range_succ, List.range_zero, List.map_cons, List.map_nil, List.map_append, List.nil_append, List.cons_append, List.append_nil, List.replicate_zero, List.replicate_succ, List.length_cons, List.length_nil, Nat.sub_self, List.getElem?_cons_zero, List.getElem?_cons_succ, List.set_cons_zero, List.set_cons_succ, Option.some.injEq, exists_eq_left', exists_eq_left, exists_eq_right, exists_and_left, exists_and_right, and_true, true_and, CV.d.injEq, CV.loc.injEq, Cell.lst.injEq, Cell.dat.injEq, Cell.dic.injEq, PyData.int.injEq, PyData.bool.injEq, PyData.list.injEq, PyData.tuple.injEq, PyData.str.injEq, reduceCtorEq, false_and, and_false, exists_false, false_or, or_false, if_true, if_false, reduceIte, Bool.false_eq_true, Nat.reduceAdd, Nat.reduceSub, Nat.succ_sub_succ, Nat.zero_add, VL.gP, List.filterMap_cons, List.filterMap_nil, List.cons.injEq, VL.wDisp0, VL.wDisp, VL.wPairs, VL.oLcm, VL.wPop, VL.wRevM, VL.wClearM, VL.wTupRg, VL.wListRg, VL.wR1, VL.wR2, VL.wRevN, VL.oRepT, VL.oRepL, at0]
    have i0 : ixN ((List.map PyData.int r).length + 1 + 1 + 1) (0 : Int) = some 0 := ix0 (by omega)
    have i1 : ixN ((List.map PyData.int r).length + 1 + 1 + 1) (1 : Int) = some 1 := ix1 (by omega)
    have bm : Bd m := small_bd (by omega) (by omega)
    by_cases g : 0 < a
    · rw [if_pos g, hX]
      simp only [VL.wSeq, VL.wNext, VL.wNever, VL.wAsg, VL.wSet, VL.wVar, VL.wFrz, VL.wC, VL.wOp, VL.wTest, VL.wNotT, VL.wAndT, VL.wOrT, VL.wAnd, VL.wOr, VL.wNot, VL.wIf, VL.wNil, VL.wCons, VL.wTup, VL.wLst, VL.wStay, VL.wNew, VL.wPar, VL.wAug, VL.wDrop, VL.wRet, VL.wRetN, VL.wRet0, VL.wIfS, VL.wBrk, VL.wCnt, VL.wGt, VL.wGs, VL.wCB, VL.wCBN, VL.wCall, VL.wCallN, VL.wCallIo, VL.wCallIoN, VL.wCallK, VL.wIsi, VL.wIsi2, VL.wApp, VL.wExt, VL.wIns, VL.wSetIt, VL.wNoPart, VL.wPart, VL.wSl, VL.wSlN, VL.wChain, VL.wNeg, VL.wDnew, VL.wDput, VL.wDget, VL.wDin, VL.wDnin, VL.wIndex, VL.wRev, VL.wParNE, VL.wParEN, VL.wPar3, VL.wYes, VL.wSeqOf, VL.wRng1, VL.wRng2, VL.oI, VL.oI0, VL.oLt, VL.oLe, VL.oGt, VL.oGe, VL.oSub, VL.oMul, VL.oFdiv, VL.oMod, VL.oPow, VL.oShl', VL.oAbs, VL.oMax2, VL.oMin2, VL.oGcd, VL.atI_0, VL.atI_1, VL.atI_2, VL.ixN_20, VL.ixN_21, and_assoc, VL.shp_int, VL.shp_bool, VL.shp_none, VL.eqv_int, VL.eqv_bool, VL.isiD, VL.tyD, String.reduceBEq, Bool.not_true, Bool.not_false, Bool.and_true, Bool.and_false, Bool.true_and, Bool.false_and, Bool.or_true, Bool.or_false, Bool.true_or, Bool.false_or, decide_true, decide_false, Bool.not_eq_true', Bool.not_eq_eq_eq_not, decide_eq_true_eq, decide_eq_false_iff_not, VL.oInt1, VL.oInt2, VL.oLen, VL.oToInt, VL.oAdd, VL.oEq, VL.oNe, VL.oIsN, VL.oIn, VL.itemD, VL.isN, VL.der, VL.ders, VL.dats, VL.ioA, VL.endsV, VL.retE, VL.keepC, Option.map, List.range_succ, List.range_zero, List.map_cons, List.map_nil, List.map_append, List.nil_append, List.cons_append, List.append_nil, List.replicate_zero, List.replicate_succ, List.length_cons, List.length_nil, Nat.sub_self, List.getElem?_cons_zero, List.getElem?_cons_succ, List.set_cons_zero, List.set_cons_succ, Option.some.injEq, exists_eq_left', exists_eq_left, exists_eq_right, exists_and_left, exists_and_right, and_true, true_and, CV.d.injEq, CV.loc.injEq, Cell.lst.injEq, Cell.dat.injEq, Cell.dic.injEq, PyData.int.injEq, PyData.bool.injEq, PyData.list.injEq, PyData.tuple.injEq, PyData.str.injEq, reduceCtorEq, false_and, and_false, exists_false, false_or, or_false, if_true, if_false, reduceIte, Bool.false_eq_true, Nat.reduceAdd, Nat.reduceSub, Nat.succ_sub_succ, Nat.zero_add, VL.gP, List.filterMap_cons, List.filterMap_nil, List.cons.injEq, VL.wDisp0, VL.wDisp, VL.wPairs, VL.oLcm, VL.wPop, VL.wRevM, VL.wClearM, VL.wTupRg, VL.wListRg, VL.wR1, VL.wR2, VL.wRevN, VL.oRepT, VL.oRepL, at0, List.length_cons]
      obtain ⟨n, e, ln⟩ := fmod_lt (a := a) h0
      rw [e]
      refine ⟨by omega, cdv_pos h0 bm, ⟨_, rfl⟩, 0, i0, ?_⟩
      exact h n (a.fdiv m :: b :: c :: r) (pot_of b0 b1 d0 d1 l) ln
    · rw [if_neg g, hY]
      simp only [VL.wSeq, VL.wNext, VL.wNever, VL.wAsg, VL.wSet, VL.wVar, VL.wFrz, VL.wC, VL.wOp, VL.wTest, VL.wNotT, VL.wAndT, VL.wOrT, VL.wAnd, VL.wOr, VL.wNot, VL.wIf, VL.wNil, VL.wCons, VL.wTup, VL.wLst, VL.wStay, VL.wNew, VL.wPar, VL.wAug, VL.wDrop, VL.wRet, VL.wRetN, VL.wRet0, VL.wIfS, VL.wBrk, VL.wCnt, VL.wGt, VL.wGs, VL.wCB, VL.wCBN, VL.wCall, VL.wCallN, VL.wCallIo, VL.wCallIoN, VL.wCallK, VL.wIsi, VL.wIsi2, VL.wApp, VL.wExt, VL.wIns, VL.wSetIt, VL.wNoPart, VL.wPart, VL.wSl, VL.wSlN, VL.wChain, VL.wNeg, VL.wDnew, VL.wDput, VL.wDget, VL.wDin, VL.wDnin, VL.wIndex, VL.wRev, VL.wParNE, VL.wParEN, VL.wPar3, VL.wYes, VL.wSeqOf, VL.wRng1, VL.wRng2, VL.oI, VL.oI0, VL.oLt, VL.oLe, VL.oGt, VL.oGe, VL.oSub, VL.oMul, VL.oFdiv, VL.oMod, VL.oPow, VL.oShl', VL.oAbs, VL.oMax2, VL.oMin2, VL.oGcd, VL.atI_0, VL.atI_1, VL.atI_2, VL.ixN_20, VL.ixN_21, and_assoc, VL.shp_int, VL.shp_bool, VL.shp_none, VL.eqv_int, VL.eqv_bool, VL.isiD, VL.tyD, String.reduceBEq, Bool.not_true, Bool.not_false, Bool.and_true, Bool.and_false, Bool.true_and, Bool.false_and, Bool.or_true, Bool.or_false, Bool.true_or, Bool.false_or, decide_true, decide_false, Bool.not_eq_true', Bool.not_eq_eq_eq_not, decide_eq_true_eq, decide_eq_false_iff_not, VL.oInt1, VL.oInt2, VL.oLen, VL.oToInt, VL.oAdd, VL.oEq, VL.oNe, VL.oIsN, VL.oIn, VL.itemD, VL.isN, VL.der, VL.ders, VL.dats, VL.ioA, VL.endsV, VL.retE, VL.keepC, Option.map, List.range_succ, List.range_zero, List.map_cons, List.map_nil, List.map_append, List.nil_append, List.cons_append, List.append_nil, List.replicate_zero, List.replicate_succ, List.length_cons, List.length_nil, Nat.sub_self, List.getElem?_cons_zero, List.getElem?_cons_succ, List.set_cons_zero, List.set_cons_succ, Option.some.injEq, exists_eq_left', exists_eq_left, exists_eq_right, exists_and_left, exists_and_right, and_true, true_and, CV.d.injEq, CV.loc.injEq, Cell.lst.injEq, Cell.dat.injEq, Cell.dic.injEq, PyData.int.injEq, PyData.bool.injEq, PyData.list.injEq, PyData.tuple.injEq, PyData.str.injEq, reduceCtorEq, false_and, and_false, exists_false, false_or, or_false, if_true, if_false, reduceIte, Bool.false_eq_true, Nat.reduceAdd, Nat.reduceSub, Nat.succ_sub_succ, Nat.zero_add, VL.gP, List.filterMap_cons, List.filterMap_nil, List.cons.injEq, VL.wDisp0, VL.wDisp, VL.wPairs, VL.oLcm, VL.wPop, VL.wRevM, VL.wClearM, VL.wTupRg, VL.wListRg, VL.wR1, VL.wR2, VL.wRevN, VL.oRepT, VL.oRepL]
      rw [hk]
      clear hk k hX hY X Y
      refine seq_gen fun k hk => ?_
      simp only [VL.wSeq, VL.wNext, VL.wNever, VL.wAsg, VL.wSet, VL.wVar, VL.wFrz, VL.wC, VL.wOp, VL.wTest, VL.wNotT, VL.wAndT, VL.wOrT, VL.wAnd, VL.wOr, VL.wNot, VL.wIf, VL.wNil, VL.wCons, VL.wTup, VL.wLst, VL.wStay, VL.wNew, VL.wPar, VL.wAug, VL.wDrop, VL.wRet, VL.wRetN, VL.wRet0, VL.wIfS, VL.wBrk, VL.wCnt, VL.wGt, VL.wGs, VL.wCB, VL.wCBN, VL.wCall, VL.wCallN, VL.wCallIo, VL.wCallIoN, VL.wCallK, VL.wIsi, VL.wIsi2, VL.wApp, VL.wExt, VL.wIns, VL.wSetIt, VL.wNoPart, VL.wPart, VL.wSl, VL.wSlN, VL.wChain, VL.wNeg, VL.wDnew, VL.wDput, VL.wDget, VL.wDin, VL.wDnin, VL.wIndex, VL.wRev, VL.wParNE, VL.wParEN, VL.wPar3, VL.wYes, VL.wSeqOf, VL.wRng1, VL.wRng2, VL.oI, VL.oI0, VL.oLt, VL.oLe, VL.oGt, VL.oGe, VL.oSub, VL.oMul, VL.oFdiv, VL.oMod, VL.oPow, VL.oShl', VL.oAbs, VL.oMax2, VL.oMin2, VL.oGcd, VL.atI_0, VL.atI_1, VL.atI_2, VL.ixN_20, VL.ixN_21, and_assoc, VL.shp_int, VL.shp_bool, VL.shp_none, VL.eqv_int, VL.eqv_bool, VL.isiD, VL.tyD, String.reduceBEq, Bool.not_true, Bool.not_false, Bool.and_true, Bool.and_false, Bool.true_and, Bool.false_and, Bool.or_true, Bool.or_false, Bool.true_or, Bool.false_or, decide_true, decide_false, Bool.not_eq_true', Bool.not_eq_eq_eq_not, decide_eq_true_eq, decide_eq_false_iff_not, VL.oInt1, VL.oInt2, VL.oLen, VL.oToInt, VL.oAdd, VL.oEq, VL.oNe, VL.oIsN, VL.oIn, VL.itemD, VL.isN, VL.der, VL.ders, VL.dats, VL.ioA, VL.endsV, VL.retE, VL.keepC, Option.map, List.range_succ, List.range_zero, List.map_cons, List.map_nil, List.map_append, List.nil_append, List.cons_append, List.append_nil, List.replicate_zero, List.replicate_succ, List.length_cons, List.length_nil, Nat.sub_self, List.getElem?_cons_zero, List.getElem?_cons_succ, List.set_cons_zero, List.set_cons_succ, Option.some.injEq, exists_eq_left', exists_eq_left, exists_eq_right, exists_and_left, exists_and_right, and_true, true_and, CV.d.injEq, CV.loc.injEq, Cell.lst.injEq, Cell.dat.injEq, Cell.dic.injEq, PyData.int.injEq, PyData.bool.injEq, PyData.list.injEq, PyData.tuple.injEq, PyData.str.injEq, reduceCtorEq, false_and, and_false, exists_false, false_or, or_false, if_true, if_false, reduceIte, Bool.false_eq_true, Nat.reduceAdd, Nat.reduceSub, Nat.succ_sub_succ, Nat.zero_add, VL.gP, List.filterMap_cons, List.filterMap_nil, List.cons.injEq, VL.wDisp0, VL.wDisp, VL.wPairs, VL.oLcm, VL.wPop, VL.wRevM, VL.wClearM, VL.wTupRg, VL.wListRg, VL.wR1, VL.wR2, VL.wRevN, VL.oRepT, VL.oRepL, at1, at2, List.length_cons]
      have ck : ∀ {u v : Int}, 0 ≤ u → u < 2 ^ 64 → 0 ≤ v → v < 2 ^ 64 → COk u v := fun h1 h2 h3 h4 => cok_bd (bd_big (small_bd h1 h2)) (bd_big (small_bd h3 h4))
      refine ⟨ck b0 (by omega) (by decide) (by decide), ck (by decide) (by decide) (by omega) (by omega), by decide, ⟨_, rfl⟩, 1, i1, ?_⟩
      have m0 : 0 ≤ (b * 48271 + 40692 * c + 11).fmod 2147483647 := Int.fmod_nonneg_of_pos _ (by decide)
      have m1 : (b * 48271 + 40692 * c + 11).fmod 2147483647 < 2147483647 := Int.fmod_lt_of_pos _ (by decide)
      generalize (b * 48271 + 40692 * c + 11).fmod 2147483647 = y at *
      show k [.lst true (.int a :: .int y :: .int c :: r.map .int), .dat (.int m), c1, c2, c3]
      rw [hk]
      clear hk k
      refine seq_gen fun k hk => ?_
      simp only [VL.wSeq, VL.wNext, VL.wNever, VL.wAsg, VL.wSet, VL.wVar, VL.wFrz, VL.wC, VL.wOp, VL.wTest, VL.wNotT, VL.wAndT, VL.wOrT, VL.wAnd, VL.wOr, VL.wNot, VL.wIf, VL.wNil, VL.wCons, VL.wTup, VL.wLst, VL.wStay, VL.wNew, VL.wPar, VL.wAug, VL.wDrop, VL.wRet, VL.wRetN, VL.wRet0, VL.wIfS, VL.wBrk, VL.wCnt, VL.wGt, VL.wGs, VL.wCB, VL.wCBN, VL.wCall, VL.wCallN, VL.wCallIo, VL.wCallIoN, VL.wCallK, VL.wIsi, VL.wIsi2, VL.wApp, VL.wExt, VL.wIns, VL.wSetIt, VL.wNoPart, VL.wPart, VL.wSl, VL.wSlN, VL.wChain, VL.wNeg, VL.wDnew, VL.wDput, VL.wDget, VL.wDin, VL.wDnin, VL.wIndex, VL.wRev, VL.wParNE, VL.wParEN, VL.wPar3, VL.wYes, VL.wSeqOf, VL.wRng1, VL.wRng2, VL.oI, VL.oI0, VL.oLt, VL.oLe, VL.oGt, VL.oGe, VL.oSub, VL.oMul, VL.oFdiv, VL.oMod, VL.oPow, VL.oShl', VL.oAbs, VL.oMax2, VL.oMin2, VL.oGcd, VL.atI_0, VL.atI_1, VL.atI_2, VL.ixN_20, VL.ixN_21, and_assoc, VL.shp_int, VL.shp_bool, VL.shp_none, VL.eqv_int, VL.eqv_bool, VL.isiD, VL.tyD, String.reduceBEq, Bool.not_true, Bool.not_false, Bool.and_true, Bool.and_false, Bool.true_and, Bool.false_and, Bool.or_true, Bool.or_false, Bool.true_or, Bool.false_or, decide_true, decide_false, Bool.not_eq_true', Bool.not_eq_eq_eq_not, decide_eq_true_eq, decide_eq_false_iff_not, VL.oInt1, VL.oInt2, VL.oLen, VL.oToInt, VL.oAdd, VL.oEq, VL.oNe, VL.oIsN, VL.oIn, VL.itemD, VL.isN, VL.der, VL.ders, VL.dats, VL.ioA, VL.endsV, VL.retE, VL.keepC, Option.map, List.range_succ, List.range_zero, List.map_cons, List.map_nil, List.map_append, List.nil_append, List.cons_append, List.append_nil, List.replicate_zero, List.replicate_succ, List.length_cons, List.length_nil, Nat.sub_self, List.getElem?_cons_zero, List.getElem?_cons_succ, List.set_cons_zero, List.set_cons_succ, Option.some.injEq, exists_eq_left', exists_eq_left, exists_eq_right, exists_and_left, exists_and_right, and_true, true_and, CV.d.injEq, CV.loc.injEq, Cell.lst.injEq, Cell.dat.injEq, Cell.dic.injEq, PyData.int.injEq, PyData.bool.injEq, PyData.list.injEq, PyData.tuple.injEq, PyData.str.injEq, reduceCtorEq, false_and, and_false, exists_false, false_or, or_false, if_true, if_false, reduceIte, Bool.false_eq_true, Nat.reduceAdd, Nat.reduceSub, Nat.succ_sub_succ, Nat.zero_add, VL.gP, List.filterMap_cons, List.filterMap_nil, List.cons.injEq, VL.wDisp0, VL.wDisp, VL.wPairs, VL.oLcm, VL.wPop, VL.wRevM, VL.wClearM, VL.wTupRg, VL.wListRg, VL.wR1, VL.wR2, VL.wRevN, VL.oRepT, VL.oRepL, at1, List.length_cons]
      refine ⟨ck m0 (by omega) m0 (by omega), by decide, ⟨_, rfl⟩, 1, i1, ?_⟩
      have n0 : 0 ≤ (y * y + 7).fmod 2147483629 := Int.fmod_nonneg_of_pos _ (by decide)
      have n1 : (y * y + 7).fmod 2147483629 < 2147483629 := Int.fmod_lt_of_pos _ (by decide)
      generalize (y * y + 7).fmod 2147483629 = z at *
      show k [.lst true (.int a :: .int z :: .int c :: r.map .int), .dat (.int m), c1, c2, c3]
      rw [hk]
      clear hk k
      simp only [VL.wSeq, VL.wNext, VL.wNever, VL.wAsg, VL.wSet, VL.wVar, VL.wFrz, VL.wC, VL.wOp, VL.wTest, VL.wNotT, VL.wAndT, VL.wOrT, VL.wAnd, VL.wOr, VL.wNot, VL.wIf, VL.wNil, VL.wCons, VL.wTup, VL.wLst, VL.wStay, VL.wNew, VL.wPar, VL.wAug, VL.wDrop, VL.wRet, VL.wRetN, VL.wRet0, VL.wIfS, VL.wBrk, VL.wCnt, VL.wGt, VL.wGs, VL.wCB, VL.wCBN, VL.wCall, VL.wCallN, VL.wCallIo, VL.wCallIoN, VL.wCallK, VL.wIsi, VL.wIsi2, VL.wApp, VL.wExt, VL.wIns, VL.wSetIt, VL.wNoPart, VL.wPart, VL.wSl, VL.wSlN, VL.wChain, VL.wNeg, VL.wDnew, VL.wDput, VL.wDget, VL.wDin, VL.wDnin, VL.wIndex, VL.wRev, VL.wParNE, VL.wParEN, VL.wPar3, VL.wYes, VL.wSeqOf, VL.wRng1, VL.wRng2, VL.oI, VL.oI0, VL.oLt, VL.oLe, VL.oGt, VL.oGe, VL.oSub, VL.oMul, VL.oFdiv, VL.oMod, VL.oPow, VL.oShl', VL.oAbs, VL.oMax2, VL.oMin2, VL.oGcd, VL.atI_0, VL.atI_1, VL.atI_2, VL.ixN_20, VL.ixN_21, and_assoc, VL.shp_int, VL.shp_bool, VL.shp_none, VL.eqv_int, VL.eqv_bool, VL.isiD, VL.tyD, String.reduceBEq, Bool.not_true, Bool.not_false, Bool.and_true, Bool.and_false, Bool.true_and, Bool.false_and, Bool.or_true, Bool.or_false, Bool.true_or, Bool.false_or, decide_true, decide_false, Bool.not_eq_true', Bool.not_eq_eq_eq_not, decide_eq_true_eq, decide_eq_false_iff_not, VL.oInt1, VL.oInt2, VL.oLen, VL.oToInt, VL.oAdd, VL.oEq, VL.oNe, VL.oIsN, VL.oIn, VL.itemD, VL.isN, VL.der, VL.ders, VL.dats, VL.ioA, VL.endsV, VL.retE, VL.keepC, Option.map, List.range_succ, List.range_zero, List.map_cons, List.map_nil, List.map_append, List.nil_append, List.cons_append, List.append_nil, List.replicate_zero, List.replicate_succ, List.length_cons, List.length_nil, Nat.sub_self, List.getElem?_cons_zero, List.getElem?_cons_succ, List.set_cons_zero, List.set_cons_succ, Option.some.injEq, exists_eq_left', exists_eq_left, exists_eq_right, exists_and_left, exists_and_right, and_true, true_and, CV.d.injEq, CV.loc.injEq, Cell.lst.injEq, Cell.dat.injEq, Cell.dic.injEq, PyData.int.injEq, PyData.bool.injEq, PyData.list.injEq, PyData.tuple.injEq, PyData.str.injEq, reduceCtorEq, false_and, and_false, exists_false, false_or, or_false, if_true, if_false, reduceIte, Bool.false_eq_true, Nat.reduceAdd, Nat.reduceSub, Nat.succ_sub_succ, Nat.zero_add, VL.gP, List.filterMap_cons, List.filterMap_nil, List.cons.injEq, VL.wDisp0, VL.wDisp, VL.wPairs, VL.oLcm, VL.wPop, VL.wRevM, VL.wClearM, VL.wTupRg, VL.wListRg, VL.wR1, VL.wR2, VL.wRevN, VL.oRepT, VL.oRepL, at1]
      obtain ⟨n, e, ln⟩ := fmod_lt (a := z.fdiv 8) h0
      rw [e]
      refine ⟨cdv_pos (by decide) (small_bd (by decide) (by decide)), by omega, ?_⟩
      exact h n (a :: z :: c :: r) (pot_of n0 (by omega) d0 d1 l) ln
  clear hk
  refine ifs_gen fun X Y hX hY => ?_
  simp only [VL.wSeq, VL.wNext, VL.wNever, VL.wAsg, VL.wSet, VL.wVar, VL.wFrz, VL.wC, VL.wOp, VL.wTest, VL.wNotT, VL.wAndT, VL.wOrT, VL.wAnd, VL.wOr, VL.wNot, VL.wIf, VL.wNil, VL.wCons, VL.wTup, VL.wLst, VL.wStay, VL.wNew, VL.wPar, VL.wAug, VL.wDrop, VL.wRet, VL.wRetN, VL.wRet0, VL.wIfS, VL.wBrk, VL.wCnt, VL.wGt, VL.wGs, VL.wCB, VL.wCBN, VL.wCall, VL.wCallN, VL.wCallIo, VL.wCallIoN, VL.wCallK, VL.wIsi, VL.wIsi2, VL.wApp, VL.wExt, VL.wIns, VL.wSetIt, VL.wNoPart, VL.wPart, VL.wSl, VL.wSlN, VL.wChain, VL.wNeg, VL.wDnew, VL.wDput, VL.wDget, VL.wDin, VL.wDnin, VL.wIndex, VL.wRev, VL.wParNE, VL.wParEN, VL.wPar3, VL.wYes, VL.wSeqOf, VL.wRng1, VL.wRng2, VL.oI, VL.oI0, VL.oLt, VL.oLe, VL.oGt, VL.oGe, VL.oSub, VL.oMul, VL.oFdiv, VL.oMod, VL.oPow, VL.oShl', VL.oAbs, VL.oMax2, VL.oMin2, VL.oGcd, VL.atI_0, VL.atI_1, VL.atI_2, VL.ixN_20, VL.ixN_21, and_assoc, VL.shp_int, VL.shp_bool, VL.shp_none, VL.eqv_int, VL.eqv_bool, VL.isiD, VL.tyD, String.reduceBEq, Bool.not_true, Bool.not_false, Bool.and_true, Bool.and_false, Bool.true_and, Bool.false_and, Bool.or_true, Bool.or_false, Bool.true_or, Bool.false_or, decide_true, decide_false, Bool.not_eq_true', Bool.not_eq_eq_eq_not, decide_eq_true_eq, decide_eq_false_iff_not, VL.oInt1, VL.oInt2, VL.oLen, VL.oToInt, VL.oAdd, VL.oEq, VL.oNe, VL.oIsN, VL.oIn, VL.itemD, VL.isN, VL.der, VL.ders, VL.dats, VL.ioA, VL.endsV, VL.retE, VL.keepC, Option.map, List.range_succ, List.range_zero, List.map_cons, List.map_nil, List.map_append, List.nil_append, List.cons_append, List.append_nil, List.replicate_zero, List.replicate_succ, List.length_cons, List.length_nil, Nat.sub_self, List.getElem?_cons_zero, List.getElem?_cons_succ, List.set_cons_zero, List.set_cons_succ, Option.some.injEq, exists_eq_left', exists_eq_left, exists_eq_right, exists_and_left, exists_and_right, and_true, true_and, CV.d.injEq, CV.loc.injEq, Cell.lst.injEq, Cell.dat.injEq, Cell.dic.injEq, PyData.int.injEq, PyData.bool.injEq, PyData.list.injEq, PyData.tuple.injEq, PyData.str.injEq, reduceCtorEq, false_and, and_false, exists_false, false_or, or_false, if_true, if_false, reduceIte, Bool.false_eq_true, Nat.reduceAdd, Nat.reduceSub, Nat.succ_sub_succ, Nat.zero_add, VL.gP, List.filterMap_cons, List.filterMap_nil, List.cons.injEq, VL.wDisp0, VL.wDisp, VL.wPairs, VL.oLcm, VL.wPop, VL.wRevM, VL.wClearM, VL.wTupRg, VL.wListRg, VL.wR1, VL.wR2, VL.wRevN, VL.oRepT, VL.oRepL, List.map_cons, at0, at2]
  have go : Y { nx := k, rt := (endsV 2 Q).rt, rn := (endsV 2 Q).rn, bk := (endsV 2 Q).bk, ct := (endsV 2 Q).ct, er := (endsV 2 Q).er } [.lst true (.int a :: .int b :: .int c :: r.map .int), .dat (.int m), .un, .un, .un] := by
    rw [hY]
    simp only [VL.wSeq, VL.wNext, VL.wNever, VL.wAsg, VL.wSet, VL.wVar, VL.wFrz, VL.wC, VL.wOp, VL.wTest, VL.wNotT, VL.wAndT, VL.wOrT, VL.wAnd, VL.wOr, VL.wNot, VL.wIf, VL.wNil, VL.wCons, VL.wTup, VL.wLst, VL.wStay, VL.wNew, VL.wPar, VL.wAug, VL.wDrop, VL.wRet, VL.wRetN, VL.wRet0, VL.wIfS, VL.wBrk, VL.wCnt, VL.wGt, VL.wGs, VL.wCB, VL.wCBN, VL.wCall, VL.wCallN, VL.wCallIo, VL.wCallIoN, VL.wCallK, VL.wIsi, VL.wIsi2, VL.wApp, VL.wExt, VL.wIns, VL.wSetIt, VL.wNoPart, VL.wPart, VL.wSl, VL.wSlN, VL.wChain, VL.wNeg, VL.wDnew, VL.wDput, VL.wDget, VL.wDin, VL.wDnin, VL.wIndex, VL.wRev, VL.wParNE, VL.wParEN, VL.wPar3, VL.wYes, VL.wSeqOf, VL.wRng1, VL.wRng2, VL.oI, VL.oI0, VL.oLt, VL.oLe, VL.oGt, VL.oGe, VL.oSub, VL.oMul, VL.oFdiv, VL.oMod, VL.oPow, VL.oShl', VL.oAbs, VL.oMax2, VL.oMin2, VL.oGcd, VL.atI_0, VL.atI_1, VL.atI_2, VL.ixN_20, VL.ixN_21, and_assoc, VL.shp_int, VL.shp_bool, VL.shp_none, VL.eqv_int, VL.eqv_bool, VL.isiD, VL.tyD, String.reduceBEq, Bool.not_true, Bool.not_false, Bool.and_true, Bool.and_false, Bool.true_and, Bool.false_and, Bool.or_true, Bool.or_false, Bool.true_or, Bool.false_or, decide_true, decide_false, Bool.not_eq_true', Bool.not_eq_eq_eq_not, decide_eq_true_eq, decide_eq_false_iff_not, VL.oInt1, VL.oInt2, VL.oLen, VL.oToInt, VL.oAdd, VL.oEq, VL.oNe, VL.oIsN, VL.oIn, VL.itemD, VL.isN, VL.der, VL.ders, VL.dats, VL.ioA, VL.endsV, VL.retE, VL.keepC, Option.map, List.range_succ, List.range_zero, List.map_cons, List.map_nil, List.map_append, List.nil_append, List.cons_append, List.append_nil, List.replicate_zero, List.replicate_succ, List.length_cons, List.length_nil, Nat.sub_self, List.getElem?_cons_zero, List.getElem?_cons_succ, List.set_cons_zero, List.set_cons_succ, Option.some.injEq, exists_eq_left', exists_eq_left, exists_eq_right, exists_and_left, exists_and_right, and_true, true_and, CV.d.injEq, CV.loc.injEq, Cell.lst.injEq, Cell.dat.injEq, Cell.dic.injEq, PyData.int.injEq, PyData.bool.injEq, PyData.list.injEq, PyData.tuple.injEq, PyData.str.injEq, reduceCtorEq, false_and, and_false, exists_false, false_or, or_false, if_true, if_false, reduceIte, Bool.false_eq_true, Nat.reduceAdd, Nat.reduceSub, Nat.succ_sub_succ, Nat.zero_add, VL.gP, List.filterMap_cons, List.filterMap_nil, List.cons.injEq, VL.wDisp0, VL.wDisp, VL.wPairs, VL.oLcm, VL.wPop, VL.wRevM, VL.wClearM, VL.wTupRg, VL.wListRg, VL.wR1, VL.wR2, VL.wRevN, VL.oRepT, VL.oRepL]
    exact tail a b c _ _ _ b0 b1 c0 c1
  by_cases g : a = 0
  · rw [if_pos g]
    by_cases g2 : c < ((r.map PyData.int).length + 1 + 1 + 1 : Nat)
    · rw [if_pos g2, hX]
      rw [List.length_map] at g2
      obtain ⟨x, hx⟩ : ∃ x : Int, atI (PyData.int a :: .int b :: .int c :: r.map .int) c = some (.int x) := by
        obtain ⟨n, rfl⟩ : ∃ n : Nat, c = n := ⟨c.toNat, by omega⟩
        have hn : n < (a :: b :: (n : Int) :: r).length := by simp only [List.length_cons]; omega
        exact ⟨(a :: b :: (n : Int) :: r)[n], VL.atI_nat (by show ((a :: b :: (n : Int) :: r).map PyData.int)[n]? = _; rw [List.getElem?_map, List.getElem?_eq_getElem hn]; rfl)⟩
      refine seq_gen fun k2 hk2 => ?_
      simp only [VL.wSeq, VL.wNext, VL.wNever, VL.wAsg, VL.wSet, VL.wVar, VL.wFrz, VL.wC, VL.wOp, VL.wTest, VL.wNotT, VL.wAndT, VL.wOrT, VL.wAnd, VL.wOr, VL.wNot, VL.wIf, VL.wNil, VL.wCons, VL.wTup, VL.wLst, VL.wStay, VL.wNew, VL.wPar, VL.wAug, VL.wDrop, VL.wRet, VL.wRetN, VL.wRet0, VL.wIfS, VL.wBrk, VL.wCnt, VL.wGt, VL.wGs, VL.wCB, VL.wCBN, VL.wCall, VL.wCallN, VL.wCallIo, VL.wCallIoN, VL.wCallK, VL.wIsi, VL.wIsi2, VL.wApp, VL.wExt, VL.wIns, VL.wSetIt, VL.wNoPart, VL.wPart, VL.wSl, VL.wSlN, VL.wChain, VL.wNeg, VL.wDnew, VL.wDput, VL.wDget, VL.wDin, VL.wDnin, VL.wIndex, VL.wRev, VL.wParNE, VL.wParEN, VL.wPar3, VL.wYes, VL.wSeqOf, VL.wRng1, VL.wRng2, VL.oI, VL.oI0, VL.oLt, VL.oLe, VL.oGt, VL.oGe, VL.oSub, VL.oMul, VL.oFdiv, VL.oMod, VL.oPow, VL.oShl', VL.oAbs, VL.oMax2, VL.oMin2, VL.oGcd, VL.atI_0, VL.atI_1, VL.atI_2, VL.ixN_20, VL.ixN_21, and_assoc, VL.shp_int, VL.shp_bool, VL.shp_none, VL.eqv_int, VL.eqv_bool, VL.isiD, VL.tyD, String.reduceBEq, Bool.not_true, Bool.not_false, Bool.and_true, Bool.and_false, Bool.true_and, Bool.false_and, Bool.or_true, Bool.or_false, Bool.true_or, Bool.false_or, decide_true, decide_false, Bool.not_eq_true', Bool.not_eq_eq_eq_not, decide_eq_true_eq, decide_eq_false_iff_not, VL.oInt1, VL.oInt2, VL.oLen, VL.oToInt, VL.oAdd, VL.oEq, VL.oNe, VL.oIsN, VL.oIn, VL.itemD, VL.isN, VL.der, VL.ders, VL.dats, VL.ioA, VL.endsV, VL.retE, VL.keepC, Option.map, List.range_succ, List.range_zero, List.map_cons, List.map_nil, List.map_append, List.nil_append, List.cons_append, List.append_nil, List.replicate_zero, List.replicate_succ, List.length_cons, List.length_nil, Nat.sub_self, List.getElem?_cons_zero, List.getElem?_cons_succ, List.set_cons_zero, List.set_cons_succ, Option.some.injEq, exists_eq_left', exists_eq_left, exists_eq_right, exists_and_left, exists_and_right, and_true, true_and, CV.d.injEq, CV.loc.injEq, Cell.lst.injEq, Cell.dat.injEq, Cell.dic.injEq, PyData.int.injEq, PyData.bool.injEq, PyData.list.injEq, PyData.tuple.injEq, PyData.str.injEq, reduceCtorEq, false_and, and_false, exists_false, false_or, or_false, if_true, if_false, reduceIte, Bool.false_eq_true, Nat.reduceAdd, Nat.reduceSub, Nat.succ_sub_succ, Nat.zero_add, VL.gP, List.filterMap_cons, List.filterMap_nil, List.cons.injEq, VL.wDisp0, VL.wDisp, VL.wPairs, VL.oLcm, VL.wPop, VL.wRevM, VL.wClearM, VL.wTupRg, VL.wListRg, VL.wR1, VL.wR2, VL.wRevN, VL.oRepT, VL.oRepL, at2]
      refine ⟨_, hx, ?_⟩
      rw [hk2]
      clear hk2 k2
      refine seq_gen fun k2 hk2 => ?_
      simp only [VL.wSeq, VL.wNext, VL.wNever, VL.wAsg, VL.wSet, VL.wVar, VL.wFrz, VL.wC, VL.wOp, VL.wTest, VL.wNotT, VL.wAndT, VL.wOrT, VL.wAnd, VL.wOr, VL.wNot, VL.wIf, VL.wNil, VL.wCons, VL.wTup, VL.wLst, VL.wStay, VL.wNew, VL.wPar, VL.wAug, VL.wDrop, VL.wRet, VL.wRetN, VL.wRet0, VL.wIfS, VL.wBrk, VL.wCnt, VL.wGt, VL.wGs, VL.wCB, VL.wCBN, VL.wCall, VL.wCallN, VL.wCallIo, VL.wCallIoN, VL.wCallK, VL.wIsi, VL.wIsi2, VL.wApp, VL.wExt, VL.wIns, VL.wSetIt, VL.wNoPart, VL.wPart, VL.wSl, VL.wSlN, VL.wChain, VL.wNeg, VL.wDnew, VL.wDput, VL.wDget, VL.wDin, VL.wDnin, VL.wIndex, VL.wRev, VL.wParNE, VL.wParEN, VL.wPar3, VL.wYes, VL.wSeqOf, VL.wRng1, VL.wRng2, VL.oI, VL.oI0, VL.oLt, VL.oLe, VL.oGt, VL.oGe, VL.oSub, VL.oMul, VL.oFdiv, VL.oMod, VL.oPow, VL.oShl', VL.oAbs, VL.oMax2, VL.oMin2, VL.oGcd, VL.atI_0, VL.atI_1, VL.atI_2, VL.ixN_20, VL.ixN_21, and_assoc, VL.shp_int, VL.shp_bool, VL.shp_none, VL.eqv_int, VL.eqv_bool, VL.isiD, VL.tyD, String.reduceBEq, Bool.not_true, Bool.not_false, Bool.and_true, Bool.and_false, Bool.true_and, Bool.false_and, Bool.or_true, Bool.or_false, Bool.true_or, Bool.false_or, decide_true, decide_false, Bool.not_eq_true', Bool.not_eq_eq_eq_not, decide_eq_true_eq, decide_eq_false_iff_not, VL.oInt1, VL.oInt2, VL.oLen, VL.oToInt, VL.oAdd, VL.oEq, VL.oNe, VL.oIsN, VL.oIn, VL.itemD, VL.isN, VL.der, VL.ders, VL.dats, VL.ioA, VL.endsV, VL.retE, VL.keepC, Option.map, List.range_succ, List.range_zero, List.map_cons, List.map_nil, List.map_append, List.nil_append, List.cons_append, List.append_nil, List.replicate_zero, List.replicate_succ, List.length_cons, List.length_nil, Nat.sub_self, List.getElem?_cons_zero, List.getElem?_cons_succ, List.set_cons_zero, List.set_cons_succ, Option.some.injEq, exists_eq_left', exists_eq_left, exists_eq_right, exists_and_left, exists_and_right, and_true, true_and, CV.d.injEq, CV.loc.injEq, Cell.lst.injEq, Cell.dat.injEq, Cell.dic.injEq, PyData.int.injEq, PyData.bool.injEq, PyData.list.injEq, PyData.tuple.injEq, PyData.str.injEq, reduceCtorEq, false_and, and_false, exists_false, false_or, or_false, if_true, if_false, reduceIte, Bool.false_eq_true, Nat.reduceAdd, Nat.reduceSub, Nat.succ_sub_succ, Nat.zero_add, VL.gP, List.filterMap_cons, List.filterMap_nil, List.cons.injEq, VL.wDisp0, VL.wDisp, VL.wPairs, VL.oLcm, VL.wPop, VL.wRevM, VL.wClearM, VL.wTupRg, VL.wListRg, VL.wR1, VL.wR2, VL.wRevN, VL.oRepT, VL.oRepL, wAugIt, List.length_cons]
      have i0 : ixN ((List.map PyData.int r).length + 1 + 1 + 1) (0 : Int) = some 0 := ix0 (by omega)
      have i1 : ixN ((List.map PyData.int r).length + 1 + 1 + 1) (1 : Int) = some 1 := ix1 (by omega)
      have i2 : ixN ((List.map PyData.int r).length + 1 + 1 + 1) (2 : Int) = some 2 := ix2 (by omega)
      refine ⟨⟨_, rfl⟩, 2, i2, c, rfl, 2, i2, ?_⟩
      show k2 [.lst true (.int a :: .int b :: .int (c + 1) :: r.map .int), .dat (.int m), .dat (.int x), .un, .un]
      rw [hk2]
      clear hk2 k2
      have c2 : c + 1 ≤ 66 := by omega
      refine ifs_gen fun X2 Y2 hX2 hY2 => ?_
      simp only [VL.wSeq, VL.wNext, VL.wNever, VL.wAsg, VL.wSet, VL.wVar, VL.wFrz, VL.wC, VL.wOp, VL.wTest, VL.wNotT, VL.wAndT, VL.wOrT, VL.wAnd, VL.wOr, VL.wNot, VL.wIf, VL.wNil, VL.wCons, VL.wTup, VL.wLst, VL.wStay, VL.wNew, VL.wPar, VL.wAug, VL.wDrop, VL.wRet, VL.wRetN, VL.wRet0, VL.wIfS, VL.wBrk, VL.wCnt, VL.wGt, VL.wGs, VL.wCB, VL.wCBN, VL.wCall, VL.wCallN, VL.wCallIo, VL.wCallIoN, VL.wCallK, VL.wIsi, VL.wIsi2, VL.wApp, VL.wExt, VL.wIns, VL.wSetIt, VL.wNoPart, VL.wPart, VL.wSl, VL.wSlN, VL.wChain, VL.wNeg, VL.wDnew, VL.wDput, VL.wDget, VL.wDin, VL.wDnin, VL.wIndex, VL.wRev, VL.wParNE, VL.wParEN, VL.wPar3, VL.wYes, VL.wSeqOf, VL.wRng1, VL.wRng2, VL.oI, VL.oI0, VL.oLt, VL.oLe, VL.oGt, VL.oGe, VL.oSub, VL.oMul, VL.oFdiv, VL.oMod, VL.oPow, VL.oShl', VL.oAbs, VL.oMax2, VL.oMin2, VL.oGcd, VL.atI_0, VL.atI_1, VL.atI_2, VL.ixN_20, VL.ixN_21, and_assoc, VL.shp_int, VL.shp_bool, VL.shp_none, VL.eqv_int, VL.eqv_bool, VL.isiD, VL.tyD, String.reduceBEq, Bool.not_true, Bool.not_false, Bool.and_true, Bool.and_false, Bool.true_and, Bool.false_and, Bool.or_true, Bool.or_false, Bool.true_or, Bool.false_or, decide_true, decide_false, Bool.not_eq_true', Bool.not_eq_eq_eq_not, decide_eq_true_eq, decide_eq_false_iff_not, VL.oInt1, VL.oInt2, VL.oLen, VL.oToInt, VL.oAdd, VL.oEq, VL.oNe, VL.oIsN, VL.oIn, VL.itemD, VL.isN, VL.der, VL.ders, VL.dats, VL.ioA, VL.endsV, VL.retE, VL.keepC, Option.map, List.range_succ, List.range_zero, List.map_cons, List.map_nil, List.map_append, List.nil_append, List.cons_append, List.append_nil, List.replicate_zero, List.replicate_succ, List.length_cons, List.length_nil, Nat.sub_self, List.getElem?_cons_zero, List.getElem?_cons_succ, List.set_cons_zero, List.set_cons_succ, Option.some.injEq, exists_eq_left', exists_eq_left, exists_eq_right, exists_and_left, exists_and_right, and_true, true_and, CV.d.injEq, CV.loc.injEq, Cell.lst.injEq, Cell.dat.injEq, Cell.dic.injEq, PyData.int.injEq, PyData.bool.injEq, PyData.list.injEq, PyData.tuple.injEq, PyData.str.injEq, reduceCtorEq, false_and, and_false, exists_false, false_or, or_false, if_true, if_false, reduceIte, Bool.false_eq_true, Nat.reduceAdd, Nat.reduceSub, Nat.succ_sub_succ, Nat.zero_add, VL.gP, List.filterMap_cons, List.filterMap_nil, List.cons.injEq, VL.wDisp0, VL.wDisp, VL.wPairs, VL.oLcm, VL.wPop, VL.wRevM, VL.wClearM, VL.wTupRg, VL.wListRg, VL.wR1, VL.wR2, VL.wRevN, VL.oRepT, VL.oRepL]
      refine ⟨cp, ?_⟩
      split
      · rw [hX2]
        simp only [VL.wSeq, VL.wNext, VL.wNever, VL.wAsg, VL.wSet, VL.wVar, VL.wFrz, VL.wC, VL.wOp, VL.wTest, VL.wNotT, VL.wAndT, VL.wOrT, VL.wAnd, VL.wOr, VL.wNot, VL.wIf, VL.wNil, VL.wCons, VL.wTup, VL.wLst, VL.wStay, VL.wNew, VL.wPar, VL.wAug, VL.wDrop, VL.wRet, VL.wRetN, VL.wRet0, VL.wIfS, VL.wBrk, VL.wCnt, VL.wGt, VL.wGs, VL.wCB, VL.wCBN, VL.wCall, VL.wCallN, VL.wCallIo, VL.wCallIoN, VL.wCallK, VL.wIsi, VL.wIsi2, VL.wApp, VL.wExt, VL.wIns, VL.wSetIt, VL.wNoPart, VL.wPart, VL.wSl, VL.wSlN, VL.wChain, VL.wNeg, VL.wDnew, VL.wDput, VL.wDget, VL.wDin, VL.wDnin, VL.wIndex, VL.wRev, VL.wParNE, VL.wParEN, VL.wPar3, VL.wYes, VL.wSeqOf, VL.wRng1, VL.wRng2, VL.oI, VL.oI0, VL.oLt, VL.oLe, VL.oGt, VL.oGe, VL.oSub, VL.oMul, VL.oFdiv, VL.oMod, VL.oPow, VL.oShl', VL.oAbs, VL.oMax2, VL.oMin2, VL.oGcd, VL.atI_0, VL.atI_1, VL.atI_2, VL.ixN_20, VL.ixN_21, and_assoc, VL.shp_int, VL.shp_bool, VL.shp_none, VL.eqv_int, VL.eqv_bool, VL.isiD, VL.tyD, String.reduceBEq, Bool.not_true, Bool.not_false, Bool.and_true, Bool.and_false, Bool.true_and, Bool.false_and, Bool.or_true, Bool.or_false, Bool.true_or, Bool.false_or, decide_true, decide_false, Bool.not_eq_true', Bool.not_eq_eq_eq_not, decide_eq_true_eq, decide_eq_false_iff_not, VL.oInt1, VL.oInt2, VL.oLen, VL.oToInt, VL.oAdd, VL.oEq, VL.oNe, VL.oIsN, VL.oIn, VL.itemD, VL.isN, VL.der, VL.ders, VL.dats, VL.ioA, VL.endsV, VL.retE, VL.keepC, Option.map, List.range_succ, List.range_zero, List.map_cons, List.map_nil, List.map_append, List.nil_append, List.cons_append, List.append_nil, List.replicate_zero, List.replicate_succ, List.length_cons, List.length_nil, Nat.sub_self, List.getElem?_cons_zero, List.getElem?_cons_succ, List.set_cons_zero, List.set_cons_succ, Option.some.injEq, exists_eq_left', exists_eq_left, exists_eq_right, exists_and_left, exists_and_right, and_true, true_and, CV.d.injEq, CV.loc.injEq, Cell.lst.injEq, Cell.dat.injEq, Cell.dic.injEq, PyData.int.injEq, PyData.bool.injEq, PyData.list.injEq, PyData.tuple.injEq, PyData.str.injEq, reduceCtorEq, false_and, and_false, exists_false, false_or, or_false, if_true, if_false, reduceIte, Bool.false_eq_true, Nat.reduceAdd, Nat.reduceSub, Nat.succ_sub_succ, Nat.zero_add, VL.gP, List.filterMap_cons, List.filterMap_nil, List.cons.injEq, VL.wDisp0, VL.wDisp, VL.wPairs, VL.oLcm, VL.wPop, VL.wRevM, VL.wClearM, VL.wTupRg, VL.wListRg, VL.wR1, VL.wR2, VL.wRevN, VL.oRepT, VL.oRepL, List.length_cons]
        refine ⟨cp, ⟨_, rfl⟩, 0, i0, ?_⟩
        exact tail _ b (c + 1) _ _ _ b0 b1 (by omega) c2
      · rw [hY2]
        clear hX2 hY2 hX hY X Y X2 Y2 go
        refine seq_gen fun k2 hk2 => ?_
        simp only [VL.wSeq, VL.wNext, VL.wNever, VL.wAsg, VL.wSet, VL.wVar, VL.wFrz, VL.wC, VL.wOp, VL.wTest, VL.wNotT, VL.wAndT, VL.wOrT, VL.wAnd, VL.wOr, VL.wNot, VL.wIf, VL.wNil, VL.wCons, VL.wTup, VL.wLst, VL.wStay, VL.wNew, VL.wPar, VL.wAug, VL.wDrop, VL.wRet, VL.wRetN, VL.wRet0, VL.wIfS, VL.wBrk, VL.wCnt, VL.wGt, VL.wGs, VL.wCB, VL.wCBN, VL.wCall, VL.wCallN, VL.wCallIo, VL.wCallIoN, VL.wCallK, VL.wIsi, VL.wIsi2, VL.wApp, VL.wExt, VL.wIns, VL.wSetIt, VL.wNoPart, VL.wPart, VL.wSl, VL.wSlN, VL.wChain, VL.wNeg, VL.wDnew, VL.wDput, VL.wDget, VL.wDin, VL.wDnin, VL.wIndex, VL.wRev, VL.wParNE, VL.wParEN, VL.wPar3, VL.wYes, VL.wSeqOf, VL.wRng1, VL.wRng2, VL.oI, VL.oI0, VL.oLt, VL.oLe, VL.oGt, VL.oGe, VL.oSub, VL.oMul, VL.oFdiv, VL.oMod, VL.oPow, VL.oShl', VL.oAbs, VL.oMax2, VL.oMin2, VL.oGcd, VL.atI_0, VL.atI_1, VL.atI_2, VL.ixN_20, VL.ixN_21, and_assoc, VL.shp_int, VL.shp_bool, VL.shp_none, VL.eqv_int, VL.eqv_bool, VL.isiD, VL.tyD, String.reduceBEq, Bool.not_true, Bool.not_false, Bool.and_true, Bool.and_false, Bool.true_and, Bool.false_and, Bool.or_true, Bool.or_false, Bool.true_or, Bool.false_or, decide_true, decide_false, Bool.not_eq_true', Bool.not_eq_eq_eq_not, decide_eq_true_eq, decide_eq_false_iff_not, VL.oInt1, VL.oInt2, VL.oLen, VL.oToInt, VL.oAdd, VL.oEq, VL.oNe, VL.oIsN, VL.oIn, VL.itemD, VL.isN, VL.der, VL.ders, VL.dats, VL.ioA, VL.endsV, VL.retE, VL.keepC, Option.map, List.range_succ, List.range_zero, List.map_cons, List.map_nil, List.map_append, List.nil_append, List.cons_append, List.append_nil, List.replicate_zero, List.replicate_succ, List.length_cons, List.length_nil, Nat.sub_self, List.getElem?_cons_zero, List.getElem?_cons_succ, List.set_cons_zero, List.set_cons_succ, Option.some.injEq, exists_eq_left', exists_eq_left, exists_eq_right, exists_and_left, exists_and_right, and_true, true_and, CV.d.injEq, CV.loc.injEq, Cell.lst.injEq, Cell.dat.injEq, Cell.dic.injEq, PyData.int.injEq, PyData.bool.injEq, PyData.list.injEq, PyData.tuple.injEq, PyData.str.injEq, reduceCtorEq, false_and, and_false, exists_false, false_or, or_false, if_true, if_false, reduceIte, Bool.false_eq_true, Nat.reduceAdd, Nat.reduceSub, Nat.succ_sub_succ, Nat.zero_add, VL.gP, List.filterMap_cons, List.filterMap_nil, List.cons.injEq, VL.wDisp0, VL.wDisp, VL.wPairs, VL.oLcm, VL.wPop, VL.wRevM, VL.wClearM, VL.wTupRg, VL.wListRg, VL.wR1, VL.wR2, VL.wRevN, VL.oRepT, VL.oRepL]
        refine ⟨by decide, ?_⟩
        rw [hk2]
        clear hk2 k2
        have m0 : 0 ≤ x.fmod 2147483647 := Int.fmod_nonneg_of_pos _ (by decide)
        have m1 : x.fmod 2147483647 < 2147483647 := Int.fmod_lt_of_pos _ (by decide)
        generalize x.fmod 2147483647 = y at *
        refine seq_gen fun k2 hk2 => ?_
        simp only [VL.wSeq, VL.wNext, VL.wNever, VL.wAsg, VL.wSet, VL.wVar, VL.wFrz, VL.wC, VL.wOp, VL.wTest, VL.wNotT, VL.wAndT, VL.wOrT, VL.wAnd, VL.wOr, VL.wNot, VL.wIf, VL.wNil, VL.wCons, VL.wTup, VL.wLst, VL.wStay, VL.wNew, VL.wPar, VL.wAug, VL.wDrop, VL.wRet, VL.wRetN, VL.wRet0, VL.wIfS, VL.wBrk, VL.wCnt, VL.wGt, VL.wGs, VL.wCB, VL.wCBN, VL.wCall, VL.wCallN, VL.wCallIo, VL.wCallIoN, VL.wCallK, VL.wIsi, VL.wIsi2, VL.wApp, VL.wExt, VL.wIns, VL.wSetIt, VL.wNoPart, VL.wPart, VL.wSl, VL.wSlN, VL.wChain, VL.wNeg, VL.wDnew, VL.wDput, VL.wDget, VL.wDin, VL.wDnin, VL.wIndex, VL.wRev, VL.wParNE, VL.wParEN, VL.wPar3, VL.wYes, VL.wSeqOf, VL.wRng1, VL.wRng2, VL.oI, VL.oI0, VL.oLt, VL.oLe, VL.oGt, VL.oGe, VL.oSub, VL.oMul, VL.oFdiv, VL.oMod, VL.oPow, VL.oShl', VL.oAbs, VL.oMax2, VL.oMin2, VL.oGcd, VL.atI_0, VL.atI_1, VL.atI_2, VL.ixN_20, VL.ixN_21, and_assoc, VL.shp_int, VL.shp_bool, VL.shp_none, VL.eqv_int, VL.eqv_bool, VL.isiD, VL.tyD, String.reduceBEq, Bool.not_true, Bool.not_false, Bool.and_true, Bool.and_false, Bool.true_and, Bool.false_and, Bool.or_true, Bool.or_false, Bool.true_or, Bool.false_or, decide_true, decide_false, Bool.not_eq_true', Bool.not_eq_eq_eq_not, decide_eq_true_eq, decide_eq_false_iff_not, VL.oInt1, VL.oInt2, VL.oLen, VL.oToInt, VL.oAdd, VL.oEq, VL.oNe, VL.oIsN, VL.oIn, VL.itemD, VL.isN, VL.der, VL.ders, VL.dats, VL.ioA, VL.endsV, VL.retE, VL.keepC, Option.map, List.range_succ, List.range_zero, List.map_cons, List.map_nil, List.map_append, List.nil_append, List.cons_append, List.append_nil, List.replicate_zero, List.replicate_succ, List.length_cons, List.length_nil, Nat.sub_self, List.getElem?_cons_zero, List.getElem?_cons_succ, List.set_cons_zero, List.set_cons_succ, Option.some.injEq, exists_eq_left', exists_eq_left, exists_eq_right, exists_and_left, exists_and_right, and_true, true_and, CV.d.injEq, CV.loc.injEq, Cell.lst.injEq, Cell.dat.injEq, Cell.dic.injEq, PyData.int.injEq, PyData.bool.injEq, PyData.list.injEq, PyData.tuple.injEq, PyData.str.injEq, reduceCtorEq, false_and, and_false, exists_false, false_or, or_false, if_true, if_false, reduceIte, Bool.false_eq_true, Nat.reduceAdd, Nat.reduceSub, Nat.succ_sub_succ, Nat.zero_add, VL.gP, List.filterMap_cons, List.filterMap_nil, List.cons.injEq, VL.wDisp0, VL.wDisp, VL.wPairs, VL.oLcm, VL.wPop, VL.wRevM, VL.wClearM, VL.wTupRg, VL.wListRg, VL.wR1, VL.wR2, VL.wRevN, VL.oRepT, VL.oRepL, at2]
        have ck : ∀ {u v : Int}, 0 ≤ u → u < 2 ^ 64 → 0 ≤ v → v < 2 ^ 64 → COk u v := fun h1 h2 h3 h4 => cok_bd (bd_big (small_bd h1 h2)) (bd_big (small_bd h3 h4))
        refine ⟨ck m0 (by omega) m0 (by omega), ck (by decide) (by decide) m0 (by omega), ck (by decide) (by decide) (by omega) (by omega), by decide, ?_⟩
        rw [hk2]
        clear hk2 k2
        simp only [VL.wSeq, VL.wNext, VL.wNever, VL.wAsg, VL.wSet, VL.wVar, VL.wFrz, VL.wC, VL.wOp, VL.wTest, VL.wNotT, VL.wAndT, VL.wOrT, VL.wAnd, VL.wOr, VL.wNot, VL.wIf, VL.wNil, VL.wCons, VL.wTup, VL.wLst, VL.wStay, VL.wNew, VL.wPar, VL.wAug, VL.wDrop, VL.wRet, VL.wRetN, VL.wRet0, VL.wIfS, VL.wBrk, VL.wCnt, VL.wGt, VL.wGs, VL.wCB, VL.wCBN, VL.wCall, VL.wCallN, VL.wCallIo, VL.wCallIoN, VL.wCallK, VL.wIsi, VL.wIsi2, VL.wApp, VL.wExt, VL.wIns, VL.wSetIt, VL.wNoPart, VL.wPart, VL.wSl, VL.wSlN, VL.wChain, VL.wNeg, VL.wDnew, VL.wDput, VL.wDget, VL.wDin, VL.wDnin, VL.wIndex, VL.wRev, VL.wParNE, VL.wParEN, VL.wPar3, VL.wYes, VL.wSeqOf, VL.wRng1, VL.wRng2, VL.oI, VL.oI0, VL.oLt, VL.oLe, VL.oGt, VL.oGe, VL.oSub, VL.oMul, VL.oFdiv, VL.oMod, VL.oPow, VL.oShl', VL.oAbs, VL.oMax2, VL.oMin2, VL.oGcd, VL.atI_0, VL.atI_1, VL.atI_2, VL.ixN_20, VL.ixN_21, and_assoc, VL.shp_int, VL.shp_bool, VL.shp_none, VL.eqv_int, VL.eqv_bool, VL.isiD, VL.tyD, String.reduceBEq, Bool.not_true, Bool.not_false, Bool.and_true, Bool.and_false, Bool.true_and, Bool.false_and, Bool.or_true, Bool.or_false, Bool.true_or, Bool.false_or, decide_true, decide_false, Bool.not_eq_true', Bool.not_eq_eq_eq_not, decide_eq_true_eq, decide_eq_false_iff_not, VL.oInt1, VL.oInt2, VL.oLen, VL.oToInt, VL.oAdd, VL.oEq, VL.oNe, VL.oIsN, VL.oIn, VL.itemD, VL.isN, VL.der, VL.ders, VL.dats, VL.ioA, VL.endsV, VL.retE, VL.keepC, Option.map, List.range_succ, List.range_zero, List.map_cons, List.map_nil, List.map_append, List.nil_append, List.cons_append, List.append_nil, List.replicate_zero, List.replicate_succ, List.length_cons, List.length_nil, Nat.sub_self, List.getElem?_cons_zero, List.getElem?_cons_succ, List.set_cons_zero, List.set_cons_succ, Option.some.injEq, exists_eq_left', exists_eq_left, exists_eq_right, exists_and_left, exists_and_right, and_true, true_and, CV.d.injEq, CV.loc.injEq, Cell.lst.injEq, Cell.dat.injEq, Cell.dic.injEq, PyData.int.injEq, PyData.bool.injEq, PyData.list.injEq, PyData.tuple.injEq, PyData.str.injEq, reduceCtorEq, false_and, and_false, exists_false, false_or, or_false, if_true, if_false, reduceIte, Bool.false_eq_true, Nat.reduceAdd, Nat.reduceSub, Nat.succ_sub_succ, Nat.zero_add, VL.gP, List.filterMap_cons, List.filterMap_nil, List.cons.injEq, VL.wDisp0, VL.wDisp, VL.wPairs, VL.oLcm, VL.wPop, VL.wRevM, VL.wClearM, VL.wTupRg, VL.wListRg, VL.wR1, VL.wR2, VL.wRevN, VL.oRepT, VL.oRepL, at1, List.length_cons]
        refine ⟨by decide, ⟨_, rfl⟩, 1, i1, ?_⟩
        exact tail a _ (c + 1) _ _ _ (Int.fmod_nonneg_of_pos _ (by decide)) (Int.lt_trans (Int.fmod_lt_of_pos _ (by decide)) (by decide)) (by omega) c2
    · rw [if_neg g2]
      exact go
  · rw [if_neg g]
    exact go
theorem rep_snoc : ∀ i : Nat, (List.replicate i true).map PyData.bool ++ [PyData.bool true] = PyData.bool true :: (List.replicate i true).map PyData.bool
  | 0 => rfl
  | i + 1 => by
    rw [List.replicate_succ, List.map_cons, List.cons_append, rep_snoc i]
theorem rep_all (i : Nat) : (List.replicate i true).all id = true := by
  rw [List.all_eq_true]
  intro x hx
  rw [List.eq_of_mem_replicate hx]
  rfl
theorem any_snoc {acc : List D} {b : Bool} (h : acc.any isFd = false) : (acc ++ [PyData.bool b]).any isFd = !b := by
  rw [List.any_append, h]
  cases b <;> rfl
end K13
end
section
set_option autoImplicit false
set_option maxRecDepth 100000
set_option maxHeartbeats 4000000
namespace K13
open PySem PySem.Spec PyProof.Rows L2 VL
theorem shp_str {x : Str} (h : PyData.strOk x = true) : shp (.str x) = true := by
  unfold shp SeqAt.shaped
  simp [PyData.canLay0, PyData.depth, h]
theorem shp_w (p : Pl) : shp (.str p.w) = true := by
  refine shp_str ?_
  unfold Pl.w
  cases p.to <;> decide +kernel
theorem shp_is : shp (.str "is") = true := shp_str (by decide +kernel)
theorem shp_to : shp (.str "to") = true := shp_str (by decide +kernel)
theorem eqv_str (x y : Str) : PyData.eqv (.str x) (.str y) = decide (x = y) := by
  simp only [PyData.eqv]
  by_cases h : x = y
  · simp [h]
  · simp [h]
theorem w_to (p : Pl) : PyData.eqv (.str p.w) (.str "to") = p.to := by
  rw [eqv_str]
  unfold Pl.w
  cases p.to <;> decide
theorem w_is (p : Pl) : PyData.eqv (.str p.w) (.str "is") = !p.to := by
  rw [eqv_str]
  unfold Pl.w
  cases p.to <;> decide
theorem ns_at {ts : List Nat} {i : Nat} {d : D} (h : (nsD ts)[i]? = some d) : ∃ t : Nat, d = .int t ∧ ts[i]? = some t ∧ t ∈ ts := by
  unfold nsD at h
  rw [List.getElem?_map] at h
  cases e : ts[i]? with
  | none =>
    rw [e] at h
    cases h
  | some t =>
    rw [e] at h
    cases h
    exact ⟨t, rfl, rfl, List.mem_of_getElem? e⟩
theorem rw_at {rs : List (Pl × Pl)} {i : Nat} {d : D} (h : (rs.map rwD)[i]? = some d) : ∃ r, d = rwD r ∧ rs[i]? = some r ∧ r ∈ rs := by
  rw [List.getElem?_map] at h
  cases e : rs[i]? with
  | none =>
    rw [e] at h
    cases h
  | some t =>
    rw [e] at h
    cases h
    exact ⟨t, rfl, rfl, List.mem_of_getElem? e⟩
theorem h__law_same (j : Nat) (ρ : En) (Q : RV → En → Prop) (h : S__law_same (j + 1) ρ Q) : t__law_same j (endsV 2 Q) (ρ ++ List.replicate (3 - 2) .un) := by
  obtain ⟨d, rfl, ok, h⟩ := h
  unfold t__law_same
  cases ok with
  | int _ i =>
    simp only [VL.wSeq, VL.wNext, VL.wNever, VL.wAsg, VL.wSet, VL.wVar, VL.wFrz, VL.wC, VL.wOp, VL.wTest, VL.wNotT, VL.wAndT, VL.wOrT, VL.wAnd, VL.wOr, VL.wNot, VL.wIf, VL.wNil, VL.wCons, VL.wTup, VL.wLst, VL.wStay, VL.wNew, VL.wPar, VL.wAug, VL.wDrop, VL.wRet, VL.wRetN, VL.wRet0, VL.wIfS, VL.wBrk, VL.wCnt, VL.wGt, VL.wGs, VL.wCB, VL.wCBN, VL.wCall, VL.wCallN, VL.wCallIo, VL.wCallIoN, VL.wCallK, VL.wIsi, VL.wIsi2, VL.wApp, VL.wExt, VL.wIns, VL.wSetIt, VL.wNoPart, VL.wPart, VL.wSl, VL.wSlN, VL.wChain, VL.wNeg, VL.wDnew, VL.wDput, VL.wDget, VL.wDin, VL.wDnin, VL.wIndex, VL.wRev, VL.wParNE, VL.wParEN, VL.wPar3, VL.wYes, VL.wSeqOf, VL.wRng1, VL.wRng2, VL.oI, VL.oI0, VL.oLt, VL.oLe, VL.oGt, VL.oGe, VL.oSub, VL.oMul, VL.oFdiv, VL.oMod, VL.oPow, VL.oShl', VL.oAbs, VL.oMax2, VL.oMin2, VL.oGcd, VL.atI_0, VL.atI_1, VL.atI_2, VL.ixN_20, VL.ixN_21, and_assoc, VL.shp_int, VL.shp_bool, VL.shp_none, VL.eqv_int, VL.eqv_bool, VL.isiD, VL.tyD, String.reduceBEq, Bool.not_true, Bool.not_false, Bool.and_true, Bool.and_false, Bool.true_and, Bool.false_and, Bool.or_true, Bool.or_false, Bool.true_or, Bool.false_or, decide_true, decide_false, Bool.not_eq_true', Bool.not_eq_eq_eq_not, decide_eq_true_eq, decide_eq_false_iff_not, VL.oInt1, VL.oInt2, VL.oLen, VL.oToInt, VL.oAdd, VL.oEq, VL.oNe, VL.oIsN, VL.oIn, VL.itemD, VL.isN, VL.der, VL.ders, VL.dats, VL.ioA, VL.endsV, VL.retE, VL.keepC, Option.map, List.range_succ, List.range_zero, List.map_cons, List.map_nil, List.map_append, List.nil_append, List.cons_append, List.append_nil, List.replicate_zero, List.replicate_succ, List.length_cons, List.length_nil, Nat.sub_self, List.getElem?_cons_zero, List.getElem?_cons_succ, List.set_cons_zero, List.set_cons_succ, Option.some.injEq, exists_eq_left', exists_eq_left, exists_eq_right, exists_and_left, exists_and_right, and_true, true_and, CV.d.injEq, CV.loc.injEq, Cell.lst.injEq, Cell.dat.injEq, Cell.dic.injEq, PyData.int.injEq, PyData.bool.injEq, PyData.list.injEq, PyData.tuple.injEq, PyData.str.injEq, reduceCtorEq, false_and, and_false, exists_false, false_or, or_false, if_true, if_false, reduceIte, Bool.false_eq_true, Nat.reduceAdd, Nat.reduceSub, Nat.succ_sub_succ, Nat.zero_add, VL.gP, List.filterMap_cons, List.filterMap_nil, List.cons.injEq, VL.wDisp0, VL.wDisp, VL.wPairs, VL.oLcm, VL.wPop, VL.wRevM, VL.wClearM, VL.wTupRg, VL.wListRg, VL.wR1, VL.wR2, VL.wRevN, VL.oRepT, VL.oRepL, tyD]
    exact h
  | str _ x sx =>
    simp only [VL.wSeq, VL.wNext, VL.wNever, VL.wAsg, VL.wSet, VL.wVar, VL.wFrz, VL.wC, VL.wOp, VL.wTest, VL.wNotT, VL.wAndT, VL.wOrT, VL.wAnd, VL.wOr, VL.wNot, VL.wIf, VL.wNil, VL.wCons, VL.wTup, VL.wLst, VL.wStay, VL.wNew, VL.wPar, VL.wAug, VL.wDrop, VL.wRet, VL.wRetN, VL.wRet0, VL.wIfS, VL.wBrk, VL.wCnt, VL.wGt, VL.wGs, VL.wCB, VL.wCBN, VL.wCall, VL.wCallN, VL.wCallIo, VL.wCallIoN, VL.wCallK, VL.wIsi, VL.wIsi2, VL.wApp, VL.wExt, VL.wIns, VL.wSetIt, VL.wNoPart, VL.wPart, VL.wSl, VL.wSlN, VL.wChain, VL.wNeg, VL.wDnew, VL.wDput, VL.wDget, VL.wDin, VL.wDnin, VL.wIndex, VL.wRev, VL.wParNE, VL.wParEN, VL.wPar3, VL.wYes, VL.wSeqOf, VL.wRng1, VL.wRng2, VL.oI, VL.oI0, VL.oLt, VL.oLe, VL.oGt, VL.oGe, VL.oSub, VL.oMul, VL.oFdiv, VL.oMod, VL.oPow, VL.oShl', VL.oAbs, VL.oMax2, VL.oMin2, VL.oGcd, VL.atI_0, VL.atI_1, VL.atI_2, VL.ixN_20, VL.ixN_21, and_assoc, VL.shp_int, VL.shp_bool, VL.shp_none, VL.eqv_int, VL.eqv_bool, VL.isiD, VL.tyD, String.reduceBEq, Bool.not_true, Bool.not_false, Bool.and_true, Bool.and_false, Bool.true_and, Bool.false_and, Bool.or_true, Bool.or_false, Bool.true_or, Bool.false_or, decide_true, decide_false, Bool.not_eq_true', Bool.not_eq_eq_eq_not, decide_eq_true_eq, decide_eq_false_iff_not, VL.oInt1, VL.oInt2, VL.oLen, VL.oToInt, VL.oAdd, VL.oEq, VL.oNe, VL.oIsN, VL.oIn, VL.itemD, VL.isN, VL.der, VL.ders, VL.dats, VL.ioA, VL.endsV, VL.retE, VL.keepC, Option.map, List.range_succ, List.range_zero, List.map_cons, List.map_nil, List.map_append, List.nil_append, List.cons_append, List.append_nil, List.replicate_zero, List.replicate_succ, List.length_cons, List.length_nil, Nat.sub_self, List.getElem?_cons_zero, List.getElem?_cons_succ, List.set_cons_zero, List.set_cons_succ, Option.some.injEq, exists_eq_left', exists_eq_left, exists_eq_right, exists_and_left, exists_and_right, and_true, true_and, CV.d.injEq, CV.loc.injEq, Cell.lst.injEq, Cell.dat.injEq, Cell.dic.injEq, PyData.int.injEq, PyData.bool.injEq, PyData.list.injEq, PyData.tuple.injEq, PyData.str.injEq, reduceCtorEq, false_and, and_false, exists_false, false_or, or_false, if_true, if_false, reduceIte, Bool.false_eq_true, Nat.reduceAdd, Nat.reduceSub, Nat.succ_sub_succ, Nat.zero_add, VL.gP, List.filterMap_cons, List.filterMap_nil, List.cons.injEq, VL.wDisp0, VL.wDisp, VL.wPairs, VL.oLcm, VL.wPop, VL.wRevM, VL.wClearM, VL.wTupRg, VL.wListRg, VL.wR1, VL.wR2, VL.wRevN, VL.oRepT, VL.oRepL, tyD]
    rw [eqv_str, decide_eq_true rfl]
    exact ⟨shp_str sx, shp_str sx, h⟩
  | lst _ ds hl hd =>
    simp only [VL.wSeq, VL.wNext, VL.wNever, VL.wAsg, VL.wSet, VL.wVar, VL.wFrz, VL.wC, VL.wOp, VL.wTest, VL.wNotT, VL.wAndT, VL.wOrT, VL.wAnd, VL.wOr, VL.wNot, VL.wIf, VL.wNil, VL.wCons, VL.wTup, VL.wLst, VL.wStay, VL.wNew, VL.wPar, VL.wAug, VL.wDrop, VL.wRet, VL.wRetN, VL.wRet0, VL.wIfS, VL.wBrk, VL.wCnt, VL.wGt, VL.wGs, VL.wCB, VL.wCBN, VL.wCall, VL.wCallN, VL.wCallIo, VL.wCallIoN, VL.wCallK, VL.wIsi, VL.wIsi2, VL.wApp, VL.wExt, VL.wIns, VL.wSetIt, VL.wNoPart, VL.wPart, VL.wSl, VL.wSlN, VL.wChain, VL.wNeg, VL.wDnew, VL.wDput, VL.wDget, VL.wDin, VL.wDnin, VL.wIndex, VL.wRev, VL.wParNE, VL.wParEN, VL.wPar3, VL.wYes, VL.wSeqOf, VL.wRng1, VL.wRng2, VL.oI, VL.oI0, VL.oLt, VL.oLe, VL.oGt, VL.oGe, VL.oSub, VL.oMul, VL.oFdiv, VL.oMod, VL.oPow, VL.oShl', VL.oAbs, VL.oMax2, VL.oMin2, VL.oGcd, VL.atI_0, VL.atI_1, VL.atI_2, VL.ixN_20, VL.ixN_21, and_assoc, VL.shp_int, VL.shp_bool, VL.shp_none, VL.eqv_int, VL.eqv_bool, VL.isiD, VL.tyD, String.reduceBEq, Bool.not_true, Bool.not_false, Bool.and_true, Bool.and_false, Bool.true_and, Bool.false_and, Bool.or_true, Bool.or_false, Bool.true_or, Bool.false_or, decide_true, decide_false, Bool.not_eq_true', Bool.not_eq_eq_eq_not, decide_eq_true_eq, decide_eq_false_iff_not, VL.oInt1, VL.oInt2, VL.oLen, VL.oToInt, VL.oAdd, VL.oEq, VL.oNe, VL.oIsN, VL.oIn, VL.itemD, VL.isN, VL.der, VL.ders, VL.dats, VL.ioA, VL.endsV, VL.retE, VL.keepC, Option.map, List.range_succ, List.range_zero, List.map_cons, List.map_nil, List.map_append, List.nil_append, List.cons_append, List.append_nil, List.replicate_zero, List.replicate_succ, List.length_cons, List.length_nil, Nat.sub_self, List.getElem?_cons_zero, List.getElem?_cons_succ, List.set_cons_zero, List.set_cons_succ, Option.some.injEq, exists_eq_left', exists_eq_left, exists_eq_right, exists_and_left, exists_and_right, and_true, true_and, CV.d.injEq, CV.loc.injEq, Cell.lst.injEq, Cell.dat.injEq, Cell.dic.injEq, PyData.int.injEq, PyData.bool.injEq, PyData.list.injEq, PyData.tuple.injEq, PyData.str.injEq, reduceCtorEq, false_and, and_false, exists_false, false_or, or_false, if_true, if_false, reduceIte, Bool.false_eq_true, Nat.reduceAdd, Nat.reduceSub, Nat.succ_sub_succ, Nat.zero_add, VL.gP, List.filterMap_cons, List.filterMap_nil, List.cons.injEq, VL.wDisp0, VL.wDisp, VL.wPairs, VL.oLcm, VL.wPop, VL.wRevM, VL.wClearM, VL.wTupRg, VL.wListRg, VL.wR1, VL.wR2, VL.wRevN, VL.oRepT, VL.oRepL, tyD]
    unfold wLc
    simp only [VL.wSeq, VL.wNext, VL.wNever, VL.wAsg, VL.wSet, VL.wVar, VL.wFrz, VL.wC, VL.wOp, VL.wTest, VL.wNotT, VL.wAndT, VL.wOrT, VL.wAnd, VL.wOr, VL.wNot, VL.wIf, VL.wNil, VL.wCons, VL.wTup, VL.wLst, VL.wStay, VL.wNew, VL.wPar, VL.wAug, VL.wDrop, VL.wRet, VL.wRetN, VL.wRet0, VL.wIfS, VL.wBrk, VL.wCnt, VL.wGt, VL.wGs, VL.wCB, VL.wCBN, VL.wCall, VL.wCallN, VL.wCallIo, VL.wCallIoN, VL.wCallK, VL.wIsi, VL.wIsi2, VL.wApp, VL.wExt, VL.wIns, VL.wSetIt, VL.wNoPart, VL.wPart, VL.wSl, VL.wSlN, VL.wChain, VL.wNeg, VL.wDnew, VL.wDput, VL.wDget, VL.wDin, VL.wDnin, VL.wIndex, VL.wRev, VL.wParNE, VL.wParEN, VL.wPar3, VL.wYes, VL.wSeqOf, VL.wRng1, VL.wRng2, VL.oI, VL.oI0, VL.oLt, VL.oLe, VL.oGt, VL.oGe, VL.oSub, VL.oMul, VL.oFdiv, VL.oMod, VL.oPow, VL.oShl', VL.oAbs, VL.oMax2, VL.oMin2, VL.oGcd, VL.atI_0, VL.atI_1, VL.atI_2, VL.ixN_20, VL.ixN_21, and_assoc, VL.shp_int, VL.shp_bool, VL.shp_none, VL.eqv_int, VL.eqv_bool, VL.isiD, VL.tyD, String.reduceBEq, Bool.not_true, Bool.not_false, Bool.and_true, Bool.and_false, Bool.true_and, Bool.false_and, Bool.or_true, Bool.or_false, Bool.true_or, Bool.false_or, decide_true, decide_false, Bool.not_eq_true', Bool.not_eq_eq_eq_not, decide_eq_true_eq, decide_eq_false_iff_not, VL.oInt1, VL.oInt2, VL.oLen, VL.oToInt, VL.oAdd, VL.oEq, VL.oNe, VL.oIsN, VL.oIn, VL.itemD, VL.isN, VL.der, VL.ders, VL.dats, VL.ioA, VL.endsV, VL.retE, VL.keepC, Option.map, List.range_succ, List.range_zero, List.map_cons, List.map_nil, List.map_append, List.nil_append, List.cons_append, List.append_nil, List.replicate_zero, List.replicate_succ, List.length_cons, List.length_nil, Nat.sub_self, List.getElem?_cons_zero, List.getElem?_cons_succ, List.set_cons_zero, List.set_cons_succ, Option.some.injEq, exists_eq_left', exists_eq_left, exists_eq_right, exists_and_left, exists_and_right, and_true, true_and, CV.d.injEq, CV.loc.injEq, Cell.lst.injEq, Cell.dat.injEq, Cell.dic.injEq, PyData.int.injEq, PyData.bool.injEq, PyData.list.injEq, PyData.tuple.injEq, PyData.str.injEq, reduceCtorEq, false_and, and_false, exists_false, false_or, or_false, if_true, if_false, reduceIte, Bool.false_eq_true, Nat.reduceAdd, Nat.reduceSub, Nat.succ_sub_succ, Nat.zero_add, VL.gP, List.filterMap_cons, List.filterMap_nil, List.cons.injEq, VL.wDisp0, VL.wDisp, VL.wPairs, VL.oLcm, VL.wPop, VL.wRevM, VL.wClearM, VL.wTupRg, VL.wListRg, VL.wR1, VL.wR2, VL.wRevN, VL.oRepT, VL.oRepL, wipeE, oAllL]
    refine ⟨⟨by omega, by omega⟩, fun i acc ρ => acc = (List.replicate i true).map .bool ∧ ρ = [.dat (.list ds), .dat (.list ds), .un], ⟨rfl, rfl⟩, ?_, ?_⟩
    · rintro i acc ρ d ⟨rfl, rfl⟩ hx
      obtain ⟨rfl, hi⟩ := rng_at hx
      simp only [VL.wSeq, VL.wNext, VL.wNever, VL.wAsg, VL.wSet, VL.wVar, VL.wFrz, VL.wC, VL.wOp, VL.wTest, VL.wNotT, VL.wAndT, VL.wOrT, VL.wAnd, VL.wOr, VL.wNot, VL.wIf, VL.wNil, VL.wCons, VL.wTup, VL.wLst, VL.wStay, VL.wNew, VL.wPar, VL.wAug, VL.wDrop, VL.wRet, VL.wRetN, VL.wRet0, VL.wIfS, VL.wBrk, VL.wCnt, VL.wGt, VL.wGs, VL.wCB, VL.wCBN, VL.wCall, VL.wCallN, VL.wCallIo, VL.wCallIoN, VL.wCallK, VL.wIsi, VL.wIsi2, VL.wApp, VL.wExt, VL.wIns, VL.wSetIt, VL.wNoPart, VL.wPart, VL.wSl, VL.wSlN, VL.wChain, VL.wNeg, VL.wDnew, VL.wDput, VL.wDget, VL.wDin, VL.wDnin, VL.wIndex, VL.wRev, VL.wParNE, VL.wParEN, VL.wPar3, VL.wYes, VL.wSeqOf, VL.wRng1, VL.wRng2, VL.oI, VL.oI0, VL.oLt, VL.oLe, VL.oGt, VL.oGe, VL.oSub, VL.oMul, VL.oFdiv, VL.oMod, VL.oPow, VL.oShl', VL.oAbs, VL.oMax2, VL.oMin2, VL.oGcd, VL.atI_0, VL.atI_1, VL.atI_2, VL.ixN_20, VL.ixN_21, and_assoc, VL.shp_int, VL.shp_bool, VL.shp_none, VL.eqv_int, VL.eqv_bool, VL.isiD, VL.tyD, String.reduceBEq, Bool.not_true, Bool.not_false, Bool.and_true, Bool.and_false, Bool.true_and, Bool.false_and, Bool.or_true, Bool.or_false, Bool.true_or, Bool.false_or, decide_true, decide_false, Bool.not_eq_true', Bool.not_eq_eq_eq_not, decide_eq_true_eq, decide_eq_false_iff_not, VL.oInt1, VL.oInt2, VL.oLen, VL.oToInt, VL.oAdd, VL.oEq, VL.oNe, VL.oIsN, VL.oIn, VL.itemD, VL.isN, VL.der, VL.ders, VL.dats, VL.ioA, VL.endsV, VL.retE, VL.keepC, Option.map, List.range_succ, List.range_zero, List.map_cons, List.map_nil, List.map_append, List.nil_append, List.cons_append, List.append_nil, List.replicate_zero, List.replicate_succ, List.length_cons, List.length_nil, Nat.sub_self, List.getElem?_cons_zero, List.getElem?_cons_succ, List.set_cons_zero, List.set_cons_succ, Option.some.injEq, exists_eq_left', exists_eq_left, exists_eq_right, exists_and_left, exists_and_right, and_true, true_and, CV.d.injEq, CV.loc.injEq, Cell.lst.injEq, Cell.dat.injEq, Cell.dic.injEq, PyData.int.injEq, PyData.bool.injEq, PyData.list.injEq, PyData.tuple.injEq, PyData.str.injEq, reduceCtorEq, false_and, and_false, exists_false, false_or, or_false, if_true, if_false, reduceIte, Bool.false_eq_true, Nat.reduceAdd, Nat.reduceSub, Nat.succ_sub_succ, Nat.zero_add, VL.gP, List.filterMap_cons, List.filterMap_nil, List.cons.injEq, VL.wDisp0, VL.wDisp, VL.wPairs, VL.oLcm, VL.wPop, VL.wRevM, VL.wClearM, VL.wTupRg, VL.wListRg, VL.wR1, VL.wR2, VL.wRevN, VL.oRepT, VL.oRepL, S__law_same, atI_at hi]
      exact ⟨hd _ (List.getElem_mem hi), by rw [List.length_map, List.length_replicate]; exact small_size (by omega), rep_snoc i⟩
    · rintro acc ρ ⟨rfl, rfl⟩
      refine ⟨_, boolsOf_bls _, ?_⟩
      rw [rep_all]
      exact h
  | tup _ ds hl hd =>
    simp only [VL.wSeq, VL.wNext, VL.wNever, VL.wAsg, VL.wSet, VL.wVar, VL.wFrz, VL.wC, VL.wOp, VL.wTest, VL.wNotT, VL.wAndT, VL.wOrT, VL.wAnd, VL.wOr, VL.wNot, VL.wIf, VL.wNil, VL.wCons, VL.wTup, VL.wLst, VL.wStay, VL.wNew, VL.wPar, VL.wAug, VL.wDrop, VL.wRet, VL.wRetN, VL.wRet0, VL.wIfS, VL.wBrk, VL.wCnt, VL.wGt, VL.wGs, VL.wCB, VL.wCBN, VL.wCall, VL.wCallN, VL.wCallIo, VL.wCallIoN, VL.wCallK, VL.wIsi, VL.wIsi2, VL.wApp, VL.wExt, VL.wIns, VL.wSetIt, VL.wNoPart, VL.wPart, VL.wSl, VL.wSlN, VL.wChain, VL.wNeg, VL.wDnew, VL.wDput, VL.wDget, VL.wDin, VL.wDnin, VL.wIndex, VL.wRev, VL.wParNE, VL.wParEN, VL.wPar3, VL.wYes, VL.wSeqOf, VL.wRng1, VL.wRng2, VL.oI, VL.oI0, VL.oLt, VL.oLe, VL.oGt, VL.oGe, VL.oSub, VL.oMul, VL.oFdiv, VL.oMod, VL.oPow, VL.oShl', VL.oAbs, VL.oMax2, VL.oMin2, VL.oGcd, VL.atI_0, VL.atI_1, VL.atI_2, VL.ixN_20, VL.ixN_21, and_assoc, VL.shp_int, VL.shp_bool, VL.shp_none, VL.eqv_int, VL.eqv_bool, VL.isiD, VL.tyD, String.reduceBEq, Bool.not_true, Bool.not_false, Bool.and_true, Bool.and_false, Bool.true_and, Bool.false_and, Bool.or_true, Bool.or_false, Bool.true_or, Bool.false_or, decide_true, decide_false, Bool.not_eq_true', Bool.not_eq_eq_eq_not, decide_eq_true_eq, decide_eq_false_iff_not, VL.oInt1, VL.oInt2, VL.oLen, VL.oToInt, VL.oAdd, VL.oEq, VL.oNe, VL.oIsN, VL.oIn, VL.itemD, VL.isN, VL.der, VL.ders, VL.dats, VL.ioA, VL.endsV, VL.retE, VL.keepC, Option.map, List.range_succ, List.range_zero, List.map_cons, List.map_nil, List.map_append, List.nil_append, List.cons_append, List.append_nil, List.replicate_zero, List.replicate_succ, List.length_cons, List.length_nil, Nat.sub_self, List.getElem?_cons_zero, List.getElem?_cons_succ, List.set_cons_zero, List.set_cons_succ, Option.some.injEq, exists_eq_left', exists_eq_left, exists_eq_right, exists_and_left, exists_and_right, and_true, true_and, CV.d.injEq, CV.loc.injEq, Cell.lst.injEq, Cell.dat.injEq, Cell.dic.injEq, PyData.int.injEq, PyData.bool.injEq, PyData.list.injEq, PyData.tuple.injEq, PyData.str.injEq, reduceCtorEq, false_and, and_false, exists_false, false_or, or_false, if_true, if_false, reduceIte, Bool.false_eq_true, Nat.reduceAdd, Nat.reduceSub, Nat.succ_sub_succ, Nat.zero_add, VL.gP, List.filterMap_cons, List.filterMap_nil, List.cons.injEq, VL.wDisp0, VL.wDisp, VL.wPairs, VL.oLcm, VL.wPop, VL.wRevM, VL.wClearM, VL.wTupRg, VL.wListRg, VL.wR1, VL.wR2, VL.wRevN, VL.oRepT, VL.oRepL, tyD]
    unfold wLc
    simp only [VL.wSeq, VL.wNext, VL.wNever, VL.wAsg, VL.wSet, VL.wVar, VL.wFrz, VL.wC, VL.wOp, VL.wTest, VL.wNotT, VL.wAndT, VL.wOrT, VL.wAnd, VL.wOr, VL.wNot, VL.wIf, VL.wNil, VL.wCons, VL.wTup, VL.wLst, VL.wStay, VL.wNew, VL.wPar, VL.wAug, VL.wDrop, VL.wRet, VL.wRetN, VL.wRet0, VL.wIfS, VL.wBrk, VL.wCnt, VL.wGt, VL.wGs, VL.wCB, VL.wCBN, VL.wCall, VL.wCallN, VL.wCallIo, VL.wCallIoN, VL.wCallK, VL.wIsi, VL.wIsi2, VL.wApp, VL.wExt, VL.wIns, VL.wSetIt, VL.wNoPart, VL.wPart, VL.wSl, VL.wSlN, VL.wChain, VL.wNeg, VL.wDnew, VL.wDput, VL.wDget, VL.wDin, VL.wDnin, VL.wIndex, VL.wRev, VL.wParNE, VL.wParEN, VL.wPar3, VL.wYes, VL.wSeqOf, VL.wRng1, VL.wRng2, VL.oI, VL.oI0, VL.oLt, VL.oLe, VL.oGt, VL.oGe, VL.oSub, VL.oMul, VL.oFdiv, VL.oMod, VL.oPow, VL.oShl', VL.oAbs, VL.oMax2, VL.oMin2, VL.oGcd, VL.atI_0, VL.atI_1, VL.atI_2, VL.ixN_20, VL.ixN_21, and_assoc, VL.shp_int, VL.shp_bool, VL.shp_none, VL.eqv_int, VL.eqv_bool, VL.isiD, VL.tyD, String.reduceBEq, Bool.not_true, Bool.not_false, Bool.and_true, Bool.and_false, Bool.true_and, Bool.false_and, Bool.or_true, Bool.or_false, Bool.true_or, Bool.false_or, decide_true, decide_false, Bool.not_eq_true', Bool.not_eq_eq_eq_not, decide_eq_true_eq, decide_eq_false_iff_not, VL.oInt1, VL.oInt2, VL.oLen, VL.oToInt, VL.oAdd, VL.oEq, VL.oNe, VL.oIsN, VL.oIn, VL.itemD, VL.isN, VL.der, VL.ders, VL.dats, VL.ioA, VL.endsV, VL.retE, VL.keepC, Option.map, List.range_succ, List.range_zero, List.map_cons, List.map_nil, List.map_append, List.nil_append, List.cons_append, List.append_nil, List.replicate_zero, List.replicate_succ, List.length_cons, List.length_nil, Nat.sub_self, List.getElem?_cons_zero, List.getElem?_cons_succ, List.set_cons_zero, List.set_cons_succ, Option.some.injEq, exists_eq_left', exists_eq_left, exists_eq_right, exists_and_left, exists_and_right, and_true, true_and, CV.d.injEq, CV.loc.injEq, Cell.lst.injEq, Cell.dat.injEq, Cell.dic.injEq, PyData.int.injEq, PyData.bool.injEq, PyData.list.injEq, PyData.tuple.injEq, PyData.str.injEq, reduceCtorEq, false_and, and_false, exists_false, false_or, or_false, if_true, if_false, reduceIte, Bool.false_eq_true, Nat.reduceAdd, Nat.reduceSub, Nat.succ_sub_succ, Nat.zero_add, VL.gP, List.filterMap_cons, List.filterMap_nil, List.cons.injEq, VL.wDisp0, VL.wDisp, VL.wPairs, VL.oLcm, VL.wPop, VL.wRevM, VL.wClearM, VL.wTupRg, VL.wListRg, VL.wR1, VL.wR2, VL.wRevN, VL.oRepT, VL.oRepL, wipeE, oAllL]
    refine ⟨⟨by omega, by omega⟩, fun i acc ρ => acc = (List.replicate i true).map .bool ∧ ρ = [.dat (.tuple ds), .dat (.tuple ds), .un], ⟨rfl, rfl⟩, ?_, ?_⟩
    · rintro i acc ρ d ⟨rfl, rfl⟩ hx
      obtain ⟨rfl, hi⟩ := rng_at hx
      simp only [VL.wSeq, VL.wNext, VL.wNever, VL.wAsg, VL.wSet, VL.wVar, VL.wFrz, VL.wC, VL.wOp, VL.wTest, VL.wNotT, VL.wAndT, VL.wOrT, VL.wAnd, VL.wOr, VL.wNot, VL.wIf, VL.wNil, VL.wCons, VL.wTup, VL.wLst, VL.wStay, VL.wNew, VL.wPar, VL.wAug, VL.wDrop, VL.wRet, VL.wRetN, VL.wRet0, VL.wIfS, VL.wBrk, VL.wCnt, VL.wGt, VL.wGs, VL.wCB, VL.wCBN, VL.wCall, VL.wCallN, VL.wCallIo, VL.wCallIoN, VL.wCallK, VL.wIsi, VL.wIsi2, VL.wApp, VL.wExt, VL.wIns, VL.wSetIt, VL.wNoPart, VL.wPart, VL.wSl, VL.wSlN, VL.wChain, VL.wNeg, VL.wDnew, VL.wDput, VL.wDget, VL.wDin, VL.wDnin, VL.wIndex, VL.wRev, VL.wParNE, VL.wParEN, VL.wPar3, VL.wYes, VL.wSeqOf, VL.wRng1, VL.wRng2, VL.oI, VL.oI0, VL.oLt, VL.oLe, VL.oGt, VL.oGe, VL.oSub, VL.oMul, VL.oFdiv, VL.oMod, VL.oPow, VL.oShl', VL.oAbs, VL.oMax2, VL.oMin2, VL.oGcd, VL.atI_0, VL.atI_1, VL.atI_2, VL.ixN_20, VL.ixN_21, and_assoc, VL.shp_int, VL.shp_bool, VL.shp_none, VL.eqv_int, VL.eqv_bool, VL.isiD, VL.tyD, String.reduceBEq, Bool.not_true, Bool.not_false, Bool.and_true, Bool.and_false, Bool.true_and, Bool.false_and, Bool.or_true, Bool.or_false, Bool.true_or, Bool.false_or, decide_true, decide_false, Bool.not_eq_true', Bool.not_eq_eq_eq_not, decide_eq_true_eq, decide_eq_false_iff_not, VL.oInt1, VL.oInt2, VL.oLen, VL.oToInt, VL.oAdd, VL.oEq, VL.oNe, VL.oIsN, VL.oIn, VL.itemD, VL.isN, VL.der, VL.ders, VL.dats, VL.ioA, VL.endsV, VL.retE, VL.keepC, Option.map, List.range_succ, List.range_zero, List.map_cons, List.map_nil, List.map_append, List.nil_append, List.cons_append, List.append_nil, List.replicate_zero, List.replicate_succ, List.length_cons, List.length_nil, Nat.sub_self, List.getElem?_cons_zero, List.getElem?_cons_succ, List.set_cons_zero, List.set_cons_succ, Option.some.injEq, exists_eq_left', exists_eq_left, exists_eq_right, exists_and_left, exists_and_right, and_true, true_and, CV.d.injEq, CV.loc.injEq, Cell.lst.injEq, Cell.dat.injEq, Cell.dic.injEq, PyData.int.injEq, PyData.bool.injEq, PyData.list.injEq, PyData.tuple.injEq, PyData.str.injEq, reduceCtorEq, false_and, and_false, exists_false, false_or, or_false, if_true, if_false, reduceIte, Bool.false_eq_true, Nat.reduceAdd, Nat.reduceSub, Nat.succ_sub_succ, Nat.zero_add, VL.gP, List.filterMap_cons, List.filterMap_nil, List.cons.injEq, VL.wDisp0, VL.wDisp, VL.wPairs, VL.oLcm, VL.wPop, VL.wRevM, VL.wClearM, VL.wTupRg, VL.wListRg, VL.wR1, VL.wR2, VL.wRevN, VL.oRepT, VL.oRepL, S__law_same, atI_at hi]
      exact ⟨hd _ (List.getElem_mem hi), by rw [List.length_map, List.length_replicate]; exact small_size (by omega), rep_snoc i⟩
    · rintro acc ρ ⟨rfl, rfl⟩
      refine ⟨_, boolsOf_bls _, ?_⟩
      rw [rep_all]
      exact h
theorem h_is_thing (ρ : En) (Q : RV → En → Prop) (h : S_is_thing ρ Q) : t_is_thing (endsV 2 Q) (ρ ++ List.replicate (2 - 2) .un) := by
  obtain ⟨k, n, rfl, l, h⟩ := h
  unfold t_is_thing
  simp only [VL.wSeq, VL.wNext, VL.wNever, VL.wAsg, VL.wSet, VL.wVar, VL.wFrz, VL.wC, VL.wOp, VL.wTest, VL.wNotT, VL.wAndT, VL.wOrT, VL.wAnd, VL.wOr, VL.wNot, VL.wIf, VL.wNil, VL.wCons, VL.wTup, VL.wLst, VL.wStay, VL.wNew, VL.wPar, VL.wAug, VL.wDrop, VL.wRet, VL.wRetN, VL.wRet0, VL.wIfS, VL.wBrk, VL.wCnt, VL.wGt, VL.wGs, VL.wCB, VL.wCBN, VL.wCall, VL.wCallN, VL.wCallIo, VL.wCallIoN, VL.wCallK, VL.wIsi, VL.wIsi2, VL.wApp, VL.wExt, VL.wIns, VL.wSetIt, VL.wNoPart, VL.wPart, VL.wSl, VL.wSlN, VL.wChain, VL.wNeg, VL.wDnew, VL.wDput, VL.wDget, VL.wDin, VL.wDnin, VL.wIndex, VL.wRev, VL.wParNE, VL.wParEN, VL.wPar3, VL.wYes, VL.wSeqOf, VL.wRng1, VL.wRng2, VL.oI, VL.oI0, VL.oLt, VL.oLe, VL.oGt, VL.oGe, VL.oSub, VL.oMul, VL.oFdiv, VL.oMod, VL.oPow, VL.oShl', VL.oAbs, VL.oMax2, VL.oMin2, VL.oGcd, VL.atI_0, VL.atI_1, VL.atI_2, VL.ixN_20, VL.ixN_21, and_assoc, VL.shp_int, VL.shp_bool, VL.shp_none, VL.eqv_int, VL.eqv_bool, VL.isiD, VL.tyD, String.reduceBEq, Bool.not_true, Bool.not_false, Bool.and_true, Bool.and_false, Bool.true_and, Bool.false_and, Bool.or_true, Bool.or_false, Bool.true_or, Bool.false_or, decide_true, decide_false, Bool.not_eq_true', Bool.not_eq_eq_eq_not, decide_eq_true_eq, decide_eq_false_iff_not, VL.oInt1, VL.oInt2, VL.oLen, VL.oToInt, VL.oAdd, VL.oEq, VL.oNe, VL.oIsN, VL.oIn, VL.itemD, VL.isN, VL.der, VL.ders, VL.dats, VL.ioA, VL.endsV, VL.retE, VL.keepC, Option.map, List.range_succ, List.range_zero, List.map_cons, List.map_nil, List.map_append, List.nil_append, List.cons_append, List.append_nil, List.replicate_zero, List.replicate_succ, List.length_cons, List.length_nil, Nat.sub_self, List.getElem?_cons_zero, List.getElem?_cons_succ, List.set_cons_zero, List.set_cons_succ, Option.some.injEq, exists_eq_left', exists_eq_left, exists_eq_right, exists_and_left, exists_and_right, and_true, true_and, CV.d.injEq, CV.loc.injEq, Cell.lst.injEq, Cell.dat.injEq, Cell.dic.injEq, PyData.int.injEq, PyData.bool.injEq, PyData.list.injEq, PyData.tuple.injEq, PyData.str.injEq, reduceCtorEq, false_and, and_false, exists_false, false_or, or_false, if_true, if_false, reduceIte, Bool.false_eq_true, Nat.reduceAdd, Nat.reduceSub, Nat.succ_sub_succ, Nat.zero_add, VL.gP, List.filterMap_cons, List.filterMap_nil, List.cons.injEq, VL.wDisp0, VL.wDisp, VL.wPairs, VL.oLcm, VL.wPop, VL.wRevM, VL.wClearM, VL.wTupRg, VL.wListRg, VL.wR1, VL.wR2, VL.wRevN, VL.oRepT, VL.oRepL, S_is_integer_from, fromD]
  rw [if_pos (by omega), decide_eq_true (show ((k : Nat) : Int) < (n : Nat) by omega)]
  exact h
theorem h_is_place (ρ : En) (Q : RV → En → Prop) (h : S_is_place ρ Q) : t_is_place (endsV 3 Q) (ρ ++ List.replicate (3 - 3) .un) := by
  obtain ⟨p, n, m, rfl, ok, h⟩ := h
  unfold t_is_place Pl.d
  obtain ⟨o1, o2⟩ := ok
  simp only [VL.wSeq, VL.wNext, VL.wNever, VL.wAsg, VL.wSet, VL.wVar, VL.wFrz, VL.wC, VL.wOp, VL.wTest, VL.wNotT, VL.wAndT, VL.wOrT, VL.wAnd, VL.wOr, VL.wNot, VL.wIf, VL.wNil, VL.wCons, VL.wTup, VL.wLst, VL.wStay, VL.wNew, VL.wPar, VL.wAug, VL.wDrop, VL.wRet, VL.wRetN, VL.wRet0, VL.wIfS, VL.wBrk, VL.wCnt, VL.wGt, VL.wGs, VL.wCB, VL.wCBN, VL.wCall, VL.wCallN, VL.wCallIo, VL.wCallIoN, VL.wCallK, VL.wIsi, VL.wIsi2, VL.wApp, VL.wExt, VL.wIns, VL.wSetIt, VL.wNoPart, VL.wPart, VL.wSl, VL.wSlN, VL.wChain, VL.wNeg, VL.wDnew, VL.wDput, VL.wDget, VL.wDin, VL.wDnin, VL.wIndex, VL.wRev, VL.wParNE, VL.wParEN, VL.wPar3, VL.wYes, VL.wSeqOf, VL.wRng1, VL.wRng2, VL.oI, VL.oI0, VL.oLt, VL.oLe, VL.oGt, VL.oGe, VL.oSub, VL.oMul, VL.oFdiv, VL.oMod, VL.oPow, VL.oShl', VL.oAbs, VL.oMax2, VL.oMin2, VL.oGcd, VL.atI_0, VL.atI_1, VL.atI_2, VL.ixN_20, VL.ixN_21, and_assoc, VL.shp_int, VL.shp_bool, VL.shp_none, VL.eqv_int, VL.eqv_bool, VL.isiD, VL.tyD, String.reduceBEq, Bool.not_true, Bool.not_false, Bool.and_true, Bool.and_false, Bool.true_and, Bool.false_and, Bool.or_true, Bool.or_false, Bool.true_or, Bool.false_or, decide_true, decide_false, Bool.not_eq_true', Bool.not_eq_eq_eq_not, decide_eq_true_eq, decide_eq_false_iff_not, VL.oInt1, VL.oInt2, VL.oLen, VL.oToInt, VL.oAdd, VL.oEq, VL.oNe, VL.oIsN, VL.oIn, VL.itemD, VL.isN, VL.der, VL.ders, VL.dats, VL.ioA, VL.endsV, VL.retE, VL.keepC, Option.map, List.range_succ, List.range_zero, List.map_cons, List.map_nil, List.map_append, List.nil_append, List.cons_append, List.append_nil, List.replicate_zero, List.replicate_succ, List.length_cons, List.length_nil, Nat.sub_self, List.getElem?_cons_zero, List.getElem?_cons_succ, List.set_cons_zero, List.set_cons_succ, Option.some.injEq, exists_eq_left', exists_eq_left, exists_eq_right, exists_and_left, exists_and_right, and_true, true_and, CV.d.injEq, CV.loc.injEq, Cell.lst.injEq, Cell.dat.injEq, Cell.dic.injEq, PyData.int.injEq, PyData.bool.injEq, PyData.list.injEq, PyData.tuple.injEq, PyData.str.injEq, reduceCtorEq, false_and, and_false, exists_false, false_or, or_false, if_true, if_false, reduceIte, Bool.false_eq_true, Nat.reduceAdd, Nat.reduceSub, Nat.succ_sub_succ, Nat.zero_add, VL.gP, List.filterMap_cons, List.filterMap_nil, List.cons.injEq, VL.wDisp0, VL.wDisp, VL.wPairs, VL.oLcm, VL.wPop, VL.wRevM, VL.wClearM, VL.wTupRg, VL.wListRg, VL.wR1, VL.wR2, VL.wRevN, VL.oRepT, VL.oRepL, S_is_thing, w_to, w_is]
  cases e : p.to
  · exact ⟨shp_w _, shp_to, shp_w _, shp_is, p.i, rfl, n, rfl, o2 e, h⟩
  · exact ⟨shp_w _, shp_to, p.i, rfl, m, rfl, o1 e, h⟩
theorem h_is_pair (ρ : En) (Q : RV → En → Prop) (h : S_is_pair ρ Q) : t_is_pair (endsV 3 Q) (ρ ++ List.replicate (3 - 3) .un) := by
  obtain ⟨⟨p, q⟩, n, m, rfl, o1, o2, h⟩ := h
  unfold t_is_pair rwD
  simp only [VL.wSeq, VL.wNext, VL.wNever, VL.wAsg, VL.wSet, VL.wVar, VL.wFrz, VL.wC, VL.wOp, VL.wTest, VL.wNotT, VL.wAndT, VL.wOrT, VL.wAnd, VL.wOr, VL.wNot, VL.wIf, VL.wNil, VL.wCons, VL.wTup, VL.wLst, VL.wStay, VL.wNew, VL.wPar, VL.wAug, VL.wDrop, VL.wRet, VL.wRetN, VL.wRet0, VL.wIfS, VL.wBrk, VL.wCnt, VL.wGt, VL.wGs, VL.wCB, VL.wCBN, VL.wCall, VL.wCallN, VL.wCallIo, VL.wCallIoN, VL.wCallK, VL.wIsi, VL.wIsi2, VL.wApp, VL.wExt, VL.wIns, VL.wSetIt, VL.wNoPart, VL.wPart, VL.wSl, VL.wSlN, VL.wChain, VL.wNeg, VL.wDnew, VL.wDput, VL.wDget, VL.wDin, VL.wDnin, VL.wIndex, VL.wRev, VL.wParNE, VL.wParEN, VL.wPar3, VL.wYes, VL.wSeqOf, VL.wRng1, VL.wRng2, VL.oI, VL.oI0, VL.oLt, VL.oLe, VL.oGt, VL.oGe, VL.oSub, VL.oMul, VL.oFdiv, VL.oMod, VL.oPow, VL.oShl', VL.oAbs, VL.oMax2, VL.oMin2, VL.oGcd, VL.atI_0, VL.atI_1, VL.atI_2, VL.ixN_20, VL.ixN_21, and_assoc, VL.shp_int, VL.shp_bool, VL.shp_none, VL.eqv_int, VL.eqv_bool, VL.isiD, VL.tyD, String.reduceBEq, Bool.not_true, Bool.not_false, Bool.and_true, Bool.and_false, Bool.true_and, Bool.false_and, Bool.or_true, Bool.or_false, Bool.true_or, Bool.false_or, decide_true, decide_false, Bool.not_eq_true', Bool.not_eq_eq_eq_not, decide_eq_true_eq, decide_eq_false_iff_not, VL.oInt1, VL.oInt2, VL.oLen, VL.oToInt, VL.oAdd, VL.oEq, VL.oNe, VL.oIsN, VL.oIn, VL.itemD, VL.isN, VL.der, VL.ders, VL.dats, VL.ioA, VL.endsV, VL.retE, VL.keepC, Option.map, List.range_succ, List.range_zero, List.map_cons, List.map_nil, List.map_append, List.nil_append, List.cons_append, List.append_nil, List.replicate_zero, List.replicate_succ, List.length_cons, List.length_nil, Nat.sub_self, List.getElem?_cons_zero, List.getElem?_cons_succ, List.set_cons_zero, List.set_cons_succ, Option.some.injEq, exists_eq_left', exists_eq_left, exists_eq_right, exists_and_left, exists_and_right, and_true, true_and, CV.d.injEq, CV.loc.injEq, Cell.lst.injEq, Cell.dat.injEq, Cell.dic.injEq, PyData.int.injEq, PyData.bool.injEq, PyData.list.injEq, PyData.tuple.injEq, PyData.str.injEq, reduceCtorEq, false_and, and_false, exists_false, false_or, or_false, if_true, if_false, reduceIte, Bool.false_eq_true, Nat.reduceAdd, Nat.reduceSub, Nat.succ_sub_succ, Nat.zero_add, VL.gP, List.filterMap_cons, List.filterMap_nil, List.cons.injEq, VL.wDisp0, VL.wDisp, VL.wPairs, VL.oLcm, VL.wPop, VL.wRevM, VL.wClearM, VL.wTupRg, VL.wListRg, VL.wR1, VL.wR2, VL.wRevN, VL.oRepT, VL.oRepL, S_is_place]
  exact ⟨p, rfl, n, rfl, m, rfl, o1, q, rfl, n, rfl, m, rfl, o2, h⟩
theorem h_is_signs (ρ : En) (Q : RV → En → Prop) (h : S_is_signs ρ Q) : t_is_signs (endsV 1 Q) (ρ ++ List.replicate (2 - 1) .un) := by
  obtain ⟨ts, rfl, T, h⟩ := h
  unfold t_is_signs
  simp only [VL.wSeq, VL.wNext, VL.wNever, VL.wAsg, VL.wSet, VL.wVar, VL.wFrz, VL.wC, VL.wOp, VL.wTest, VL.wNotT, VL.wAndT, VL.wOrT, VL.wAnd, VL.wOr, VL.wNot, VL.wIf, VL.wNil, VL.wCons, VL.wTup, VL.wLst, VL.wStay, VL.wNew, VL.wPar, VL.wAug, VL.wDrop, VL.wRet, VL.wRetN, VL.wRet0, VL.wIfS, VL.wBrk, VL.wCnt, VL.wGt, VL.wGs, VL.wCB, VL.wCBN, VL.wCall, VL.wCallN, VL.wCallIo, VL.wCallIoN, VL.wCallK, VL.wIsi, VL.wIsi2, VL.wApp, VL.wExt, VL.wIns, VL.wSetIt, VL.wNoPart, VL.wPart, VL.wSl, VL.wSlN, VL.wChain, VL.wNeg, VL.wDnew, VL.wDput, VL.wDget, VL.wDin, VL.wDnin, VL.wIndex, VL.wRev, VL.wParNE, VL.wParEN, VL.wPar3, VL.wYes, VL.wSeqOf, VL.wRng1, VL.wRng2, VL.oI, VL.oI0, VL.oLt, VL.oLe, VL.oGt, VL.oGe, VL.oSub, VL.oMul, VL.oFdiv, VL.oMod, VL.oPow, VL.oShl', VL.oAbs, VL.oMax2, VL.oMin2, VL.oGcd, VL.atI_0, VL.atI_1, VL.atI_2, VL.ixN_20, VL.ixN_21, and_assoc, VL.shp_int, VL.shp_bool, VL.shp_none, VL.eqv_int, VL.eqv_bool, VL.isiD, VL.tyD, String.reduceBEq, Bool.not_true, Bool.not_false, Bool.and_true, Bool.and_false, Bool.true_and, Bool.false_and, Bool.or_true, Bool.or_false, Bool.true_or, Bool.false_or, decide_true, decide_false, Bool.not_eq_true', Bool.not_eq_eq_eq_not, decide_eq_true_eq, decide_eq_false_iff_not, VL.oInt1, VL.oInt2, VL.oLen, VL.oToInt, VL.oAdd, VL.oEq, VL.oNe, VL.oIsN, VL.oIn, VL.itemD, VL.isN, VL.der, VL.ders, VL.dats, VL.ioA, VL.endsV, VL.retE, VL.keepC, Option.map, List.range_succ, List.range_zero, List.map_cons, List.map_nil, List.map_append, List.nil_append, List.cons_append, List.append_nil, List.replicate_zero, List.replicate_succ, List.length_cons, List.length_nil, Nat.sub_self, List.getElem?_cons_zero, List.getElem?_cons_succ, List.set_cons_zero, List.set_cons_succ, Option.some.injEq, exists_eq_left', exists_eq_left, exists_eq_right, exists_and_left, exists_and_right, and_true, true_and, CV.d.injEq, CV.loc.injEq, Cell.lst.injEq, Cell.dat.injEq, Cell.dic.injEq, PyData.int.injEq, PyData.bool.injEq, PyData.list.injEq, PyData.tuple.injEq, PyData.str.injEq, reduceCtorEq, false_and, and_false, exists_false, false_or, or_false, if_true, if_false, reduceIte, Bool.false_eq_true, Nat.reduceAdd, Nat.reduceSub, Nat.succ_sub_succ, Nat.zero_add, VL.gP, List.filterMap_cons, List.filterMap_nil, List.cons.injEq, VL.wDisp0, VL.wDisp, VL.wPairs, VL.oLcm, VL.wPop, VL.wRevM, VL.wClearM, VL.wTupRg, VL.wListRg, VL.wR1, VL.wR2, VL.wRevN, VL.oRepT, VL.oRepL, wGAll, wGx, wipeE, okBd]
  refine ⟨fun i acc ρ => acc.any isFd = false ∧ ρ = [.dat (.tuple (nsD ts)), .un], ⟨rfl, rfl⟩, ?_, ?_⟩
  · rintro i acc ρ d ⟨ha, rfl⟩ hd
    obtain ⟨x, rfl, hx, m⟩ := ns_at hd
    have bx := T.lt x m
    simp only [VL.wSeq, VL.wNext, VL.wNever, VL.wAsg, VL.wSet, VL.wVar, VL.wFrz, VL.wC, VL.wOp, VL.wTest, VL.wNotT, VL.wAndT, VL.wOrT, VL.wAnd, VL.wOr, VL.wNot, VL.wIf, VL.wNil, VL.wCons, VL.wTup, VL.wLst, VL.wStay, VL.wNew, VL.wPar, VL.wAug, VL.wDrop, VL.wRet, VL.wRetN, VL.wRet0, VL.wIfS, VL.wBrk, VL.wCnt, VL.wGt, VL.wGs, VL.wCB, VL.wCBN, VL.wCall, VL.wCallN, VL.wCallIo, VL.wCallIoN, VL.wCallK, VL.wIsi, VL.wIsi2, VL.wApp, VL.wExt, VL.wIns, VL.wSetIt, VL.wNoPart, VL.wPart, VL.wSl, VL.wSlN, VL.wChain, VL.wNeg, VL.wDnew, VL.wDput, VL.wDget, VL.wDin, VL.wDnin, VL.wIndex, VL.wRev, VL.wParNE, VL.wParEN, VL.wPar3, VL.wYes, VL.wSeqOf, VL.wRng1, VL.wRng2, VL.oI, VL.oI0, VL.oLt, VL.oLe, VL.oGt, VL.oGe, VL.oSub, VL.oMul, VL.oFdiv, VL.oMod, VL.oPow, VL.oShl', VL.oAbs, VL.oMax2, VL.oMin2, VL.oGcd, VL.atI_0, VL.atI_1, VL.atI_2, VL.ixN_20, VL.ixN_21, and_assoc, VL.shp_int, VL.shp_bool, VL.shp_none, VL.eqv_int, VL.eqv_bool, VL.isiD, VL.tyD, String.reduceBEq, Bool.not_true, Bool.not_false, Bool.and_true, Bool.and_false, Bool.true_and, Bool.false_and, Bool.or_true, Bool.or_false, Bool.true_or, Bool.false_or, decide_true, decide_false, Bool.not_eq_true', Bool.not_eq_eq_eq_not, decide_eq_true_eq, decide_eq_false_iff_not, VL.oInt1, VL.oInt2, VL.oLen, VL.oToInt, VL.oAdd, VL.oEq, VL.oNe, VL.oIsN, VL.oIn, VL.itemD, VL.isN, VL.der, VL.ders, VL.dats, VL.ioA, VL.endsV, VL.retE, VL.keepC, Option.map, List.range_succ, List.range_zero, List.map_cons, List.map_nil, List.map_append, List.nil_append, List.cons_append, List.append_nil, List.replicate_zero, List.replicate_succ, List.length_cons, List.length_nil, Nat.sub_self, List.getElem?_cons_zero, List.getElem?_cons_succ, List.set_cons_zero, List.set_cons_succ, Option.some.injEq, exists_eq_left', exists_eq_left, exists_eq_right, exists_and_left, exists_and_right, and_true, true_and, CV.d.injEq, CV.loc.injEq, Cell.lst.injEq, Cell.dat.injEq, Cell.dic.injEq, PyData.int.injEq, PyData.bool.injEq, PyData.list.injEq, PyData.tuple.injEq, PyData.str.injEq, reduceCtorEq, false_and, and_false, exists_false, false_or, or_false, if_true, if_false, reduceIte, Bool.false_eq_true, Nat.reduceAdd, Nat.reduceSub, Nat.succ_sub_succ, Nat.zero_add, VL.gP, List.filterMap_cons, List.filterMap_nil, List.cons.injEq, VL.wDisp0, VL.wDisp, VL.wPairs, VL.oLcm, VL.wPop, VL.wRevM, VL.wClearM, VL.wTupRg, VL.wListRg, VL.wR1, VL.wR2, VL.wRevN, VL.oRepT, VL.oRepL, S_is_integer_from, fromD]
    rw [if_pos (by omega), decide_eq_true (show ((x : Nat) : Int) ≤ 1 by omega)]
    exact ⟨⟨_, rfl⟩, any_snoc ha⟩
  · rintro acc ρ ⟨ha, rfl⟩
    simp only [VL.wSeq, VL.wNext, VL.wNever, VL.wAsg, VL.wSet, VL.wVar, VL.wFrz, VL.wC, VL.wOp, VL.wTest, VL.wNotT, VL.wAndT, VL.wOrT, VL.wAnd, VL.wOr, VL.wNot, VL.wIf, VL.wNil, VL.wCons, VL.wTup, VL.wLst, VL.wStay, VL.wNew, VL.wPar, VL.wAug, VL.wDrop, VL.wRet, VL.wRetN, VL.wRet0, VL.wIfS, VL.wBrk, VL.wCnt, VL.wGt, VL.wGs, VL.wCB, VL.wCBN, VL.wCall, VL.wCallN, VL.wCallIo, VL.wCallIoN, VL.wCallK, VL.wIsi, VL.wIsi2, VL.wApp, VL.wExt, VL.wIns, VL.wSetIt, VL.wNoPart, VL.wPart, VL.wSl, VL.wSlN, VL.wChain, VL.wNeg, VL.wDnew, VL.wDput, VL.wDget, VL.wDin, VL.wDnin, VL.wIndex, VL.wRev, VL.wParNE, VL.wParEN, VL.wPar3, VL.wYes, VL.wSeqOf, VL.wRng1, VL.wRng2, VL.oI, VL.oI0, VL.oLt, VL.oLe, VL.oGt, VL.oGe, VL.oSub, VL.oMul, VL.oFdiv, VL.oMod, VL.oPow, VL.oShl', VL.oAbs, VL.oMax2, VL.oMin2, VL.oGcd, VL.atI_0, VL.atI_1, VL.atI_2, VL.ixN_20, VL.ixN_21, and_assoc, VL.shp_int, VL.shp_bool, VL.shp_none, VL.eqv_int, VL.eqv_bool, VL.isiD, VL.tyD, String.reduceBEq, Bool.not_true, Bool.not_false, Bool.and_true, Bool.and_false, Bool.true_and, Bool.false_and, Bool.or_true, Bool.or_false, Bool.true_or, Bool.false_or, decide_true, decide_false, Bool.not_eq_true', Bool.not_eq_eq_eq_not, decide_eq_true_eq, decide_eq_false_iff_not, VL.oInt1, VL.oInt2, VL.oLen, VL.oToInt, VL.oAdd, VL.oEq, VL.oNe, VL.oIsN, VL.oIn, VL.itemD, VL.isN, VL.der, VL.ders, VL.dats, VL.ioA, VL.endsV, VL.retE, VL.keepC, Option.map, List.range_succ, List.range_zero, List.map_cons, List.map_nil, List.map_append, List.nil_append, List.cons_append, List.append_nil, List.replicate_zero, List.replicate_succ, List.length_cons, List.length_nil, Nat.sub_self, List.getElem?_cons_zero, List.getElem?_cons_succ, List.set_cons_zero, List.set_cons_succ, Option.some.injEq, exists_eq_left', exists_eq_left, exists_eq_right, exists_and_left, exists_and_right, and_true, true_and, CV.d.injEq, CV.loc.injEq, Cell.lst.injEq, Cell.dat.injEq, Cell.dic.injEq, PyData.int.injEq, PyData.bool.injEq, PyData.list.injEq, PyData.tuple.injEq, PyData.str.injEq, reduceCtorEq, false_and, and_false, exists_false, false_or, or_false, if_true, if_false, reduceIte, Bool.false_eq_true, Nat.reduceAdd, Nat.reduceSub, Nat.succ_sub_succ, Nat.zero_add, VL.gP, List.filterMap_cons, List.filterMap_nil, List.cons.injEq, VL.wDisp0, VL.wDisp, VL.wPairs, VL.oLcm, VL.wPop, VL.wRevM, VL.wClearM, VL.wTupRg, VL.wListRg, VL.wR1, VL.wR2, VL.wRevN, VL.oRepT, VL.oRepL, ha]
    exact h
theorem h_is_machine (ρ : En) (Q : RV → En → Prop) (h : S_is_machine ρ Q) : t_is_machine (endsV 1 Q) (ρ ++ List.replicate (5 - 1) .un) := by
  obtain ⟨M, rfl, ok, h⟩ := h
  unfold t_is_machine mcD rsD
  have n1 := ok.n1
  refine seq_gen fun k hk => ?_
  simp only [VL.wSeq, VL.wNext, VL.wNever, VL.wAsg, VL.wSet, VL.wVar, VL.wFrz, VL.wC, VL.wOp, VL.wTest, VL.wNotT, VL.wAndT, VL.wOrT, VL.wAnd, VL.wOr, VL.wNot, VL.wIf, VL.wNil, VL.wCons, VL.wTup, VL.wLst, VL.wStay, VL.wNew, VL.wPar, VL.wAug, VL.wDrop, VL.wRet, VL.wRetN, VL.wRet0, VL.wIfS, VL.wBrk, VL.wCnt, VL.wGt, VL.wGs, VL.wCB, VL.wCBN, VL.wCall, VL.wCallN, VL.wCallIo, VL.wCallIoN, VL.wCallK, VL.wIsi, VL.wIsi2, VL.wApp, VL.wExt, VL.wIns, VL.wSetIt, VL.wNoPart, VL.wPart, VL.wSl, VL.wSlN, VL.wChain, VL.wNeg, VL.wDnew, VL.wDput, VL.wDget, VL.wDin, VL.wDnin, VL.wIndex, VL.wRev, VL.wParNE, VL.wParEN, VL.wPar3, VL.wYes, VL.wSeqOf, VL.wRng1, VL.wRng2, VL.oI, VL.oI0, VL.oLt, VL.oLe, VL.oGt, VL.oGe, VL.oSub, VL.oMul, VL.oFdiv, VL.oMod, VL.oPow, VL.oShl', VL.oAbs, VL.oMax2, VL.oMin2, VL.oGcd, VL.atI_0, VL.atI_1, VL.atI_2, VL.ixN_20, VL.ixN_21, and_assoc, VL.shp_int, VL.shp_bool, VL.shp_none, VL.eqv_int, VL.eqv_bool, VL.isiD, VL.tyD, String.reduceBEq, Bool.not_true, Bool.not_false, Bool.and_true, Bool.and_false, Bool.true_and, Bool.false_and, Bool.or_true, Bool.or_false, Bool.true_or, Bool.false_or, decide_true, decide_false, Bool.not_eq_true', Bool.not_eq_eq_eq_not, decide_eq_true_eq, decide_eq_false_iff_not, VL.oInt1, VL.oInt2, VL.oLen, VL.oToInt, VL.oAdd, VL.oEq, VL.oNe, VL.oIsN, VL.oIn, VL.itemD, VL.isN, VL.der, VL.ders, VL.dats, VL.ioA, VL.endsV, VL.retE, VL.keepC, Option.map, List.range_succ, List.range_zero, List.map_cons, List.map_nil, List.map_append, List.nil_append, List.cons_append, List.append_nil, List.replicate_zero, List.replicate_succ, List.length_cons, List.length_nil, Nat.sub_self, List.getElem?_cons_zero, List.getElem?_cons_succ, List.set_cons_zero, List.set_cons_succ, Option.some.injEq, exists_eq_left', exists_eq_left, exists_eq_right, exists_and_left, exists_and_right, and_true, true_and, CV.d.injEq, CV.loc.injEq, Cell.lst.injEq, Cell.dat.injEq, Cell.dic.injEq, PyData.int.injEq, PyData.bool.injEq, PyData.list.injEq, PyData.tuple.injEq, PyData.str.injEq, reduceCtorEq, false_and, and_false, exists_false, false_or, or_false, if_true, if_false, reduceIte, Bool.false_eq_true, Nat.reduceAdd, Nat.reduceSub, Nat.succ_sub_succ, Nat.zero_add, VL.gP, List.filterMap_cons, List.filterMap_nil, List.cons.injEq, VL.wDisp0, VL.wDisp, VL.wPairs, VL.oLcm, VL.wPop, VL.wRevM, VL.wClearM, VL.wTupRg, VL.wListRg, VL.wR1, VL.wR2, VL.wRevN, VL.oRepT, VL.oRepL]
  rw [if_neg (by decide), hk]
  clear hk k
  refine seq_gen fun k hk => ?_
  simp only [VL.wSeq, VL.wNext, VL.wNever, VL.wAsg, VL.wSet, VL.wVar, VL.wFrz, VL.wC, VL.wOp, VL.wTest, VL.wNotT, VL.wAndT, VL.wOrT, VL.wAnd, VL.wOr, VL.wNot, VL.wIf, VL.wNil, VL.wCons, VL.wTup, VL.wLst, VL.wStay, VL.wNew, VL.wPar, VL.wAug, VL.wDrop, VL.wRet, VL.wRetN, VL.wRet0, VL.wIfS, VL.wBrk, VL.wCnt, VL.wGt, VL.wGs, VL.wCB, VL.wCBN, VL.wCall, VL.wCallN, VL.wCallIo, VL.wCallIoN, VL.wCallK, VL.wIsi, VL.wIsi2, VL.wApp, VL.wExt, VL.wIns, VL.wSetIt, VL.wNoPart, VL.wPart, VL.wSl, VL.wSlN, VL.wChain, VL.wNeg, VL.wDnew, VL.wDput, VL.wDget, VL.wDin, VL.wDnin, VL.wIndex, VL.wRev, VL.wParNE, VL.wParEN, VL.wPar3, VL.wYes, VL.wSeqOf, VL.wRng1, VL.wRng2, VL.oI, VL.oI0, VL.oLt, VL.oLe, VL.oGt, VL.oGe, VL.oSub, VL.oMul, VL.oFdiv, VL.oMod, VL.oPow, VL.oShl', VL.oAbs, VL.oMax2, VL.oMin2, VL.oGcd, VL.atI_0, VL.atI_1, VL.atI_2, VL.ixN_20, VL.ixN_21, and_assoc, VL.shp_int, VL.shp_bool, VL.shp_none, VL.eqv_int, VL.eqv_bool, VL.isiD, VL.tyD, String.reduceBEq, Bool.not_true, Bool.not_false, Bool.and_true, Bool.and_false, Bool.true_and, Bool.false_and, Bool.or_true, Bool.or_false, Bool.true_or, Bool.false_or, decide_true, decide_false, Bool.not_eq_true', Bool.not_eq_eq_eq_not, decide_eq_true_eq, decide_eq_false_iff_not, VL.oInt1, VL.oInt2, VL.oLen, VL.oToInt, VL.oAdd, VL.oEq, VL.oNe, VL.oIsN, VL.oIn, VL.itemD, VL.isN, VL.der, VL.ders, VL.dats, VL.ioA, VL.endsV, VL.retE, VL.keepC, Option.map, List.range_succ, List.range_zero, List.map_cons, List.map_nil, List.map_append, List.nil_append, List.cons_append, List.append_nil, List.replicate_zero, List.replicate_succ, List.length_cons, List.length_nil, Nat.sub_self, List.getElem?_cons_zero, List.getElem?_cons_succ, List.set_cons_zero, List.set_cons_succ, Option.some.injEq, exists_eq_left', exists_eq_left, exists_eq_right, exists_and_left, exists_and_right, and_true, true_and, CV.d.injEq, CV.loc.injEq, Cell.lst.injEq, Cell.dat.injEq, Cell.dic.injEq, PyData.int.injEq, PyData.bool.injEq, PyData.list.injEq, PyData.tuple.injEq, PyData.str.injEq, reduceCtorEq, false_and, and_false, exists_false, false_or, or_false, if_true, if_false, reduceIte, Bool.false_eq_true, Nat.reduceAdd, Nat.reduceSub, Nat.succ_sub_succ, Nat.zero_add, VL.gP, List.filterMap_cons, List.filterMap_nil, List.cons.injEq, VL.wDisp0, VL.wDisp, VL.wPairs, VL.oLcm, VL.wPop, VL.wRevM, VL.wClearM, VL.wTupRg, VL.wListRg, VL.wR1, VL.wR2, VL.wRevN, VL.oRepT, VL.oRepL]
  rw [hk]
  clear hk k
  refine seq_gen fun k hk => ?_
  simp only [VL.wSeq, VL.wNext, VL.wNever, VL.wAsg, VL.wSet, VL.wVar, VL.wFrz, VL.wC, VL.wOp, VL.wTest, VL.wNotT, VL.wAndT, VL.wOrT, VL.wAnd, VL.wOr, VL.wNot, VL.wIf, VL.wNil, VL.wCons, VL.wTup, VL.wLst, VL.wStay, VL.wNew, VL.wPar, VL.wAug, VL.wDrop, VL.wRet, VL.wRetN, VL.wRet0, VL.wIfS, VL.wBrk, VL.wCnt, VL.wGt, VL.wGs, VL.wCB, VL.wCBN, VL.wCall, VL.wCallN, VL.wCallIo, VL.wCallIoN, VL.wCallK, VL.wIsi, VL.wIsi2, VL.wApp, VL.wExt, VL.wIns, VL.wSetIt, VL.wNoPart, VL.wPart, VL.wSl, VL.wSlN, VL.wChain, VL.wNeg, VL.wDnew, VL.wDput, VL.wDget, VL.wDin, VL.wDnin, VL.wIndex, VL.wRev, VL.wParNE, VL.wParEN, VL.wPar3, VL.wYes, VL.wSeqOf, VL.wRng1, VL.wRng2, VL.oI, VL.oI0, VL.oLt, VL.oLe, VL.oGt, VL.oGe, VL.oSub, VL.oMul, VL.oFdiv, VL.oMod, VL.oPow, VL.oShl', VL.oAbs, VL.oMax2, VL.oMin2, VL.oGcd, VL.atI_0, VL.atI_1, VL.atI_2, VL.ixN_20, VL.ixN_21, and_assoc, VL.shp_int, VL.shp_bool, VL.shp_none, VL.eqv_int, VL.eqv_bool, VL.isiD, VL.tyD, String.reduceBEq, Bool.not_true, Bool.not_false, Bool.and_true, Bool.and_false, Bool.true_and, Bool.false_and, Bool.or_true, Bool.or_false, Bool.true_or, Bool.false_or, decide_true, decide_false, Bool.not_eq_true', Bool.not_eq_eq_eq_not, decide_eq_true_eq, decide_eq_false_iff_not, VL.oInt1, VL.oInt2, VL.oLen, VL.oToInt, VL.oAdd, VL.oEq, VL.oNe, VL.oIsN, VL.oIn, VL.itemD, VL.isN, VL.der, VL.ders, VL.dats, VL.ioA, VL.endsV, VL.retE, VL.keepC, Option.map, List.range_succ, List.range_zero, List.map_cons, List.map_nil, List.map_append, List.nil_append, List.cons_append, List.append_nil, List.replicate_zero, List.replicate_succ, List.length_cons, List.length_nil, Nat.sub_self, List.getElem?_cons_zero, List.getElem?_cons_succ, List.set_cons_zero, List.set_cons_succ, Option.some.injEq, exists_eq_left', exists_eq_left, exists_eq_right, exists_and_left, exists_and_right, and_true, true_and, CV.d.injEq, CV.loc.injEq, Cell.lst.injEq, Cell.dat.injEq, Cell.dic.injEq, PyData.int.injEq, PyData.bool.injEq, PyData.list.injEq, PyData.tuple.injEq, PyData.str.injEq, reduceCtorEq, false_and, and_false, exists_false, false_or, or_false, if_true, if_false, reduceIte, Bool.false_eq_true, Nat.reduceAdd, Nat.reduceSub, Nat.succ_sub_succ, Nat.zero_add, VL.gP, List.filterMap_cons, List.filterMap_nil, List.cons.injEq, VL.wDisp0, VL.wDisp, VL.wPairs, VL.oLcm, VL.wPop, VL.wRevM, VL.wClearM, VL.wTupRg, VL.wListRg, VL.wR1, VL.wR2, VL.wRevN, VL.oRepT, VL.oRepL, S_is_integer_from, fromD]
  rw [if_neg (by omega), hk]
  clear hk k
  simp only [VL.wSeq, VL.wNext, VL.wNever, VL.wAsg, VL.wSet, VL.wVar, VL.wFrz, VL.wC, VL.wOp, VL.wTest, VL.wNotT, VL.wAndT, VL.wOrT, VL.wAnd, VL.wOr, VL.wNot, VL.wIf, VL.wNil, VL.wCons, VL.wTup, VL.wLst, VL.wStay, VL.wNew, VL.wPar, VL.wAug, VL.wDrop, VL.wRet, VL.wRetN, VL.wRet0, VL.wIfS, VL.wBrk, VL.wCnt, VL.wGt, VL.wGs, VL.wCB, VL.wCBN, VL.wCall, VL.wCallN, VL.wCallIo, VL.wCallIoN, VL.wCallK, VL.wIsi, VL.wIsi2, VL.wApp, VL.wExt, VL.wIns, VL.wSetIt, VL.wNoPart, VL.wPart, VL.wSl, VL.wSlN, VL.wChain, VL.wNeg, VL.wDnew, VL.wDput, VL.wDget, VL.wDin, VL.wDnin, VL.wIndex, VL.wRev, VL.wParNE, VL.wParEN, VL.wPar3, VL.wYes, VL.wSeqOf, VL.wRng1, VL.wRng2, VL.oI, VL.oI0, VL.oLt, VL.oLe, VL.oGt, VL.oGe, VL.oSub, VL.oMul, VL.oFdiv, VL.oMod, VL.oPow, VL.oShl', VL.oAbs, VL.oMax2, VL.oMin2, VL.oGcd, VL.atI_0, VL.atI_1, VL.atI_2, VL.ixN_20, VL.ixN_21, and_assoc, VL.shp_int, VL.shp_bool, VL.shp_none, VL.eqv_int, VL.eqv_bool, VL.isiD, VL.tyD, String.reduceBEq, Bool.not_true, Bool.not_false, Bool.and_true, Bool.and_false, Bool.true_and, Bool.false_and, Bool.or_true, Bool.or_false, Bool.true_or, Bool.false_or, decide_true, decide_false, Bool.not_eq_true', Bool.not_eq_eq_eq_not, decide_eq_true_eq, decide_eq_false_iff_not, VL.oInt1, VL.oInt2, VL.oLen, VL.oToInt, VL.oAdd, VL.oEq, VL.oNe, VL.oIsN, VL.oIn, VL.itemD, VL.isN, VL.der, VL.ders, VL.dats, VL.ioA, VL.endsV, VL.retE, VL.keepC, Option.map, List.range_succ, List.range_zero, List.map_cons, List.map_nil, List.map_append, List.nil_append, List.cons_append, List.append_nil, List.replicate_zero, List.replicate_succ, List.length_cons, List.length_nil, Nat.sub_self, List.getElem?_cons_zero, List.getElem?_cons_succ, List.set_cons_zero, List.set_cons_succ, Option.some.injEq, exists_eq_left', exists_eq_left, exists_eq_right, exists_and_left, exists_and_right, and_true, true_and, CV.d.injEq, CV.loc.injEq, Cell.lst.injEq, Cell.dat.injEq, Cell.dic.injEq, PyData.int.injEq, PyData.bool.injEq, PyData.list.injEq, PyData.tuple.injEq, PyData.str.injEq, reduceCtorEq, false_and, and_false, exists_false, false_or, or_false, if_true, if_false, reduceIte, Bool.false_eq_true, Nat.reduceAdd, Nat.reduceSub, Nat.succ_sub_succ, Nat.zero_add, VL.gP, List.filterMap_cons, List.filterMap_nil, List.cons.injEq, VL.wDisp0, VL.wDisp, VL.wPairs, VL.oLcm, VL.wPop, VL.wRevM, VL.wClearM, VL.wTupRg, VL.wListRg, VL.wR1, VL.wR2, VL.wRevN, VL.oRepT, VL.oRepL, S_is_place]
  refine ⟨M.b, rfl, M.n, rfl, M.rs.length, by simp, ok.b, ?_⟩
  simp only [VL.wSeq, VL.wNext, VL.wNever, VL.wAsg, VL.wSet, VL.wVar, VL.wFrz, VL.wC, VL.wOp, VL.wTest, VL.wNotT, VL.wAndT, VL.wOrT, VL.wAnd, VL.wOr, VL.wNot, VL.wIf, VL.wNil, VL.wCons, VL.wTup, VL.wLst, VL.wStay, VL.wNew, VL.wPar, VL.wAug, VL.wDrop, VL.wRet, VL.wRetN, VL.wRet0, VL.wIfS, VL.wBrk, VL.wCnt, VL.wGt, VL.wGs, VL.wCB, VL.wCBN, VL.wCall, VL.wCallN, VL.wCallIo, VL.wCallIoN, VL.wCallK, VL.wIsi, VL.wIsi2, VL.wApp, VL.wExt, VL.wIns, VL.wSetIt, VL.wNoPart, VL.wPart, VL.wSl, VL.wSlN, VL.wChain, VL.wNeg, VL.wDnew, VL.wDput, VL.wDget, VL.wDin, VL.wDnin, VL.wIndex, VL.wRev, VL.wParNE, VL.wParEN, VL.wPar3, VL.wYes, VL.wSeqOf, VL.wRng1, VL.wRng2, VL.oI, VL.oI0, VL.oLt, VL.oLe, VL.oGt, VL.oGe, VL.oSub, VL.oMul, VL.oFdiv, VL.oMod, VL.oPow, VL.oShl', VL.oAbs, VL.oMax2, VL.oMin2, VL.oGcd, VL.atI_0, VL.atI_1, VL.atI_2, VL.ixN_20, VL.ixN_21, and_assoc, VL.shp_int, VL.shp_bool, VL.shp_none, VL.eqv_int, VL.eqv_bool, VL.isiD, VL.tyD, String.reduceBEq, Bool.not_true, Bool.not_false, Bool.and_true, Bool.and_false, Bool.true_and, Bool.false_and, Bool.or_true, Bool.or_false, Bool.true_or, Bool.false_or, decide_true, decide_false, Bool.not_eq_true', Bool.not_eq_eq_eq_not, decide_eq_true_eq, decide_eq_false_iff_not, VL.oInt1, VL.oInt2, VL.oLen, VL.oToInt, VL.oAdd, VL.oEq, VL.oNe, VL.oIsN, VL.oIn, VL.itemD, VL.isN, VL.der, VL.ders, VL.dats, VL.ioA, VL.endsV, VL.retE, VL.keepC, Option.map, List.range_succ, List.range_zero, List.map_cons, List.map_nil, List.map_append, List.nil_append, List.cons_append, List.append_nil, List.replicate_zero, List.replicate_succ, List.length_cons, List.length_nil, Nat.sub_self, List.getElem?_cons_zero, List.getElem?_cons_succ, List.set_cons_zero, List.set_cons_succ, Option.some.injEq, exists_eq_left', exists_eq_left, exists_eq_right, exists_and_left, exists_and_right, and_true, true_and, CV.d.injEq, CV.loc.injEq, Cell.lst.injEq, Cell.dat.injEq, Cell.dic.injEq, PyData.int.injEq, PyData.bool.injEq, PyData.list.injEq, PyData.tuple.injEq, PyData.str.injEq, reduceCtorEq, false_and, and_false, exists_false, false_or, or_false, if_true, if_false, reduceIte, Bool.false_eq_true, Nat.reduceAdd, Nat.reduceSub, Nat.succ_sub_succ, Nat.zero_add, VL.gP, List.filterMap_cons, List.filterMap_nil, List.cons.injEq, VL.wDisp0, VL.wDisp, VL.wPairs, VL.oLcm, VL.wPop, VL.wRevM, VL.wClearM, VL.wTupRg, VL.wListRg, VL.wR1, VL.wR2, VL.wRevN, VL.oRepT, VL.oRepL, wGAll, wGx, wipeE, okBd]
  refine ⟨fun i acc ρ => acc.any isFd = false ∧ ρ = [.dat (.tuple [.int M.n, M.b.d, .tuple (M.rs.map rwD)]), .dat (.int M.n), .dat M.b.d, .dat (.tuple (M.rs.map rwD)), .un], ⟨rfl, rfl⟩, ?_, ?_⟩
  · rintro i acc ρ d ⟨ha, rfl⟩ hd
    obtain ⟨r, rfl, _, m⟩ := rw_at hd
    have o := ok.r r m
    simp only [VL.wSeq, VL.wNext, VL.wNever, VL.wAsg, VL.wSet, VL.wVar, VL.wFrz, VL.wC, VL.wOp, VL.wTest, VL.wNotT, VL.wAndT, VL.wOrT, VL.wAnd, VL.wOr, VL.wNot, VL.wIf, VL.wNil, VL.wCons, VL.wTup, VL.wLst, VL.wStay, VL.wNew, VL.wPar, VL.wAug, VL.wDrop, VL.wRet, VL.wRetN, VL.wRet0, VL.wIfS, VL.wBrk, VL.wCnt, VL.wGt, VL.wGs, VL.wCB, VL.wCBN, VL.wCall, VL.wCallN, VL.wCallIo, VL.wCallIoN, VL.wCallK, VL.wIsi, VL.wIsi2, VL.wApp, VL.wExt, VL.wIns, VL.wSetIt, VL.wNoPart, VL.wPart, VL.wSl, VL.wSlN, VL.wChain, VL.wNeg, VL.wDnew, VL.wDput, VL.wDget, VL.wDin, VL.wDnin, VL.wIndex, VL.wRev, VL.wParNE, VL.wParEN, VL.wPar3, VL.wYes, VL.wSeqOf, VL.wRng1, VL.wRng2, VL.oI, VL.oI0, VL.oLt, VL.oLe, VL.oGt, VL.oGe, VL.oSub, VL.oMul, VL.oFdiv, VL.oMod, VL.oPow, VL.oShl', VL.oAbs, VL.oMax2, VL.oMin2, VL.oGcd, VL.atI_0, VL.atI_1, VL.atI_2, VL.ixN_20, VL.ixN_21, and_assoc, VL.shp_int, VL.shp_bool, VL.shp_none, VL.eqv_int, VL.eqv_bool, VL.isiD, VL.tyD, String.reduceBEq, Bool.not_true, Bool.not_false, Bool.and_true, Bool.and_false, Bool.true_and, Bool.false_and, Bool.or_true, Bool.or_false, Bool.true_or, Bool.false_or, decide_true, decide_false, Bool.not_eq_true', Bool.not_eq_eq_eq_not, decide_eq_true_eq, decide_eq_false_iff_not, VL.oInt1, VL.oInt2, VL.oLen, VL.oToInt, VL.oAdd, VL.oEq, VL.oNe, VL.oIsN, VL.oIn, VL.itemD, VL.isN, VL.der, VL.ders, VL.dats, VL.ioA, VL.endsV, VL.retE, VL.keepC, Option.map, List.range_succ, List.range_zero, List.map_cons, List.map_nil, List.map_append, List.nil_append, List.cons_append, List.append_nil, List.replicate_zero, List.replicate_succ, List.length_cons, List.length_nil, Nat.sub_self, List.getElem?_cons_zero, List.getElem?_cons_succ, List.set_cons_zero, List.set_cons_succ, Option.some.injEq, exists_eq_left', exists_eq_left, exists_eq_right, exists_and_left, exists_and_right, and_true, true_and, CV.d.injEq, CV.loc.injEq, Cell.lst.injEq, Cell.dat.injEq, Cell.dic.injEq, PyData.int.injEq, PyData.bool.injEq, PyData.list.injEq, PyData.tuple.injEq, PyData.str.injEq, reduceCtorEq, false_and, and_false, exists_false, false_or, or_false, if_true, if_false, reduceIte, Bool.false_eq_true, Nat.reduceAdd, Nat.reduceSub, Nat.succ_sub_succ, Nat.zero_add, VL.gP, List.filterMap_cons, List.filterMap_nil, List.cons.injEq, VL.wDisp0, VL.wDisp, VL.wPairs, VL.oLcm, VL.wPop, VL.wRevM, VL.wClearM, VL.wTupRg, VL.wListRg, VL.wR1, VL.wR2, VL.wRevN, VL.oRepT, VL.oRepL, S_is_pair]
    refine ⟨r, rfl, M.n, rfl, M.rs.length, by simp, o.1, o.2, ⟨_, rfl⟩, ?_⟩
    exact any_snoc ha
  · rintro acc ρ ⟨ha, rfl⟩
    simp only [VL.wSeq, VL.wNext, VL.wNever, VL.wAsg, VL.wSet, VL.wVar, VL.wFrz, VL.wC, VL.wOp, VL.wTest, VL.wNotT, VL.wAndT, VL.wOrT, VL.wAnd, VL.wOr, VL.wNot, VL.wIf, VL.wNil, VL.wCons, VL.wTup, VL.wLst, VL.wStay, VL.wNew, VL.wPar, VL.wAug, VL.wDrop, VL.wRet, VL.wRetN, VL.wRet0, VL.wIfS, VL.wBrk, VL.wCnt, VL.wGt, VL.wGs, VL.wCB, VL.wCBN, VL.wCall, VL.wCallN, VL.wCallIo, VL.wCallIoN, VL.wCallK, VL.wIsi, VL.wIsi2, VL.wApp, VL.wExt, VL.wIns, VL.wSetIt, VL.wNoPart, VL.wPart, VL.wSl, VL.wSlN, VL.wChain, VL.wNeg, VL.wDnew, VL.wDput, VL.wDget, VL.wDin, VL.wDnin, VL.wIndex, VL.wRev, VL.wParNE, VL.wParEN, VL.wPar3, VL.wYes, VL.wSeqOf, VL.wRng1, VL.wRng2, VL.oI, VL.oI0, VL.oLt, VL.oLe, VL.oGt, VL.oGe, VL.oSub, VL.oMul, VL.oFdiv, VL.oMod, VL.oPow, VL.oShl', VL.oAbs, VL.oMax2, VL.oMin2, VL.oGcd, VL.atI_0, VL.atI_1, VL.atI_2, VL.ixN_20, VL.ixN_21, and_assoc, VL.shp_int, VL.shp_bool, VL.shp_none, VL.eqv_int, VL.eqv_bool, VL.isiD, VL.tyD, String.reduceBEq, Bool.not_true, Bool.not_false, Bool.and_true, Bool.and_false, Bool.true_and, Bool.false_and, Bool.or_true, Bool.or_false, Bool.true_or, Bool.false_or, decide_true, decide_false, Bool.not_eq_true', Bool.not_eq_eq_eq_not, decide_eq_true_eq, decide_eq_false_iff_not, VL.oInt1, VL.oInt2, VL.oLen, VL.oToInt, VL.oAdd, VL.oEq, VL.oNe, VL.oIsN, VL.oIn, VL.itemD, VL.isN, VL.der, VL.ders, VL.dats, VL.ioA, VL.endsV, VL.retE, VL.keepC, Option.map, List.range_succ, List.range_zero, List.map_cons, List.map_nil, List.map_append, List.nil_append, List.cons_append, List.append_nil, List.replicate_zero, List.replicate_succ, List.length_cons, List.length_nil, Nat.sub_self, List.getElem?_cons_zero, List.getElem?_cons_succ, List.set_cons_zero, List.set_cons_succ, Option.some.injEq, exists_eq_left', exists_eq_left, exists_eq_right, exists_and_left, exists_and_right, and_true, true_and, CV.d.injEq, CV.loc.injEq, Cell.lst.injEq, Cell.dat.injEq, Cell.dic.injEq, PyData.int.injEq, PyData.bool.injEq, PyData.list.injEq, PyData.tuple.injEq, PyData.str.injEq, reduceCtorEq, false_and, and_false, exists_false, false_or, or_false, if_true, if_false, reduceIte, Bool.false_eq_true, Nat.reduceAdd, Nat.reduceSub, Nat.succ_sub_succ, Nat.zero_add, VL.gP, List.filterMap_cons, List.filterMap_nil, List.cons.injEq, VL.wDisp0, VL.wDisp, VL.wPairs, VL.oLcm, VL.wPop, VL.wRevM, VL.wClearM, VL.wTupRg, VL.wListRg, VL.wR1, VL.wR2, VL.wRevN, VL.oRepT, VL.oRepL, ha]
    exact h
theorem h_check_machine (ρ : En) (Q : RV → En → Prop) (h : S_check_machine ρ Q) : t_check_machine (endsV 1 Q) (ρ ++ List.replicate (1 - 1) .un) := by
  obtain ⟨M, rfl, ok, h⟩ := h
  unfold t_check_machine
  simp only [VL.wSeq, VL.wNext, VL.wNever, VL.wAsg, VL.wSet, VL.wVar, VL.wFrz, VL.wC, VL.wOp, VL.wTest, VL.wNotT, VL.wAndT, VL.wOrT, VL.wAnd, VL.wOr, VL.wNot, VL.wIf, VL.wNil, VL.wCons, VL.wTup, VL.wLst, VL.wStay, VL.wNew, VL.wPar, VL.wAug, VL.wDrop, VL.wRet, VL.wRetN, VL.wRet0, VL.wIfS, VL.wBrk, VL.wCnt, VL.wGt, VL.wGs, VL.wCB, VL.wCBN, VL.wCall, VL.wCallN, VL.wCallIo, VL.wCallIoN, VL.wCallK, VL.wIsi, VL.wIsi2, VL.wApp, VL.wExt, VL.wIns, VL.wSetIt, VL.wNoPart, VL.wPart, VL.wSl, VL.wSlN, VL.wChain, VL.wNeg, VL.wDnew, VL.wDput, VL.wDget, VL.wDin, VL.wDnin, VL.wIndex, VL.wRev, VL.wParNE, VL.wParEN, VL.wPar3, VL.wYes, VL.wSeqOf, VL.wRng1, VL.wRng2, VL.oI, VL.oI0, VL.oLt, VL.oLe, VL.oGt, VL.oGe, VL.oSub, VL.oMul, VL.oFdiv, VL.oMod, VL.oPow, VL.oShl', VL.oAbs, VL.oMax2, VL.oMin2, VL.oGcd, VL.atI_0, VL.atI_1, VL.atI_2, VL.ixN_20, VL.ixN_21, and_assoc, VL.shp_int, VL.shp_bool, VL.shp_none, VL.eqv_int, VL.eqv_bool, VL.isiD, VL.tyD, String.reduceBEq, Bool.not_true, Bool.not_false, Bool.and_true, Bool.and_false, Bool.true_and, Bool.false_and, Bool.or_true, Bool.or_false, Bool.true_or, Bool.false_or, decide_true, decide_false, Bool.not_eq_true', Bool.not_eq_eq_eq_not, decide_eq_true_eq, decide_eq_false_iff_not, VL.oInt1, VL.oInt2, VL.oLen, VL.oToInt, VL.oAdd, VL.oEq, VL.oNe, VL.oIsN, VL.oIn, VL.itemD, VL.isN, VL.der, VL.ders, VL.dats, VL.ioA, VL.endsV, VL.retE, VL.keepC, Option.map, List.range_succ, List.range_zero, List.map_cons, List.map_nil, List.map_append, List.nil_append, List.cons_append, List.append_nil, List.replicate_zero, List.replicate_succ, List.length_cons, List.length_nil, Nat.sub_self, List.getElem?_cons_zero, List.getElem?_cons_succ, List.set_cons_zero, List.set_cons_succ, Option.some.injEq, exists_eq_left', exists_eq_left, exists_eq_right, exists_and_left, exists_and_right, and_true, true_and, CV.d.injEq, CV.loc.injEq, Cell.lst.injEq, Cell.dat.injEq, Cell.dic.injEq, PyData.int.injEq, PyData.bool.injEq, PyData.list.injEq, PyData.tuple.injEq, PyData.str.injEq, reduceCtorEq, false_and, and_false, exists_false, false_or, or_false, if_true, if_false, reduceIte, Bool.false_eq_true, Nat.reduceAdd, Nat.reduceSub, Nat.succ_sub_succ, Nat.zero_add, VL.gP, List.filterMap_cons, List.filterMap_nil, List.cons.injEq, VL.wDisp0, VL.wDisp, VL.wPairs, VL.oLcm, VL.wPop, VL.wRevM, VL.wClearM, VL.wTupRg, VL.wListRg, VL.wR1, VL.wR2, VL.wRevN, VL.oRepT, VL.oRepL, S_is_machine]
  exact ⟨M, rfl, ok, h⟩
theorem h__law_place (ρ : En) (Q : RV → En → Prop) (h : S__law_place ρ Q) : t__law_place (endsV 4 Q) (ρ ++ List.replicate (4 - 4) .un) := by
  obtain ⟨pot, n, m, w, rfl, P, n1, n6, m12, h⟩ := h
  have leaf : ∀ (pot : List Int), Pot pot → ∀ r : Nat, (r : Int) < n → Q (.d (.tuple [.str "is", .int r])) [potC pot, .un, .un, .un] := fun pot P r l => h ⟨false, r⟩ pot P ⟨fun z => (by cases z), fun _ => (by show r < n; omega)⟩
  have knot : ∀ (pot : List Int), Pot pot → ∀ r : Nat, (r : Int) < m → Q (.d (.tuple [.str "to", .int r])) [potC pot, .un, .un, .un] := fun pot P r l => h ⟨true, r⟩ pot P ⟨fun _ => (by show r < m; omega), fun z => (by cases z)⟩
  unfold potC at leaf knot
  unfold t__law_place potC
  refine seq_gen fun k hk => ?_
  simp only [VL.wSeq, VL.wNext, VL.wNever, VL.wAsg, VL.wSet, VL.wVar, VL.wFrz, VL.wC, VL.wOp, VL.wTest, VL.wNotT, VL.wAndT, VL.wOrT, VL.wAnd, VL.wOr, VL.wNot, VL.wIf, VL.wNil, VL.wCons, VL.wTup, VL.wLst, VL.wStay, VL.wNew, VL.wPar, VL.wAug, VL.wDrop, VL.wRet, VL.wRetN, VL.wRet0, VL.wIfS, VL.wBrk, VL.wCnt, VL.wGt, VL.wGs, VL.wCB, VL.wCBN, VL.wCall, VL.wCallN, VL.wCallIo, VL.wCallIoN, VL.wCallK, VL.wIsi, VL.wIsi2, VL.wApp, VL.wExt, VL.wIns, VL.wSetIt, VL.wNoPart, VL.wPart, VL.wSl, VL.wSlN, VL.wChain, VL.wNeg, VL.wDnew, VL.wDput, VL.wDget, VL.wDin, VL.wDnin, VL.wIndex, VL.wRev, VL.wParNE, VL.wParEN, VL.wPar3, VL.wYes, VL.wSeqOf, VL.wRng1, VL.wRng2, VL.oI, VL.oI0, VL.oLt, VL.oLe, VL.oGt, VL.oGe, VL.oSub, VL.oMul, VL.oFdiv, VL.oMod, VL.oPow, VL.oShl', VL.oAbs, VL.oMax2, VL.oMin2, VL.oGcd, VL.atI_0, VL.atI_1, VL.atI_2, VL.ixN_20, VL.ixN_21, and_assoc, VL.shp_int, VL.shp_bool, VL.shp_none, VL.eqv_int, VL.eqv_bool, VL.isiD, VL.tyD, String.reduceBEq, Bool.not_true, Bool.not_false, Bool.and_true, Bool.and_false, Bool.true_and, Bool.false_and, Bool.or_true, Bool.or_false, Bool.true_or, Bool.false_or, decide_true, decide_false, Bool.not_eq_true', Bool.not_eq_eq_eq_not, decide_eq_true_eq, decide_eq_false_iff_not, VL.oInt1, VL.oInt2, VL.oLen, VL.oToInt, VL.oAdd, VL.oEq, VL.oNe, VL.oIsN, VL.oIn, VL.itemD, VL.isN, VL.der, VL.ders, VL.dats, VL.ioA, VL.endsV, VL.retE, VL.keepC, Option.map, List.range_succ, List.range_zero, List.map_cons, List.map_nil, List.map_append, List.nil_append, List.cons_append, List.append_nil, List.replicate_zero, List.replicate_succ, List.length_cons, List.length_nil, Nat.sub_self, List.getElem?_cons_zero, List.getElem?_cons_succ, List.set_cons_zero, List.set_cons_succ, Option.some.injEq, exists_eq_left', exists_eq_left, exists_eq_right, exists_and_left, exists_and_right, and_true, true_and, CV.d.injEq, CV.loc.injEq, Cell.lst.injEq, Cell.dat.injEq, Cell.dic.injEq, PyData.int.injEq, PyData.bool.injEq, PyData.list.injEq, PyData.tuple.injEq, PyData.str.injEq, reduceCtorEq, false_and, and_false, exists_false, false_or, or_false, if_true, if_false, reduceIte, Bool.false_eq_true, Nat.reduceAdd, Nat.reduceSub, Nat.succ_sub_succ, Nat.zero_add, VL.gP, List.filterMap_cons, List.filterMap_nil, List.cons.injEq, VL.wDisp0, VL.wDisp, VL.wPairs, VL.oLcm, VL.wPop, VL.wRevM, VL.wClearM, VL.wTupRg, VL.wListRg, VL.wR1, VL.wR2, VL.wRevN, VL.oRepT, VL.oRepL, S__law_take, potC, Prod.mk.injEq]
  by_cases z : (m : Int) = 0
  · rw [if_pos z]
    exact ⟨pot, rfl, P, by omega, by omega, fun r pot' P' l => ⟨by decide, leaf pot' P' r l⟩⟩
  · rw [if_neg z]
    refine ⟨pot, rfl, P, by decide, by decide, fun r pot' P' l => ?_⟩
    split
    · exact ⟨pot', rfl, P', by omega, by omega, fun r pot' P' l => ⟨by decide, leaf pot' P' r l⟩⟩
    · rw [hk]
      simp only [VL.wSeq, VL.wNext, VL.wNever, VL.wAsg, VL.wSet, VL.wVar, VL.wFrz, VL.wC, VL.wOp, VL.wTest, VL.wNotT, VL.wAndT, VL.wOrT, VL.wAnd, VL.wOr, VL.wNot, VL.wIf, VL.wNil, VL.wCons, VL.wTup, VL.wLst, VL.wStay, VL.wNew, VL.wPar, VL.wAug, VL.wDrop, VL.wRet, VL.wRetN, VL.wRet0, VL.wIfS, VL.wBrk, VL.wCnt, VL.wGt, VL.wGs, VL.wCB, VL.wCBN, VL.wCall, VL.wCallN, VL.wCallIo, VL.wCallIoN, VL.wCallK, VL.wIsi, VL.wIsi2, VL.wApp, VL.wExt, VL.wIns, VL.wSetIt, VL.wNoPart, VL.wPart, VL.wSl, VL.wSlN, VL.wChain, VL.wNeg, VL.wDnew, VL.wDput, VL.wDget, VL.wDin, VL.wDnin, VL.wIndex, VL.wRev, VL.wParNE, VL.wParEN, VL.wPar3, VL.wYes, VL.wSeqOf, VL.wRng1, VL.wRng2, VL.oI, VL.oI0, VL.oLt, VL.oLe, VL.oGt, VL.oGe, VL.oSub, VL.oMul, VL.oFdiv, VL.oMod, VL.oPow, VL.oShl', VL.oAbs, VL.oMax2, VL.oMin2, VL.oGcd, VL.atI_0, VL.atI_1, VL.atI_2, VL.ixN_20, VL.ixN_21, and_assoc, VL.shp_int, VL.shp_bool, VL.shp_none, VL.eqv_int, VL.eqv_bool, VL.isiD, VL.tyD, String.reduceBEq, Bool.not_true, Bool.not_false, Bool.and_true, Bool.and_false, Bool.true_and, Bool.false_and, Bool.or_true, Bool.or_false, Bool.true_or, Bool.false_or, decide_true, decide_false, Bool.not_eq_true', Bool.not_eq_eq_eq_not, decide_eq_true_eq, decide_eq_false_iff_not, VL.oInt1, VL.oInt2, VL.oLen, VL.oToInt, VL.oAdd, VL.oEq, VL.oNe, VL.oIsN, VL.oIn, VL.itemD, VL.isN, VL.der, VL.ders, VL.dats, VL.ioA, VL.endsV, VL.retE, VL.keepC, Option.map, List.range_succ, List.range_zero, List.map_cons, List.map_nil, List.map_append, List.nil_append, List.cons_append, List.append_nil, List.replicate_zero, List.replicate_succ, List.length_cons, List.length_nil, Nat.sub_self, List.getElem?_cons_zero, List.getElem?_cons_succ, List.set_cons_zero, List.set_cons_succ, Option.some.injEq, exists_eq_left', exists_eq_left, exists_eq_right, exists_and_left, exists_and_right, and_true, true_and, CV.d.injEq, CV.loc.injEq, Cell.lst.injEq, Cell.dat.injEq, Cell.dic.injEq, PyData.int.injEq, PyData.bool.injEq, PyData.list.injEq, PyData.tuple.injEq, PyData.str.injEq, reduceCtorEq, false_and, and_false, exists_false, false_or, or_false, if_true, if_false, reduceIte, Bool.false_eq_true, Nat.reduceAdd, Nat.reduceSub, Nat.succ_sub_succ, Nat.zero_add, VL.gP, List.filterMap_cons, List.filterMap_nil, List.cons.injEq, VL.wDisp0, VL.wDisp, VL.wPairs, VL.oLcm, VL.wPop, VL.wRevM, VL.wClearM, VL.wTupRg, VL.wListRg, VL.wR1, VL.wR2, VL.wRevN, VL.oRepT, VL.oRepL, S__law_take, potC, Prod.mk.injEq]
      exact ⟨pot', rfl, P', by omega, by omega, fun r pot' P' l => ⟨by decide, knot pot' P' r l⟩⟩
end K13
end
section
set_option autoImplicit false
set_option maxRecDepth 100000
set_option maxHeartbeats 4000000
namespace K13
open PySem PySem.Spec PyProof.Rows L2 VL
theorem rw_ix {rs : List (Pl × Pl)} {i : Nat} (d : Pl × Pl) (h : i < rs.length) : atI (rs.map rwD) (i : Int) = some (rwD (rs.getD i d)) := by
  refine VL.atI_nat ?_
  rw [List.getElem?_map, List.getElem?_eq_getElem h, List.getD_eq_getElem?_getD, List.getElem?_eq_getElem h]
  rfl
theorem nx_at (M : Mc) {p : Pl} (hp : p.to = true) (po : p.ok M.n M.rs.length) : atI (M.rs.map rwD) (p.i : Int) = some (rwD (M.rs.getD p.i (M.b, M.b))) := rw_ix _ (po.1 hp)
theorem nx_ix (M : Mc) (p : Pl) {t : Nat} (h : t < 2) : atI [(M.rs.getD p.i (M.b, M.b)).1.d, (M.rs.getD p.i (M.b, M.b)).2.d] (t : Int) = some (M.next p t).d := by
  match t, h with
  | 0, _ => rfl
  | 1, _ => rfl
theorem getD_mem {α : Type} {l : List α} {i : Nat} (d : α) (h : i < l.length) : l.getD i d ∈ l := by
  rw [List.getD_eq_getElem?_getD, List.getElem?_eq_getElem h]
  exact List.getElem_mem h
theorem nx_ok {M : Mc} (ok : M.Ok) {p : Pl} (hp : p.to = true) (po : p.ok M.n M.rs.length) (t : Nat) : (M.next p t).ok M.n M.rs.length := by
  have r := ok.r _ (getD_mem (M.b, M.b) (po.1 hp))
  unfold Mc.next
  split
  · exact r.1
  · exact r.2
theorem wlk_snoc (M : Mc) (ts : List Nat) (t : Nat) : wlk M (ts ++ [t]) = stp M (wlk M ts) t := by
  unfold wlk
  rw [List.foldl_append]
  rfl
theorem take_at {α : Type} {l : List α} {i : Nat} {x : α} (h : l[i]? = some x) : l.take (i + 1) = l.take i ++ [x] := by
  rw [List.take_add_one, h]
  rfl
theorem stp_inv {M : Mc} (ok : M.Ok) (hb : M.b.to = true) {a : List Nat × Pl} (h : a.2.to = true ∧ a.2.ok M.n M.rs.length) (t : Nat) : (stp M a t).2.to = true ∧ (stp M a t).2.ok M.n M.rs.length := by
  unfold stp
  split
  · exact ⟨by assumption, nx_ok ok h.1 h.2 t⟩
  · exact ⟨hb, ok.b⟩
theorem fold_inv {M : Mc} (ok : M.Ok) (hb : M.b.to = true) : ∀ (ts : List Nat) (a : List Nat × Pl), a.2.to = true ∧ a.2.ok M.n M.rs.length → (ts.foldl (stp M) a).2.to = true ∧ (ts.foldl (stp M) a).2.ok M.n M.rs.length
  | [], a, h => h
  | t :: ts, a, h => fold_inv ok hb ts _ (stp_inv ok hb h t)
theorem wlk_inv {M : Mc} (ok : M.Ok) (hb : M.b.to = true) (ts : List Nat) : (wlk M ts).2.to = true ∧ (wlk M ts).2.ok M.n M.rs.length := fold_inv ok hb ts _ ⟨hb, ok.b⟩
theorem fold_len (M : Mc) : ∀ (ts : List Nat) (a : List Nat × Pl), (ts.foldl (stp M) a).1.length ≤ a.1.length + ts.length
  | [], a => by simp
  | t :: ts, a => by
    have h := fold_len M ts (stp M a t)
    have : (stp M a t).1.length ≤ a.1.length + 1 := by
      unfold stp
      split <;> simp
    simp only [List.foldl_cons, List.length_cons]
    omega
theorem wlk_len (M : Mc) (ts : List Nat) : (wlk M ts).1.length ≤ ts.length := by
  have := fold_len M ts ([], M.b)
  simpa [wlk] using this
theorem nsD_snoc (a : List Nat) (i : Nat) : nsD (a ++ [i]) = nsD a ++ [.int (i : Nat)] := by
  unfold nsD
  rw [List.map_append]
  rfl
theorem nsD_len (a : List Nat) : (nsD a).length = a.length := List.length_map ..
theorem seq_of {l : Bool} {ds : List D} {P : List D → En → Prop} {ρ : En} (e : ρ[1]? = some (.dat (seqD l ds))) (h : P ds ρ) : wSeqOf (wVar 1) ρ P := by
  unfold wSeqOf wVar
  rw [e]
  cases l
  · exact h
  · exact h
theorem h__law_walk (ρ : En) (Q : RV → En → Prop) (h : S__law_walk ρ Q) : t__law_walk (endsV 2 Q) (ρ ++ List.replicate (5 - 2) .un) := by
  obtain ⟨M, l, ts, rfl, ok, T, fine, h⟩ := h
  unfold wlkD at h
  unfold t__law_walk
  refine seq_gen fun k hk => ?_
  unfold mcD rsD
  simp only [VL.wSeq, VL.wNext, VL.wNever, VL.wAsg, VL.wSet, VL.wVar, VL.wFrz, VL.wC, VL.wOp, VL.wTest, VL.wNotT, VL.wAndT, VL.wOrT, VL.wAnd, VL.wOr, VL.wNot, VL.wIf, VL.wNil, VL.wCons, VL.wTup, VL.wLst, VL.wStay, VL.wNew, VL.wPar, VL.wAug, VL.wDrop, VL.wRet, VL.wRetN, VL.wRet0, VL.wIfS, VL.wBrk, VL.wCnt, VL.wGt, VL.wGs, VL.wCB, VL.wCBN, VL.wCall, VL.wCallN, VL.wCallIo, VL.wCallIoN, VL.wCallK, VL.wIsi, VL.wIsi2, VL.wApp, VL.wExt, VL.wIns, VL.wSetIt, VL.wNoPart, VL.wPart, VL.wSl, VL.wSlN, VL.wChain, VL.wNeg, VL.wDnew, VL.wDput, VL.wDget, VL.wDin, VL.wDnin, VL.wIndex, VL.wRev, VL.wParNE, VL.wParEN, VL.wPar3, VL.wYes, VL.wSeqOf, VL.wRng1, VL.wRng2, VL.oI, VL.oI0, VL.oLt, VL.oLe, VL.oGt, VL.oGe, VL.oSub, VL.oMul, VL.oFdiv, VL.oMod, VL.oPow, VL.oShl', VL.oAbs, VL.oMax2, VL.oMin2, VL.oGcd, VL.atI_0, VL.atI_1, VL.atI_2, VL.ixN_20, VL.ixN_21, and_assoc, VL.shp_int, VL.shp_bool, VL.shp_none, VL.eqv_int, VL.eqv_bool, VL.isiD, VL.tyD, String.reduceBEq, Bool.not_true, Bool.not_false, Bool.and_true, Bool.and_false, Bool.true_and, Bool.false_and, Bool.or_true, Bool.or_false, Bool.true_or, Bool.false_or, decide_true, decide_false, Bool.not_eq_true', Bool.not_eq_eq_eq_not, decide_eq_true_eq, decide_eq_false_iff_not, VL.oInt1, VL.oInt2, VL.oLen, VL.oToInt, VL.oAdd, VL.oEq, VL.oNe, VL.oIsN, VL.oIn, VL.itemD, VL.isN, VL.der, VL.ders, VL.dats, VL.ioA, VL.endsV, VL.retE, VL.keepC, Option.map, List.range_succ, List.range_zero, List.map_cons, List.map_nil, List.map_append, List.nil_append, List.cons_append, List.append_nil, List.replicate_zero, List.replicate_succ, List.length_cons, List.length_nil, Nat.sub_self, List.getElem?_cons_zero, List.getElem?_cons_succ, List.set_cons_zero, List.set_cons_succ, Option.some.injEq, exists_eq_left', exists_eq_left, exists_eq_right, exists_and_left, exists_and_right, and_true, true_and, CV.d.injEq, CV.loc.injEq, Cell.lst.injEq, Cell.dat.injEq, Cell.dic.injEq, PyData.int.injEq, PyData.bool.injEq, PyData.list.injEq, PyData.tuple.injEq, PyData.str.injEq, reduceCtorEq, false_and, and_false, exists_false, false_or, or_false, if_true, if_false, reduceIte, Bool.false_eq_true, Nat.reduceAdd, Nat.reduceSub, Nat.succ_sub_succ, Nat.zero_add, VL.gP, List.filterMap_cons, List.filterMap_nil, List.cons.injEq, VL.wDisp0, VL.wDisp, VL.wPairs, VL.oLcm, VL.wPop, VL.wRevM, VL.wClearM, VL.wTupRg, VL.wListRg, VL.wR1, VL.wR2, VL.wRevN, VL.oRepT, VL.oRepL]
  have go : k [.dat (.tuple [.int M.n, M.b.d, .tuple (M.rs.map rwD)]), .dat (seqD l (nsD ts)), .un, .dat (.tuple []), .dat M.b.d] := by
    rw [hk]
    clear hk k
    refine seq_gen fun k hk => ?_
    refine for_body fun B hB => ?_
    unfold wFor
    refine seq_of (l := l) rfl ⟨fun i ρ => ∃ c, ρ = [.dat (.tuple [.int M.n, M.b.d, .tuple (M.rs.map rwD)]), .dat (seqD l (nsD ts)), c, .dat (.tuple (nsD (wlk M (ts.take i)).1)), .dat (wlk M (ts.take i)).2.d], ⟨_, rfl⟩, ?_, ?_⟩
    · rintro i ρ d ⟨c, rfl⟩ hd
      obtain ⟨t, rfl, ht, m⟩ := ns_at hd
      have lt := T.lt t m
      have hb : M.b.to = true := by
        rcases fine with z | z
        · exact z
        · rw [z] at ht
          cases ht
      obtain ⟨p1, p2⟩ := wlk_inv ok hb (ts.take i)
      have ll := wlk_len M (ts.take i)
      rw [List.length_take] at ll
      have tl := T.len
      have nx := wlk_snoc M (ts.take i) t
      rw [← take_at ht] at nx
      generalize wlk M (ts.take i) = a at *
      simp only [VL.wSeq, VL.wNext, VL.wNever, VL.wAsg, VL.wSet, VL.wVar, VL.wFrz, VL.wC, VL.wOp, VL.wTest, VL.wNotT, VL.wAndT, VL.wOrT, VL.wAnd, VL.wOr, VL.wNot, VL.wIf, VL.wNil, VL.wCons, VL.wTup, VL.wLst, VL.wStay, VL.wNew, VL.wPar, VL.wAug, VL.wDrop, VL.wRet, VL.wRetN, VL.wRet0, VL.wIfS, VL.wBrk, VL.wCnt, VL.wGt, VL.wGs, VL.wCB, VL.wCBN, VL.wCall, VL.wCallN, VL.wCallIo, VL.wCallIoN, VL.wCallK, VL.wIsi, VL.wIsi2, VL.wApp, VL.wExt, VL.wIns, VL.wSetIt, VL.wNoPart, VL.wPart, VL.wSl, VL.wSlN, VL.wChain, VL.wNeg, VL.wDnew, VL.wDput, VL.wDget, VL.wDin, VL.wDnin, VL.wIndex, VL.wRev, VL.wParNE, VL.wParEN, VL.wPar3, VL.wYes, VL.wSeqOf, VL.wRng1, VL.wRng2, VL.oI, VL.oI0, VL.oLt, VL.oLe, VL.oGt, VL.oGe, VL.oSub, VL.oMul, VL.oFdiv, VL.oMod, VL.oPow, VL.oShl', VL.oAbs, VL.oMax2, VL.oMin2, VL.oGcd, VL.atI_0, VL.atI_1, VL.atI_2, VL.ixN_20, VL.ixN_21, and_assoc, VL.shp_int, VL.shp_bool, VL.shp_none, VL.eqv_int, VL.eqv_bool, VL.isiD, VL.tyD, String.reduceBEq, Bool.not_true, Bool.not_false, Bool.and_true, Bool.and_false, Bool.true_and, Bool.false_and, Bool.or_true, Bool.or_false, Bool.true_or, Bool.false_or, decide_true, decide_false, Bool.not_eq_true', Bool.not_eq_eq_eq_not, decide_eq_true_eq, decide_eq_false_iff_not, VL.oInt1, VL.oInt2, VL.oLen, VL.oToInt, VL.oAdd, VL.oEq, VL.oNe, VL.oIsN, VL.oIn, VL.itemD, VL.isN, VL.der, VL.ders, VL.dats, VL.ioA, VL.endsV, VL.retE, VL.keepC, Option.map, List.range_succ, List.range_zero, List.map_cons, List.map_nil, List.map_append, List.nil_append, List.cons_append, List.append_nil, List.replicate_zero, List.replicate_succ, List.length_cons, List.length_nil, Nat.sub_self, List.getElem?_cons_zero, List.getElem?_cons_succ, List.set_cons_zero, List.set_cons_succ, Option.some.injEq, exists_eq_left', exists_eq_left, exists_eq_right, exists_and_left, exists_and_right, and_true, true_and, CV.d.injEq, CV.loc.injEq, Cell.lst.injEq, Cell.dat.injEq, Cell.dic.injEq, PyData.int.injEq, PyData.bool.injEq, PyData.list.injEq, PyData.tuple.injEq, PyData.str.injEq, reduceCtorEq, false_and, and_false, exists_false, false_or, or_false, if_true, if_false, reduceIte, Bool.false_eq_true, Nat.reduceAdd, Nat.reduceSub, Nat.succ_sub_succ, Nat.zero_add, VL.gP, List.filterMap_cons, List.filterMap_nil, List.cons.injEq, VL.wDisp0, VL.wDisp, VL.wPairs, VL.oLcm, VL.wPop, VL.wRevM, VL.wClearM, VL.wTupRg, VL.wListRg, VL.wR1, VL.wR2, VL.wRevN, VL.oRepT, VL.oRepL]
      rw [hB]
      refine seq_gen fun k2 hk2 => ?_
      simp only [VL.wSeq, VL.wNext, VL.wNever, VL.wAsg, VL.wSet, VL.wVar, VL.wFrz, VL.wC, VL.wOp, VL.wTest, VL.wNotT, VL.wAndT, VL.wOrT, VL.wAnd, VL.wOr, VL.wNot, VL.wIf, VL.wNil, VL.wCons, VL.wTup, VL.wLst, VL.wStay, VL.wNew, VL.wPar, VL.wAug, VL.wDrop, VL.wRet, VL.wRetN, VL.wRet0, VL.wIfS, VL.wBrk, VL.wCnt, VL.wGt, VL.wGs, VL.wCB, VL.wCBN, VL.wCall, VL.wCallN, VL.wCallIo, VL.wCallIoN, VL.wCallK, VL.wIsi, VL.wIsi2, VL.wApp, VL.wExt, VL.wIns, VL.wSetIt, VL.wNoPart, VL.wPart, VL.wSl, VL.wSlN, VL.wChain, VL.wNeg, VL.wDnew, VL.wDput, VL.wDget, VL.wDin, VL.wDnin, VL.wIndex, VL.wRev, VL.wParNE, VL.wParEN, VL.wPar3, VL.wYes, VL.wSeqOf, VL.wRng1, VL.wRng2, VL.oI, VL.oI0, VL.oLt, VL.oLe, VL.oGt, VL.oGe, VL.oSub, VL.oMul, VL.oFdiv, VL.oMod, VL.oPow, VL.oShl', VL.oAbs, VL.oMax2, VL.oMin2, VL.oGcd, VL.atI_0, VL.atI_1, VL.atI_2, VL.ixN_20, VL.ixN_21, and_assoc, VL.shp_int, VL.shp_bool, VL.shp_none, VL.eqv_int, VL.eqv_bool, VL.isiD, VL.tyD, String.reduceBEq, Bool.not_true, Bool.not_false, Bool.and_true, Bool.and_false, Bool.true_and, Bool.false_and, Bool.or_true, Bool.or_false, Bool.true_or, Bool.false_or, decide_true, decide_false, Bool.not_eq_true', Bool.not_eq_eq_eq_not, decide_eq_true_eq, decide_eq_false_iff_not, VL.oInt1, VL.oInt2, VL.oLen, VL.oToInt, VL.oAdd, VL.oEq, VL.oNe, VL.oIsN, VL.oIn, VL.itemD, VL.isN, VL.der, VL.ders, VL.dats, VL.ioA, VL.endsV, VL.retE, VL.keepC, Option.map, List.range_succ, List.range_zero, List.map_cons, List.map_nil, List.map_append, List.nil_append, List.cons_append, List.append_nil, List.replicate_zero, List.replicate_succ, List.length_cons, List.length_nil, Nat.sub_self, List.getElem?_cons_zero, List.getElem?_cons_succ, List.set_cons_zero, List.set_cons_succ, Option.some.injEq, exists_eq_left', exists_eq_left, exists_eq_right, exists_and_left, exists_and_right, and_true, true_and, CV.d.injEq, CV.loc.injEq, Cell.lst.injEq, Cell.dat.injEq, Cell.dic.injEq, PyData.int.injEq, PyData.bool.injEq, PyData.list.injEq, PyData.tuple.injEq, PyData.str.injEq, reduceCtorEq, false_and, and_false, exists_false, false_or, or_false, if_true, if_false, reduceIte, Bool.false_eq_true, Nat.reduceAdd, Nat.reduceSub, Nat.succ_sub_succ, Nat.zero_add, VL.gP, List.filterMap_cons, List.filterMap_nil, List.cons.injEq, VL.wDisp0, VL.wDisp, VL.wPairs, VL.oLcm, VL.wPop, VL.wRevM, VL.wClearM, VL.wTupRg, VL.wListRg, VL.wR1, VL.wR2, VL.wRevN, VL.oRepT, VL.oRepL, Pl.d]
      refine ⟨_, nx_at M p1 p2, ?_⟩
      simp only [VL.wSeq, VL.wNext, VL.wNever, VL.wAsg, VL.wSet, VL.wVar, VL.wFrz, VL.wC, VL.wOp, VL.wTest, VL.wNotT, VL.wAndT, VL.wOrT, VL.wAnd, VL.wOr, VL.wNot, VL.wIf, VL.wNil, VL.wCons, VL.wTup, VL.wLst, VL.wStay, VL.wNew, VL.wPar, VL.wAug, VL.wDrop, VL.wRet, VL.wRetN, VL.wRet0, VL.wIfS, VL.wBrk, VL.wCnt, VL.wGt, VL.wGs, VL.wCB, VL.wCBN, VL.wCall, VL.wCallN, VL.wCallIo, VL.wCallIoN, VL.wCallK, VL.wIsi, VL.wIsi2, VL.wApp, VL.wExt, VL.wIns, VL.wSetIt, VL.wNoPart, VL.wPart, VL.wSl, VL.wSlN, VL.wChain, VL.wNeg, VL.wDnew, VL.wDput, VL.wDget, VL.wDin, VL.wDnin, VL.wIndex, VL.wRev, VL.wParNE, VL.wParEN, VL.wPar3, VL.wYes, VL.wSeqOf, VL.wRng1, VL.wRng2, VL.oI, VL.oI0, VL.oLt, VL.oLe, VL.oGt, VL.oGe, VL.oSub, VL.oMul, VL.oFdiv, VL.oMod, VL.oPow, VL.oShl', VL.oAbs, VL.oMax2, VL.oMin2, VL.oGcd, VL.atI_0, VL.atI_1, VL.atI_2, VL.ixN_20, VL.ixN_21, and_assoc, VL.shp_int, VL.shp_bool, VL.shp_none, VL.eqv_int, VL.eqv_bool, VL.isiD, VL.tyD, String.reduceBEq, Bool.not_true, Bool.not_false, Bool.and_true, Bool.and_false, Bool.true_and, Bool.false_and, Bool.or_true, Bool.or_false, Bool.true_or, Bool.false_or, decide_true, decide_false, Bool.not_eq_true', Bool.not_eq_eq_eq_not, decide_eq_true_eq, decide_eq_false_iff_not, VL.oInt1, VL.oInt2, VL.oLen, VL.oToInt, VL.oAdd, VL.oEq, VL.oNe, VL.oIsN, VL.oIn, VL.itemD, VL.isN, VL.der, VL.ders, VL.dats, VL.ioA, VL.endsV, VL.retE, VL.keepC, Option.map, List.range_succ, List.range_zero, List.map_cons, List.map_nil, List.map_append, List.nil_append, List.cons_append, List.append_nil, List.replicate_zero, List.replicate_succ, List.length_cons, List.length_nil, Nat.sub_self, List.getElem?_cons_zero, List.getElem?_cons_succ, List.set_cons_zero, List.set_cons_succ, Option.some.injEq, exists_eq_left', exists_eq_left, exists_eq_right, exists_and_left, exists_and_right, and_true, true_and, CV.d.injEq, CV.loc.injEq, Cell.lst.injEq, Cell.dat.injEq, Cell.dic.injEq, PyData.int.injEq, PyData.bool.injEq, PyData.list.injEq, PyData.tuple.injEq, PyData.str.injEq, reduceCtorEq, false_and, and_false, exists_false, false_or, or_false, if_true, if_false, reduceIte, Bool.false_eq_true, Nat.reduceAdd, Nat.reduceSub, Nat.succ_sub_succ, Nat.zero_add, VL.gP, List.filterMap_cons, List.filterMap_nil, List.cons.injEq, VL.wDisp0, VL.wDisp, VL.wPairs, VL.oLcm, VL.wPop, VL.wRevM, VL.wClearM, VL.wTupRg, VL.wListRg, VL.wR1, VL.wR2, VL.wRevN, VL.oRepT, VL.oRepL, rwD]
      refine ⟨_, nx_ix M a.2 lt, ?_⟩
      rw [hk2]
      clear hk2 k2
      unfold stp at nx
      generalize M.next a.2 t = q at *
      simp only [VL.wSeq, VL.wNext, VL.wNever, VL.wAsg, VL.wSet, VL.wVar, VL.wFrz, VL.wC, VL.wOp, VL.wTest, VL.wNotT, VL.wAndT, VL.wOrT, VL.wAnd, VL.wOr, VL.wNot, VL.wIf, VL.wNil, VL.wCons, VL.wTup, VL.wLst, VL.wStay, VL.wNew, VL.wPar, VL.wAug, VL.wDrop, VL.wRet, VL.wRetN, VL.wRet0, VL.wIfS, VL.wBrk, VL.wCnt, VL.wGt, VL.wGs, VL.wCB, VL.wCBN, VL.wCall, VL.wCallN, VL.wCallIo, VL.wCallIoN, VL.wCallK, VL.wIsi, VL.wIsi2, VL.wApp, VL.wExt, VL.wIns, VL.wSetIt, VL.wNoPart, VL.wPart, VL.wSl, VL.wSlN, VL.wChain, VL.wNeg, VL.wDnew, VL.wDput, VL.wDget, VL.wDin, VL.wDnin, VL.wIndex, VL.wRev, VL.wParNE, VL.wParEN, VL.wPar3, VL.wYes, VL.wSeqOf, VL.wRng1, VL.wRng2, VL.oI, VL.oI0, VL.oLt, VL.oLe, VL.oGt, VL.oGe, VL.oSub, VL.oMul, VL.oFdiv, VL.oMod, VL.oPow, VL.oShl', VL.oAbs, VL.oMax2, VL.oMin2, VL.oGcd, VL.atI_0, VL.atI_1, VL.atI_2, VL.ixN_20, VL.ixN_21, and_assoc, VL.shp_int, VL.shp_bool, VL.shp_none, VL.eqv_int, VL.eqv_bool, VL.isiD, VL.tyD, String.reduceBEq, Bool.not_true, Bool.not_false, Bool.and_true, Bool.and_false, Bool.true_and, Bool.false_and, Bool.or_true, Bool.or_false, Bool.true_or, Bool.false_or, decide_true, decide_false, Bool.not_eq_true', Bool.not_eq_eq_eq_not, decide_eq_true_eq, decide_eq_false_iff_not, VL.oInt1, VL.oInt2, VL.oLen, VL.oToInt, VL.oAdd, VL.oEq, VL.oNe, VL.oIsN, VL.oIn, VL.itemD, VL.isN, VL.der, VL.ders, VL.dats, VL.ioA, VL.endsV, VL.retE, VL.keepC, Option.map, List.range_succ, List.range_zero, List.map_cons, List.map_nil, List.map_append, List.nil_append, List.cons_append, List.append_nil, List.replicate_zero, List.replicate_succ, List.length_cons, List.length_nil, Nat.sub_self, List.getElem?_cons_zero, List.getElem?_cons_succ, List.set_cons_zero, List.set_cons_succ, Option.some.injEq, exists_eq_left', exists_eq_left, exists_eq_right, exists_and_left, exists_and_right, and_true, true_and, CV.d.injEq, CV.loc.injEq, Cell.lst.injEq, Cell.dat.injEq, Cell.dic.injEq, PyData.int.injEq, PyData.bool.injEq, PyData.list.injEq, PyData.tuple.injEq, PyData.str.injEq, reduceCtorEq, false_and, and_false, exists_false, false_or, or_false, if_true, if_false, reduceIte, Bool.false_eq_true, Nat.reduceAdd, Nat.reduceSub, Nat.succ_sub_succ, Nat.zero_add, VL.gP, List.filterMap_cons, List.filterMap_nil, List.cons.injEq, VL.wDisp0, VL.wDisp, VL.wPairs, VL.oLcm, VL.wPop, VL.wRevM, VL.wClearM, VL.wTupRg, VL.wListRg, VL.wR1, VL.wR2, VL.wRevN, VL.oRepT, VL.oRepL, Pl.d, w_is]
      refine ⟨shp_w _, shp_is, ?_⟩
      rw [nx]
      cases e : q.to
      · simp only [if_true, if_false, Bool.false_eq_true]
        refine ⟨by decide, Nat.le_of_lt (small_size (by rw [nsD_len]; omega)), (nsD_snoc _ _).symm, ?_, ?_⟩ <;> first | rfl | trivial
      · simp only [if_true, if_false, Bool.true_eq_false]
        refine ⟨?_, ?_, ?_⟩ <;> first | rfl | trivial
    · rintro ρ ⟨c, rfl⟩
      rw [nsD_len, List.take_length]
      show k _
      rw [hk]
      simp only [VL.wSeq, VL.wNext, VL.wNever, VL.wAsg, VL.wSet, VL.wVar, VL.wFrz, VL.wC, VL.wOp, VL.wTest, VL.wNotT, VL.wAndT, VL.wOrT, VL.wAnd, VL.wOr, VL.wNot, VL.wIf, VL.wNil, VL.wCons, VL.wTup, VL.wLst, VL.wStay, VL.wNew, VL.wPar, VL.wAug, VL.wDrop, VL.wRet, VL.wRetN, VL.wRet0, VL.wIfS, VL.wBrk, VL.wCnt, VL.wGt, VL.wGs, VL.wCB, VL.wCBN, VL.wCall, VL.wCallN, VL.wCallIo, VL.wCallIoN, VL.wCallK, VL.wIsi, VL.wIsi2, VL.wApp, VL.wExt, VL.wIns, VL.wSetIt, VL.wNoPart, VL.wPart, VL.wSl, VL.wSlN, VL.wChain, VL.wNeg, VL.wDnew, VL.wDput, VL.wDget, VL.wDin, VL.wDnin, VL.wIndex, VL.wRev, VL.wParNE, VL.wParEN, VL.wPar3, VL.wYes, VL.wSeqOf, VL.wRng1, VL.wRng2, VL.oI, VL.oI0, VL.oLt, VL.oLe, VL.oGt, VL.oGe, VL.oSub, VL.oMul, VL.oFdiv, VL.oMod, VL.oPow, VL.oShl', VL.oAbs, VL.oMax2, VL.oMin2, VL.oGcd, VL.atI_0, VL.atI_1, VL.atI_2, VL.ixN_20, VL.ixN_21, and_assoc, VL.shp_int, VL.shp_bool, VL.shp_none, VL.eqv_int, VL.eqv_bool, VL.isiD, VL.tyD, String.reduceBEq, Bool.not_true, Bool.not_false, Bool.and_true, Bool.and_false, Bool.true_and, Bool.false_and, Bool.or_true, Bool.or_false, Bool.true_or, Bool.false_or, decide_true, decide_false, Bool.not_eq_true', Bool.not_eq_eq_eq_not, decide_eq_true_eq, decide_eq_false_iff_not, VL.oInt1, VL.oInt2, VL.oLen, VL.oToInt, VL.oAdd, VL.oEq, VL.oNe, VL.oIsN, VL.oIn, VL.itemD, VL.isN, VL.der, VL.ders, VL.dats, VL.ioA, VL.endsV, VL.retE, VL.keepC, Option.map, List.range_succ, List.range_zero, List.map_cons, List.map_nil, List.map_append, List.nil_append, List.cons_append, List.append_nil, List.replicate_zero, List.replicate_succ, List.length_cons, List.length_nil, Nat.sub_self, List.getElem?_cons_zero, List.getElem?_cons_succ, List.set_cons_zero, List.set_cons_succ, Option.some.injEq, exists_eq_left', exists_eq_left, exists_eq_right, exists_and_left, exists_and_right, and_true, true_and, CV.d.injEq, CV.loc.injEq, Cell.lst.injEq, Cell.dat.injEq, Cell.dic.injEq, PyData.int.injEq, PyData.bool.injEq, PyData.list.injEq, PyData.tuple.injEq, PyData.str.injEq, reduceCtorEq, false_and, and_false, exists_false, false_or, or_false, if_true, if_false, reduceIte, Bool.false_eq_true, Nat.reduceAdd, Nat.reduceSub, Nat.succ_sub_succ, Nat.zero_add, VL.gP, List.filterMap_cons, List.filterMap_nil, List.cons.injEq, VL.wDisp0, VL.wDisp, VL.wPairs, VL.oLcm, VL.wPop, VL.wRevM, VL.wClearM, VL.wTupRg, VL.wListRg, VL.wR1, VL.wR2, VL.wRevN, VL.oRepT, VL.oRepL]
      exact ⟨by decide, h⟩
  exact ⟨by decide, go⟩
theorem h_walk (ρ : En) (Q : RV → En → Prop) (h : S_walk ρ Q) : t_walk (endsX 2 Q) (ρ ++ List.replicate (8 - 2) .un) := by
  obtain ⟨M, l, ts, rfl, ok, T, bad, good⟩ := h
  unfold t_walk
  refine seq_gen fun k hk => ?_
  simp only [VL.wSeq, VL.wNext, VL.wNever, VL.wAsg, VL.wSet, VL.wVar, VL.wFrz, VL.wC, VL.wOp, VL.wTest, VL.wNotT, VL.wAndT, VL.wOrT, VL.wAnd, VL.wOr, VL.wNot, VL.wIf, VL.wNil, VL.wCons, VL.wTup, VL.wLst, VL.wStay, VL.wNew, VL.wPar, VL.wAug, VL.wDrop, VL.wRet, VL.wRetN, VL.wRet0, VL.wIfS, VL.wBrk, VL.wCnt, VL.wGt, VL.wGs, VL.wCB, VL.wCBN, VL.wCall, VL.wCallN, VL.wCallIo, VL.wCallIoN, VL.wCallK, VL.wIsi, VL.wIsi2, VL.wApp, VL.wExt, VL.wIns, VL.wSetIt, VL.wNoPart, VL.wPart, VL.wSl, VL.wSlN, VL.wChain, VL.wNeg, VL.wDnew, VL.wDput, VL.wDget, VL.wDin, VL.wDnin, VL.wIndex, VL.wRev, VL.wParNE, VL.wParEN, VL.wPar3, VL.wYes, VL.wSeqOf, VL.wRng1, VL.wRng2, VL.oI, VL.oI0, VL.oLt, VL.oLe, VL.oGt, VL.oGe, VL.oSub, VL.oMul, VL.oFdiv, VL.oMod, VL.oPow, VL.oShl', VL.oAbs, VL.oMax2, VL.oMin2, VL.oGcd, VL.atI_0, VL.atI_1, VL.atI_2, VL.ixN_20, VL.ixN_21, and_assoc, VL.shp_int, VL.shp_bool, VL.shp_none, VL.eqv_int, VL.eqv_bool, VL.isiD, VL.tyD, String.reduceBEq, Bool.not_true, Bool.not_false, Bool.and_true, Bool.and_false, Bool.true_and, Bool.false_and, Bool.or_true, Bool.or_false, Bool.true_or, Bool.false_or, decide_true, decide_false, Bool.not_eq_true', Bool.not_eq_eq_eq_not, decide_eq_true_eq, decide_eq_false_iff_not, VL.oInt1, VL.oInt2, VL.oLen, VL.oToInt, VL.oAdd, VL.oEq, VL.oNe, VL.oIsN, VL.oIn, VL.itemD, VL.isN, VL.der, VL.ders, VL.dats, VL.ioA, VL.endsV, VL.retE, VL.keepC, Option.map, List.range_succ, List.range_zero, List.map_cons, List.map_nil, List.map_append, List.nil_append, List.cons_append, List.append_nil, List.replicate_zero, List.replicate_succ, List.length_cons, List.length_nil, Nat.sub_self, List.getElem?_cons_zero, List.getElem?_cons_succ, List.set_cons_zero, List.set_cons_succ, Option.some.injEq, exists_eq_left', exists_eq_left, exists_eq_right, exists_and_left, exists_and_right, and_true, true_and, CV.d.injEq, CV.loc.injEq, Cell.lst.injEq, Cell.dat.injEq, Cell.dic.injEq, PyData.int.injEq, PyData.bool.injEq, PyData.list.injEq, PyData.tuple.injEq, PyData.str.injEq, reduceCtorEq, false_and, and_false, exists_false, false_or, or_false, if_true, if_false, reduceIte, Bool.false_eq_true, Nat.reduceAdd, Nat.reduceSub, Nat.succ_sub_succ, Nat.zero_add, VL.gP, List.filterMap_cons, List.filterMap_nil, List.cons.injEq, VL.wDisp0, VL.wDisp, VL.wPairs, VL.oLcm, VL.wPop, VL.wRevM, VL.wClearM, VL.wTupRg, VL.wListRg, VL.wR1, VL.wR2, VL.wRevN, VL.oRepT, VL.oRepL, S_check_machine]
  refine ⟨M, rfl, ok, ?_⟩
  rw [hk]
  clear hk k
  refine seq_gen fun k hk => ?_
  have go : k [.dat (mcD M), .dat (seqD l (nsD ts)), .un, .un, .un, .un, .un, .un] := by
    rw [hk]
    clear hk k
    unfold mcD rsD at *
    refine seq_gen fun k hk => ?_
    simp only [VL.wSeq, VL.wNext, VL.wNever, VL.wAsg, VL.wSet, VL.wVar, VL.wFrz, VL.wC, VL.wOp, VL.wTest, VL.wNotT, VL.wAndT, VL.wOrT, VL.wAnd, VL.wOr, VL.wNot, VL.wIf, VL.wNil, VL.wCons, VL.wTup, VL.wLst, VL.wStay, VL.wNew, VL.wPar, VL.wAug, VL.wDrop, VL.wRet, VL.wRetN, VL.wRet0, VL.wIfS, VL.wBrk, VL.wCnt, VL.wGt, VL.wGs, VL.wCB, VL.wCBN, VL.wCall, VL.wCallN, VL.wCallIo, VL.wCallIoN, VL.wCallK, VL.wIsi, VL.wIsi2, VL.wApp, VL.wExt, VL.wIns, VL.wSetIt, VL.wNoPart, VL.wPart, VL.wSl, VL.wSlN, VL.wChain, VL.wNeg, VL.wDnew, VL.wDput, VL.wDget, VL.wDin, VL.wDnin, VL.wIndex, VL.wRev, VL.wParNE, VL.wParEN, VL.wPar3, VL.wYes, VL.wSeqOf, VL.wRng1, VL.wRng2, VL.oI, VL.oI0, VL.oLt, VL.oLe, VL.oGt, VL.oGe, VL.oSub, VL.oMul, VL.oFdiv, VL.oMod, VL.oPow, VL.oShl', VL.oAbs, VL.oMax2, VL.oMin2, VL.oGcd, VL.atI_0, VL.atI_1, VL.atI_2, VL.ixN_20, VL.ixN_21, and_assoc, VL.shp_int, VL.shp_bool, VL.shp_none, VL.eqv_int, VL.eqv_bool, VL.isiD, VL.tyD, String.reduceBEq, Bool.not_true, Bool.not_false, Bool.and_true, Bool.and_false, Bool.true_and, Bool.false_and, Bool.or_true, Bool.or_false, Bool.true_or, Bool.false_or, decide_true, decide_false, Bool.not_eq_true', Bool.not_eq_eq_eq_not, decide_eq_true_eq, decide_eq_false_iff_not, VL.oInt1, VL.oInt2, VL.oLen, VL.oToInt, VL.oAdd, VL.oEq, VL.oNe, VL.oIsN, VL.oIn, VL.itemD, VL.isN, VL.der, VL.ders, VL.dats, VL.ioA, VL.endsV, VL.retE, VL.keepC, Option.map, List.range_succ, List.range_zero, List.map_cons, List.map_nil, List.map_append, List.nil_append, List.cons_append, List.append_nil, List.replicate_zero, List.replicate_succ, List.length_cons, List.length_nil, Nat.sub_self, List.getElem?_cons_zero, List.getElem?_cons_succ, List.set_cons_zero, List.set_cons_succ, Option.some.injEq, exists_eq_left', exists_eq_left, exists_eq_right, exists_and_left, exists_and_right, and_true, true_and, CV.d.injEq, CV.loc.injEq, Cell.lst.injEq, Cell.dat.injEq, Cell.dic.injEq, PyData.int.injEq, PyData.bool.injEq, PyData.list.injEq, PyData.tuple.injEq, PyData.str.injEq, reduceCtorEq, false_and, and_false, exists_false, false_or, or_false, if_true, if_false, reduceIte, Bool.false_eq_true, Nat.reduceAdd, Nat.reduceSub, Nat.succ_sub_succ, Nat.zero_add, VL.gP, List.filterMap_cons, List.filterMap_nil, List.cons.injEq, VL.wDisp0, VL.wDisp, VL.wPairs, VL.oLcm, VL.wPop, VL.wRevM, VL.wClearM, VL.wTupRg, VL.wListRg, VL.wR1, VL.wR2, VL.wRevN, VL.oRepT, VL.oRepL]
    rw [hk]
    clear hk k
    refine seq_gen fun k hk => ?_
    have go : Fine M ts → k [.dat (.tuple [.int M.n, M.b.d, .tuple (M.rs.map rwD)]), .dat (seqD l (nsD ts)), .un, .un, .un, .dat (.int M.n), .dat M.b.d, .dat (.tuple (M.rs.map rwD))] := by
      intro fine
      have h := good fine
      clear bad good
      rw [hk]
      clear hk k
      refine seq_gen fun k hk => ?_
      simp only [VL.wSeq, VL.wNext, VL.wNever, VL.wAsg, VL.wSet, VL.wVar, VL.wFrz, VL.wC, VL.wOp, VL.wTest, VL.wNotT, VL.wAndT, VL.wOrT, VL.wAnd, VL.wOr, VL.wNot, VL.wIf, VL.wNil, VL.wCons, VL.wTup, VL.wLst, VL.wStay, VL.wNew, VL.wPar, VL.wAug, VL.wDrop, VL.wRet, VL.wRetN, VL.wRet0, VL.wIfS, VL.wBrk, VL.wCnt, VL.wGt, VL.wGs, VL.wCB, VL.wCBN, VL.wCall, VL.wCallN, VL.wCallIo, VL.wCallIoN, VL.wCallK, VL.wIsi, VL.wIsi2, VL.wApp, VL.wExt, VL.wIns, VL.wSetIt, VL.wNoPart, VL.wPart, VL.wSl, VL.wSlN, VL.wChain, VL.wNeg, VL.wDnew, VL.wDput, VL.wDget, VL.wDin, VL.wDnin, VL.wIndex, VL.wRev, VL.wParNE, VL.wParEN, VL.wPar3, VL.wYes, VL.wSeqOf, VL.wRng1, VL.wRng2, VL.oI, VL.oI0, VL.oLt, VL.oLe, VL.oGt, VL.oGe, VL.oSub, VL.oMul, VL.oFdiv, VL.oMod, VL.oPow, VL.oShl', VL.oAbs, VL.oMax2, VL.oMin2, VL.oGcd, VL.atI_0, VL.atI_1, VL.atI_2, VL.ixN_20, VL.ixN_21, and_assoc, VL.shp_int, VL.shp_bool, VL.shp_none, VL.eqv_int, VL.eqv_bool, VL.isiD, VL.tyD, String.reduceBEq, Bool.not_true, Bool.not_false, Bool.and_true, Bool.and_false, Bool.true_and, Bool.false_and, Bool.or_true, Bool.or_false, Bool.true_or, Bool.false_or, decide_true, decide_false, Bool.not_eq_true', Bool.not_eq_eq_eq_not, decide_eq_true_eq, decide_eq_false_iff_not, VL.oInt1, VL.oInt2, VL.oLen, VL.oToInt, VL.oAdd, VL.oEq, VL.oNe, VL.oIsN, VL.oIn, VL.itemD, VL.isN, VL.der, VL.ders, VL.dats, VL.ioA, VL.endsV, VL.retE, VL.keepC, Option.map, List.range_succ, List.range_zero, List.map_cons, List.map_nil, List.map_append, List.nil_append, List.cons_append, List.append_nil, List.replicate_zero, List.replicate_succ, List.length_cons, List.length_nil, Nat.sub_self, List.getElem?_cons_zero, List.getElem?_cons_succ, List.set_cons_zero, List.set_cons_succ, Option.some.injEq, exists_eq_left', exists_eq_left, exists_eq_right, exists_and_left, exists_and_right, and_true, true_and, CV.d.injEq, CV.loc.injEq, Cell.lst.injEq, Cell.dat.injEq, Cell.dic.injEq, PyData.int.injEq, PyData.bool.injEq, PyData.list.injEq, PyData.tuple.injEq, PyData.str.injEq, reduceCtorEq, false_and, and_false, exists_false, false_or, or_false, if_true, if_false, reduceIte, Bool.false_eq_true, Nat.reduceAdd, Nat.reduceSub, Nat.succ_sub_succ, Nat.zero_add, VL.gP, List.filterMap_cons, List.filterMap_nil, List.cons.injEq, VL.wDisp0, VL.wDisp, VL.wPairs, VL.oLcm, VL.wPop, VL.wRevM, VL.wClearM, VL.wTupRg, VL.wListRg, VL.wR1, VL.wR2, VL.wRevN, VL.oRepT, VL.oRepL]
      refine ⟨by decide, by decide, ?_⟩
      rw [hk]
      clear hk k
      refine seq_gen fun k hk => ?_
      simp only [VL.wSeq, VL.wNext, VL.wNever, VL.wAsg, VL.wSet, VL.wVar, VL.wFrz, VL.wC, VL.wOp, VL.wTest, VL.wNotT, VL.wAndT, VL.wOrT, VL.wAnd, VL.wOr, VL.wNot, VL.wIf, VL.wNil, VL.wCons, VL.wTup, VL.wLst, VL.wStay, VL.wNew, VL.wPar, VL.wAug, VL.wDrop, VL.wRet, VL.wRetN, VL.wRet0, VL.wIfS, VL.wBrk, VL.wCnt, VL.wGt, VL.wGs, VL.wCB, VL.wCBN, VL.wCall, VL.wCallN, VL.wCallIo, VL.wCallIoN, VL.wCallK, VL.wIsi, VL.wIsi2, VL.wApp, VL.wExt, VL.wIns, VL.wSetIt, VL.wNoPart, VL.wPart, VL.wSl, VL.wSlN, VL.wChain, VL.wNeg, VL.wDnew, VL.wDput, VL.wDget, VL.wDin, VL.wDnin, VL.wIndex, VL.wRev, VL.wParNE, VL.wParEN, VL.wPar3, VL.wYes, VL.wSeqOf, VL.wRng1, VL.wRng2, VL.oI, VL.oI0, VL.oLt, VL.oLe, VL.oGt, VL.oGe, VL.oSub, VL.oMul, VL.oFdiv, VL.oMod, VL.oPow, VL.oShl', VL.oAbs, VL.oMax2, VL.oMin2, VL.oGcd, VL.atI_0, VL.atI_1, VL.atI_2, VL.ixN_20, VL.ixN_21, and_assoc, VL.shp_int, VL.shp_bool, VL.shp_none, VL.eqv_int, VL.eqv_bool, VL.isiD, VL.tyD, String.reduceBEq, Bool.not_true, Bool.not_false, Bool.and_true, Bool.and_false, Bool.true_and, Bool.false_and, Bool.or_true, Bool.or_false, Bool.true_or, Bool.false_or, decide_true, decide_false, Bool.not_eq_true', Bool.not_eq_eq_eq_not, decide_eq_true_eq, decide_eq_false_iff_not, VL.oInt1, VL.oInt2, VL.oLen, VL.oToInt, VL.oAdd, VL.oEq, VL.oNe, VL.oIsN, VL.oIn, VL.itemD, VL.isN, VL.der, VL.ders, VL.dats, VL.ioA, VL.endsV, VL.retE, VL.keepC, Option.map, List.range_succ, List.range_zero, List.map_cons, List.map_nil, List.map_append, List.nil_append, List.cons_append, List.append_nil, List.replicate_zero, List.replicate_succ, List.length_cons, List.length_nil, Nat.sub_self, List.getElem?_cons_zero, List.getElem?_cons_succ, List.set_cons_zero, List.set_cons_succ, Option.some.injEq, exists_eq_left', exists_eq_left, exists_eq_right, exists_and_left, exists_and_right, and_true, true_and, CV.d.injEq, CV.loc.injEq, Cell.lst.injEq, Cell.dat.injEq, Cell.dic.injEq, PyData.int.injEq, PyData.bool.injEq, PyData.list.injEq, PyData.tuple.injEq, PyData.str.injEq, reduceCtorEq, false_and, and_false, exists_false, false_or, or_false, if_true, if_false, reduceIte, Bool.false_eq_true, Nat.reduceAdd, Nat.reduceSub, Nat.succ_sub_succ, Nat.zero_add, VL.gP, List.filterMap_cons, List.filterMap_nil, List.cons.injEq, VL.wDisp0, VL.wDisp, VL.wPairs, VL.oLcm, VL.wPop, VL.wRevM, VL.wClearM, VL.wTupRg, VL.wListRg, VL.wR1, VL.wR2, VL.wRevN, VL.oRepT, VL.oRepL]
      rw [hk]
      clear hk k
      refine seq_gen fun k hk => ?_
      refine for_body fun B hB => ?_
      unfold wFor
      refine seq_of (l := l) rfl ⟨fun i ρ => ∃ c, ρ = [.dat (.tuple [.int M.n, M.b.d, .tuple (M.rs.map rwD)]), .dat (seqD l (nsD ts)), .lst false (nsD (wlk M (ts.take i)).1), .dat (wlk M (ts.take i)).2.d, c, .dat (.int M.n), .dat M.b.d, .dat (.tuple (M.rs.map rwD))], ⟨_, rfl⟩, ?_, ?_⟩
      · rintro i ρ d ⟨c, rfl⟩ hd
        obtain ⟨t, rfl, ht, m⟩ := ns_at hd
        have lt := T.lt t m
        have hb : M.b.to = true := by
          rcases fine with z | z
          · exact z
          · rw [z] at ht
            cases ht
        obtain ⟨p1, p2⟩ := wlk_inv ok hb (ts.take i)
        have ll := wlk_len M (ts.take i)
        rw [List.length_take] at ll
        have tl := T.len
        have nx := wlk_snoc M (ts.take i) t
        rw [← take_at ht] at nx
        generalize wlk M (ts.take i) = a at *
        simp only [VL.wSeq, VL.wNext, VL.wNever, VL.wAsg, VL.wSet, VL.wVar, VL.wFrz, VL.wC, VL.wOp, VL.wTest, VL.wNotT, VL.wAndT, VL.wOrT, VL.wAnd, VL.wOr, VL.wNot, VL.wIf, VL.wNil, VL.wCons, VL.wTup, VL.wLst, VL.wStay, VL.wNew, VL.wPar, VL.wAug, VL.wDrop, VL.wRet, VL.wRetN, VL.wRet0, VL.wIfS, VL.wBrk, VL.wCnt, VL.wGt, VL.wGs, VL.wCB, VL.wCBN, VL.wCall, VL.wCallN, VL.wCallIo, VL.wCallIoN, VL.wCallK, VL.wIsi, VL.wIsi2, VL.wApp, VL.wExt, VL.wIns, VL.wSetIt, VL.wNoPart, VL.wPart, VL.wSl, VL.wSlN, VL.wChain, VL.wNeg, VL.wDnew, VL.wDput, VL.wDget, VL.wDin, VL.wDnin, VL.wIndex, VL.wRev, VL.wParNE, VL.wParEN, VL.wPar3, VL.wYes, VL.wSeqOf, VL.wRng1, VL.wRng2, VL.oI, VL.oI0, VL.oLt, VL.oLe, VL.oGt, VL.oGe, VL.oSub, VL.oMul, VL.oFdiv, VL.oMod, VL.oPow, VL.oShl', VL.oAbs, VL.oMax2, VL.oMin2, VL.oGcd, VL.atI_0, VL.atI_1, VL.atI_2, VL.ixN_20, VL.ixN_21, and_assoc, VL.shp_int, VL.shp_bool, VL.shp_none, VL.eqv_int, VL.eqv_bool, VL.isiD, VL.tyD, String.reduceBEq, Bool.not_true, Bool.not_false, Bool.and_true, Bool.and_false, Bool.true_and, Bool.false_and, Bool.or_true, Bool.or_false, Bool.true_or, Bool.false_or, decide_true, decide_false, Bool.not_eq_true', Bool.not_eq_eq_eq_not, decide_eq_true_eq, decide_eq_false_iff_not, VL.oInt1, VL.oInt2, VL.oLen, VL.oToInt, VL.oAdd, VL.oEq, VL.oNe, VL.oIsN, VL.oIn, VL.itemD, VL.isN, VL.der, VL.ders, VL.dats, VL.ioA, VL.endsV, VL.retE, VL.keepC, Option.map, List.range_succ, List.range_zero, List.map_cons, List.map_nil, List.map_append, List.nil_append, List.cons_append, List.append_nil, List.replicate_zero, List.replicate_succ, List.length_cons, List.length_nil, Nat.sub_self, List.getElem?_cons_zero, List.getElem?_cons_succ, List.set_cons_zero, List.set_cons_succ, Option.some.injEq, exists_eq_left', exists_eq_left, exists_eq_right, exists_and_left, exists_and_right, and_true, true_and, CV.d.injEq, CV.loc.injEq, Cell.lst.injEq, Cell.dat.injEq, Cell.dic.injEq, PyData.int.injEq, PyData.bool.injEq, PyData.list.injEq, PyData.tuple.injEq, PyData.str.injEq, reduceCtorEq, false_and, and_false, exists_false, false_or, or_false, if_true, if_false, reduceIte, Bool.false_eq_true, Nat.reduceAdd, Nat.reduceSub, Nat.succ_sub_succ, Nat.zero_add, VL.gP, List.filterMap_cons, List.filterMap_nil, List.cons.injEq, VL.wDisp0, VL.wDisp, VL.wPairs, VL.oLcm, VL.wPop, VL.wRevM, VL.wClearM, VL.wTupRg, VL.wListRg, VL.wR1, VL.wR2, VL.wRevN, VL.oRepT, VL.oRepL]
        rw [hB]
        refine seq_gen fun k2 hk2 => ?_
        simp only [VL.wSeq, VL.wNext, VL.wNever, VL.wAsg, VL.wSet, VL.wVar, VL.wFrz, VL.wC, VL.wOp, VL.wTest, VL.wNotT, VL.wAndT, VL.wOrT, VL.wAnd, VL.wOr, VL.wNot, VL.wIf, VL.wNil, VL.wCons, VL.wTup, VL.wLst, VL.wStay, VL.wNew, VL.wPar, VL.wAug, VL.wDrop, VL.wRet, VL.wRetN, VL.wRet0, VL.wIfS, VL.wBrk, VL.wCnt, VL.wGt, VL.wGs, VL.wCB, VL.wCBN, VL.wCall, VL.wCallN, VL.wCallIo, VL.wCallIoN, VL.wCallK, VL.wIsi, VL.wIsi2, VL.wApp, VL.wExt, VL.wIns, VL.wSetIt, VL.wNoPart, VL.wPart, VL.wSl, VL.wSlN, VL.wChain, VL.wNeg, VL.wDnew, VL.wDput, VL.wDget, VL.wDin, VL.wDnin, VL.wIndex, VL.wRev, VL.wParNE, VL.wParEN, VL.wPar3, VL.wYes, VL.wSeqOf, VL.wRng1, VL.wRng2, VL.oI, VL.oI0, VL.oLt, VL.oLe, VL.oGt, VL.oGe, VL.oSub, VL.oMul, VL.oFdiv, VL.oMod, VL.oPow, VL.oShl', VL.oAbs, VL.oMax2, VL.oMin2, VL.oGcd, VL.atI_0, VL.atI_1, VL.atI_2, VL.ixN_20, VL.ixN_21, and_assoc, VL.shp_int, VL.shp_bool, VL.shp_none, VL.eqv_int, VL.eqv_bool, VL.isiD, VL.tyD, String.reduceBEq, Bool.not_true, Bool.not_false, Bool.and_true, Bool.and_false, Bool.true_and, Bool.false_and, Bool.or_true, Bool.or_false, Bool.true_or, Bool.false_or, decide_true, decide_false, Bool.not_eq_true', Bool.not_eq_eq_eq_not, decide_eq_true_eq, decide_eq_false_iff_not, VL.oInt1, VL.oInt2, VL.oLen, VL.oToInt, VL.oAdd, VL.oEq, VL.oNe, VL.oIsN, VL.oIn, VL.itemD, VL.isN, VL.der, VL.ders, VL.dats, VL.ioA, VL.endsV, VL.retE, VL.keepC, Option.map, List.range_succ, List.range_zero, List.map_cons, List.map_nil, List.map_append, List.nil_append, List.cons_append, List.append_nil, List.replicate_zero, List.replicate_succ, List.length_cons, List.length_nil, Nat.sub_self, List.getElem?_cons_zero, List.getElem?_cons_succ, List.set_cons_zero, List.set_cons_succ, Option.some.injEq, exists_eq_left', exists_eq_left, exists_eq_right, exists_and_left, exists_and_right, and_true, true_and, CV.d.injEq, CV.loc.injEq, Cell.lst.injEq, Cell.dat.injEq, Cell.dic.injEq, PyData.int.injEq, PyData.bool.injEq, PyData.list.injEq, PyData.tuple.injEq, PyData.str.injEq, reduceCtorEq, false_and, and_false, exists_false, false_or, or_false, if_true, if_false, reduceIte, Bool.false_eq_true, Nat.reduceAdd, Nat.reduceSub, Nat.succ_sub_succ, Nat.zero_add, VL.gP, List.filterMap_cons, List.filterMap_nil, List.cons.injEq, VL.wDisp0, VL.wDisp, VL.wPairs, VL.oLcm, VL.wPop, VL.wRevM, VL.wClearM, VL.wTupRg, VL.wListRg, VL.wR1, VL.wR2, VL.wRevN, VL.oRepT, VL.oRepL, Pl.d]
        refine ⟨_, nx_at M p1 p2, ?_⟩
        simp only [VL.wSeq, VL.wNext, VL.wNever, VL.wAsg, VL.wSet, VL.wVar, VL.wFrz, VL.wC, VL.wOp, VL.wTest, VL.wNotT, VL.wAndT, VL.wOrT, VL.wAnd, VL.wOr, VL.wNot, VL.wIf, VL.wNil, VL.wCons, VL.wTup, VL.wLst, VL.wStay, VL.wNew, VL.wPar, VL.wAug, VL.wDrop, VL.wRet, VL.wRetN, VL.wRet0, VL.wIfS, VL.wBrk, VL.wCnt, VL.wGt, VL.wGs, VL.wCB, VL.wCBN, VL.wCall, VL.wCallN, VL.wCallIo, VL.wCallIoN, VL.wCallK, VL.wIsi, VL.wIsi2, VL.wApp, VL.wExt, VL.wIns, VL.wSetIt, VL.wNoPart, VL.wPart, VL.wSl, VL.wSlN, VL.wChain, VL.wNeg, VL.wDnew, VL.wDput, VL.wDget, VL.wDin, VL.wDnin, VL.wIndex, VL.wRev, VL.wParNE, VL.wParEN, VL.wPar3, VL.wYes, VL.wSeqOf, VL.wRng1, VL.wRng2, VL.oI, VL.oI0, VL.oLt, VL.oLe, VL.oGt, VL.oGe, VL.oSub, VL.oMul, VL.oFdiv, VL.oMod, VL.oPow, VL.oShl', VL.oAbs, VL.oMax2, VL.oMin2, VL.oGcd, VL.atI_0, VL.atI_1, VL.atI_2, VL.ixN_20, VL.ixN_21, and_assoc, VL.shp_int, VL.shp_bool, VL.shp_none, VL.eqv_int, VL.eqv_bool, VL.isiD, VL.tyD, String.reduceBEq, Bool.not_true, Bool.not_false, Bool.and_true, Bool.and_false, Bool.true_and, Bool.false_and, Bool.or_true, Bool.or_false, Bool.true_or, Bool.false_or, decide_true, decide_false, Bool.not_eq_true', Bool.not_eq_eq_eq_not, decide_eq_true_eq, decide_eq_false_iff_not, VL.oInt1, VL.oInt2, VL.oLen, VL.oToInt, VL.oAdd, VL.oEq, VL.oNe, VL.oIsN, VL.oIn, VL.itemD, VL.isN, VL.der, VL.ders, VL.dats, VL.ioA, VL.endsV, VL.retE, VL.keepC, Option.map, List.range_succ, List.range_zero, List.map_cons, List.map_nil, List.map_append, List.nil_append, List.cons_append, List.append_nil, List.replicate_zero, List.replicate_succ, List.length_cons, List.length_nil, Nat.sub_self, List.getElem?_cons_zero, List.getElem?_cons_succ, List.set_cons_zero, List.set_cons_succ, Option.some.injEq, exists_eq_left', exists_eq_left, exists_eq_right, exists_and_left, exists_and_right, and_true, true_and, CV.d.injEq, CV.loc.injEq, Cell.lst.injEq, Cell.dat.injEq, Cell.dic.injEq, PyData.int.injEq, PyData.bool.injEq, PyData.list.injEq, PyData.tuple.injEq, PyData.str.injEq, reduceCtorEq, false_and, and_false, exists_false, false_or, or_false, if_true, if_false, reduceIte, Bool.false_eq_true, Nat.reduceAdd, Nat.reduceSub, Nat.succ_sub_succ, Nat.zero_add, VL.gP, List.filterMap_cons, List.filterMap_nil, List.cons.injEq, VL.wDisp0, VL.wDisp, VL.wPairs, VL.oLcm, VL.wPop, VL.wRevM, VL.wClearM, VL.wTupRg, VL.wListRg, VL.wR1, VL.wR2, VL.wRevN, VL.oRepT, VL.oRepL, rwD]
        refine ⟨_, nx_ix M a.2 lt, ?_⟩
        rw [hk2]
        clear hk2 k2
        unfold stp at nx
        generalize M.next a.2 t = q at *
        simp only [VL.wSeq, VL.wNext, VL.wNever, VL.wAsg, VL.wSet, VL.wVar, VL.wFrz, VL.wC, VL.wOp, VL.wTest, VL.wNotT, VL.wAndT, VL.wOrT, VL.wAnd, VL.wOr, VL.wNot, VL.wIf, VL.wNil, VL.wCons, VL.wTup, VL.wLst, VL.wStay, VL.wNew, VL.wPar, VL.wAug, VL.wDrop, VL.wRet, VL.wRetN, VL.wRet0, VL.wIfS, VL.wBrk, VL.wCnt, VL.wGt, VL.wGs, VL.wCB, VL.wCBN, VL.wCall, VL.wCallN, VL.wCallIo, VL.wCallIoN, VL.wCallK, VL.wIsi, VL.wIsi2, VL.wApp, VL.wExt, VL.wIns, VL.wSetIt, VL.wNoPart, VL.wPart, VL.wSl, VL.wSlN, VL.wChain, VL.wNeg, VL.wDnew, VL.wDput, VL.wDget, VL.wDin, VL.wDnin, VL.wIndex, VL.wRev, VL.wParNE, VL.wParEN, VL.wPar3, VL.wYes, VL.wSeqOf, VL.wRng1, VL.wRng2, VL.oI, VL.oI0, VL.oLt, VL.oLe, VL.oGt, VL.oGe, VL.oSub, VL.oMul, VL.oFdiv, VL.oMod, VL.oPow, VL.oShl', VL.oAbs, VL.oMax2, VL.oMin2, VL.oGcd, VL.atI_0, VL.atI_1, VL.atI_2, VL.ixN_20, VL.ixN_21, and_assoc, VL.shp_int, VL.shp_bool, VL.shp_none, VL.eqv_int, VL.eqv_bool, VL.isiD, VL.tyD, String.reduceBEq, Bool.not_true, Bool.not_false, Bool.and_true, Bool.and_false, Bool.true_and, Bool.false_and, Bool.or_true, Bool.or_false, Bool.true_or, Bool.false_or, decide_true, decide_false, Bool.not_eq_true', Bool.not_eq_eq_eq_not, decide_eq_true_eq, decide_eq_false_iff_not, VL.oInt1, VL.oInt2, VL.oLen, VL.oToInt, VL.oAdd, VL.oEq, VL.oNe, VL.oIsN, VL.oIn, VL.itemD, VL.isN, VL.der, VL.ders, VL.dats, VL.ioA, VL.endsV, VL.retE, VL.keepC, Option.map, List.range_succ, List.range_zero, List.map_cons, List.map_nil, List.map_append, List.nil_append, List.cons_append, List.append_nil, List.replicate_zero, List.replicate_succ, List.length_cons, List.length_nil, Nat.sub_self, List.getElem?_cons_zero, List.getElem?_cons_succ, List.set_cons_zero, List.set_cons_succ, Option.some.injEq, exists_eq_left', exists_eq_left, exists_eq_right, exists_and_left, exists_and_right, and_true, true_and, CV.d.injEq, CV.loc.injEq, Cell.lst.injEq, Cell.dat.injEq, Cell.dic.injEq, PyData.int.injEq, PyData.bool.injEq, PyData.list.injEq, PyData.tuple.injEq, PyData.str.injEq, reduceCtorEq, false_and, and_false, exists_false, false_or, or_false, if_true, if_false, reduceIte, Bool.false_eq_true, Nat.reduceAdd, Nat.reduceSub, Nat.succ_sub_succ, Nat.zero_add, VL.gP, List.filterMap_cons, List.filterMap_nil, List.cons.injEq, VL.wDisp0, VL.wDisp, VL.wPairs, VL.oLcm, VL.wPop, VL.wRevM, VL.wClearM, VL.wTupRg, VL.wListRg, VL.wR1, VL.wR2, VL.wRevN, VL.oRepT, VL.oRepL, Pl.d, w_is]
        refine ⟨shp_w _, shp_is, ?_⟩
        rw [nx]
        cases e : q.to
        · simp only [if_true, if_false, Bool.false_eq_true]
          exact ⟨⟨_, rfl⟩, small_size (by rw [nsD_len]; omega), (nsD_snoc _ _).symm, trivial, trivial, _, rfl⟩
        · simp only [if_true, if_false, Bool.true_eq_false]
          exact ⟨trivial, trivial, trivial, _, rfl⟩
      · rintro ρ ⟨c, rfl⟩
        rw [nsD_len, List.take_length]
        show k _
        rw [hk]
        simp only [VL.wSeq, VL.wNext, VL.wNever, VL.wAsg, VL.wSet, VL.wVar, VL.wFrz, VL.wC, VL.wOp, VL.wTest, VL.wNotT, VL.wAndT, VL.wOrT, VL.wAnd, VL.wOr, VL.wNot, VL.wIf, VL.wNil, VL.wCons, VL.wTup, VL.wLst, VL.wStay, VL.wNew, VL.wPar, VL.wAug, VL.wDrop, VL.wRet, VL.wRetN, VL.wRet0, VL.wIfS, VL.wBrk, VL.wCnt, VL.wGt, VL.wGs, VL.wCB, VL.wCBN, VL.wCall, VL.wCallN, VL.wCallIo, VL.wCallIoN, VL.wCallK, VL.wIsi, VL.wIsi2, VL.wApp, VL.wExt, VL.wIns, VL.wSetIt, VL.wNoPart, VL.wPart, VL.wSl, VL.wSlN, VL.wChain, VL.wNeg, VL.wDnew, VL.wDput, VL.wDget, VL.wDin, VL.wDnin, VL.wIndex, VL.wRev, VL.wParNE, VL.wParEN, VL.wPar3, VL.wYes, VL.wSeqOf, VL.wRng1, VL.wRng2, VL.oI, VL.oI0, VL.oLt, VL.oLe, VL.oGt, VL.oGe, VL.oSub, VL.oMul, VL.oFdiv, VL.oMod, VL.oPow, VL.oShl', VL.oAbs, VL.oMax2, VL.oMin2, VL.oGcd, VL.atI_0, VL.atI_1, VL.atI_2, VL.ixN_20, VL.ixN_21, and_assoc, VL.shp_int, VL.shp_bool, VL.shp_none, VL.eqv_int, VL.eqv_bool, VL.isiD, VL.tyD, String.reduceBEq, Bool.not_true, Bool.not_false, Bool.and_true, Bool.and_false, Bool.true_and, Bool.false_and, Bool.or_true, Bool.or_false, Bool.true_or, Bool.false_or, decide_true, decide_false, Bool.not_eq_true', Bool.not_eq_eq_eq_not, decide_eq_true_eq, decide_eq_false_iff_not, VL.oInt1, VL.oInt2, VL.oLen, VL.oToInt, VL.oAdd, VL.oEq, VL.oNe, VL.oIsN, VL.oIn, VL.itemD, VL.isN, VL.der, VL.ders, VL.dats, VL.ioA, VL.endsV, VL.retE, VL.keepC, Option.map, List.range_succ, List.range_zero, List.map_cons, List.map_nil, List.map_append, List.nil_append, List.cons_append, List.append_nil, List.replicate_zero, List.replicate_succ, List.length_cons, List.length_nil, Nat.sub_self, List.getElem?_cons_zero, List.getElem?_cons_succ, List.set_cons_zero, List.set_cons_succ, Option.some.injEq, exists_eq_left', exists_eq_left, exists_eq_right, exists_and_left, exists_and_right, and_true, true_and, CV.d.injEq, CV.loc.injEq, Cell.lst.injEq, Cell.dat.injEq, Cell.dic.injEq, PyData.int.injEq, PyData.bool.injEq, PyData.list.injEq, PyData.tuple.injEq, PyData.str.injEq, reduceCtorEq, false_and, and_false, exists_false, false_or, or_false, if_true, if_false, reduceIte, Bool.false_eq_true, Nat.reduceAdd, Nat.reduceSub, Nat.succ_sub_succ, Nat.zero_add, VL.gP, List.filterMap_cons, List.filterMap_nil, List.cons.injEq, VL.wDisp0, VL.wDisp, VL.wPairs, VL.oLcm, VL.wPop, VL.wRevM, VL.wClearM, VL.wTupRg, VL.wListRg, VL.wR1, VL.wR2, VL.wRevN, VL.oRepT, VL.oRepL]
        exact ⟨by decide, h⟩
    clear hk
    simp only [VL.wSeq, VL.wNext, VL.wNever, VL.wAsg, VL.wSet, VL.wVar, VL.wFrz, VL.wC, VL.wOp, VL.wTest, VL.wNotT, VL.wAndT, VL.wOrT, VL.wAnd, VL.wOr, VL.wNot, VL.wIf, VL.wNil, VL.wCons, VL.wTup, VL.wLst, VL.wStay, VL.wNew, VL.wPar, VL.wAug, VL.wDrop, VL.wRet, VL.wRetN, VL.wRet0, VL.wIfS, VL.wBrk, VL.wCnt, VL.wGt, VL.wGs, VL.wCB, VL.wCBN, VL.wCall, VL.wCallN, VL.wCallIo, VL.wCallIoN, VL.wCallK, VL.wIsi, VL.wIsi2, VL.wApp, VL.wExt, VL.wIns, VL.wSetIt, VL.wNoPart, VL.wPart, VL.wSl, VL.wSlN, VL.wChain, VL.wNeg, VL.wDnew, VL.wDput, VL.wDget, VL.wDin, VL.wDnin, VL.wIndex, VL.wRev, VL.wParNE, VL.wParEN, VL.wPar3, VL.wYes, VL.wSeqOf, VL.wRng1, VL.wRng2, VL.oI, VL.oI0, VL.oLt, VL.oLe, VL.oGt, VL.oGe, VL.oSub, VL.oMul, VL.oFdiv, VL.oMod, VL.oPow, VL.oShl', VL.oAbs, VL.oMax2, VL.oMin2, VL.oGcd, VL.atI_0, VL.atI_1, VL.atI_2, VL.ixN_20, VL.ixN_21, and_assoc, VL.shp_int, VL.shp_bool, VL.shp_none, VL.eqv_int, VL.eqv_bool, VL.isiD, VL.tyD, String.reduceBEq, Bool.not_true, Bool.not_false, Bool.and_true, Bool.and_false, Bool.true_and, Bool.false_and, Bool.or_true, Bool.or_false, Bool.true_or, Bool.false_or, decide_true, decide_false, Bool.not_eq_true', Bool.not_eq_eq_eq_not, decide_eq_true_eq, decide_eq_false_iff_not, VL.oInt1, VL.oInt2, VL.oLen, VL.oToInt, VL.oAdd, VL.oEq, VL.oNe, VL.oIsN, VL.oIn, VL.itemD, VL.isN, VL.der, VL.ders, VL.dats, VL.ioA, VL.endsV, VL.retE, VL.keepC, Option.map, List.range_succ, List.range_zero, List.map_cons, List.map_nil, List.map_append, List.nil_append, List.cons_append, List.append_nil, List.replicate_zero, List.replicate_succ, List.length_cons, List.length_nil, Nat.sub_self, List.getElem?_cons_zero, List.getElem?_cons_succ, List.set_cons_zero, List.set_cons_succ, Option.some.injEq, exists_eq_left', exists_eq_left, exists_eq_right, exists_and_left, exists_and_right, and_true, true_and, CV.d.injEq, CV.loc.injEq, Cell.lst.injEq, Cell.dat.injEq, Cell.dic.injEq, PyData.int.injEq, PyData.bool.injEq, PyData.list.injEq, PyData.tuple.injEq, PyData.str.injEq, reduceCtorEq, false_and, and_false, exists_false, false_or, or_false, if_true, if_false, reduceIte, Bool.false_eq_true, Nat.reduceAdd, Nat.reduceSub, Nat.succ_sub_succ, Nat.zero_add, VL.gP, List.filterMap_cons, List.filterMap_nil, List.cons.injEq, VL.wDisp0, VL.wDisp, VL.wPairs, VL.oLcm, VL.wPop, VL.wRevM, VL.wClearM, VL.wTupRg, VL.wListRg, VL.wR1, VL.wR2, VL.wRevN, VL.oRepT, VL.oRepL, Pl.d, w_is]
    refine ⟨shp_w _, shp_is, ?_⟩
    cases e : M.b.to
    · have ln : 0 < ((nsD ts).length : Int) ↔ ts ≠ [] := by
        rw [nsD_len]
        constructor
        · rintro h rfl
          simp at h
        · intro h
          have := List.length_pos_iff.mpr h
          omega
      simp only [if_true]
      by_cases z : ts = []
      · have ln' : ¬ 0 < ((nsD ts).length : Int) := fun h => (ln.mp h) z
        cases l
        · show if 0 < ((nsD ts).length : Int) then _ else _
          rw [if_neg ln']
          exact go (.inr z)
        · show if 0 < ((nsD ts).length : Int) then _ else _
          rw [if_neg ln']
          exact go (.inr z)
      · have q := bad e z
        cases l
        · show if 0 < ((nsD ts).length : Int) then _ else _
          rw [if_pos (ln.mpr z)]
          simp only [VL.wSeq, VL.wNext, VL.wNever, VL.wAsg, VL.wSet, VL.wVar, VL.wFrz, VL.wC, VL.wOp, VL.wTest, VL.wNotT, VL.wAndT, VL.wOrT, VL.wAnd, VL.wOr, VL.wNot, VL.wIf, VL.wNil, VL.wCons, VL.wTup, VL.wLst, VL.wStay, VL.wNew, VL.wPar, VL.wAug, VL.wDrop, VL.wRet, VL.wRetN, VL.wRet0, VL.wIfS, VL.wBrk, VL.wCnt, VL.wGt, VL.wGs, VL.wCB, VL.wCBN, VL.wCall, VL.wCallN, VL.wCallIo, VL.wCallIoN, VL.wCallK, VL.wIsi, VL.wIsi2, VL.wApp, VL.wExt, VL.wIns, VL.wSetIt, VL.wNoPart, VL.wPart, VL.wSl, VL.wSlN, VL.wChain, VL.wNeg, VL.wDnew, VL.wDput, VL.wDget, VL.wDin, VL.wDnin, VL.wIndex, VL.wRev, VL.wParNE, VL.wParEN, VL.wPar3, VL.wYes, VL.wSeqOf, VL.wRng1, VL.wRng2, VL.oI, VL.oI0, VL.oLt, VL.oLe, VL.oGt, VL.oGe, VL.oSub, VL.oMul, VL.oFdiv, VL.oMod, VL.oPow, VL.oShl', VL.oAbs, VL.oMax2, VL.oMin2, VL.oGcd, VL.atI_0, VL.atI_1, VL.atI_2, VL.ixN_20, VL.ixN_21, and_assoc, VL.shp_int, VL.shp_bool, VL.shp_none, VL.eqv_int, VL.eqv_bool, VL.isiD, VL.tyD, String.reduceBEq, Bool.not_true, Bool.not_false, Bool.and_true, Bool.and_false, Bool.true_and, Bool.false_and, Bool.or_true, Bool.or_false, Bool.true_or, Bool.false_or, decide_true, decide_false, Bool.not_eq_true', Bool.not_eq_eq_eq_not, decide_eq_true_eq, decide_eq_false_iff_not, VL.oInt1, VL.oInt2, VL.oLen, VL.oToInt, VL.oAdd, VL.oEq, VL.oNe, VL.oIsN, VL.oIn, VL.itemD, VL.isN, VL.der, VL.ders, VL.dats, VL.ioA, VL.endsV, VL.retE, VL.keepC, Option.map, List.range_succ, List.range_zero, List.map_cons, List.map_nil, List.map_append, List.nil_append, List.cons_append, List.append_nil, List.replicate_zero, List.replicate_succ, List.length_cons, List.length_nil, Nat.sub_self, List.getElem?_cons_zero, List.getElem?_cons_succ, List.set_cons_zero, List.set_cons_succ, Option.some.injEq, exists_eq_left', exists_eq_left, exists_eq_right, exists_and_left, exists_and_right, and_true, true_and, CV.d.injEq, CV.loc.injEq, Cell.lst.injEq, Cell.dat.injEq, Cell.dic.injEq, PyData.int.injEq, PyData.bool.injEq, PyData.list.injEq, PyData.tuple.injEq, PyData.str.injEq, reduceCtorEq, false_and, and_false, exists_false, false_or, or_false, if_true, if_false, reduceIte, Bool.false_eq_true, Nat.reduceAdd, Nat.reduceSub, Nat.succ_sub_succ, Nat.zero_add, VL.gP, List.filterMap_cons, List.filterMap_nil, List.cons.injEq, VL.wDisp0, VL.wDisp, VL.wPairs, VL.oLcm, VL.wPop, VL.wRevM, VL.wClearM, VL.wTupRg, VL.wListRg, VL.wR1, VL.wR2, VL.wRevN, VL.oRepT, VL.oRepL, wRaise, endsX, seqD]
          exact q
        · show if 0 < ((nsD ts).length : Int) then _ else _
          rw [if_pos (ln.mpr z)]
          simp only [VL.wSeq, VL.wNext, VL.wNever, VL.wAsg, VL.wSet, VL.wVar, VL.wFrz, VL.wC, VL.wOp, VL.wTest, VL.wNotT, VL.wAndT, VL.wOrT, VL.wAnd, VL.wOr, VL.wNot, VL.wIf, VL.wNil, VL.wCons, VL.wTup, VL.wLst, VL.wStay, VL.wNew, VL.wPar, VL.wAug, VL.wDrop, VL.wRet, VL.wRetN, VL.wRet0, VL.wIfS, VL.wBrk, VL.wCnt, VL.wGt, VL.wGs, VL.wCB, VL.wCBN, VL.wCall, VL.wCallN, VL.wCallIo, VL.wCallIoN, VL.wCallK, VL.wIsi, VL.wIsi2, VL.wApp, VL.wExt, VL.wIns, VL.wSetIt, VL.wNoPart, VL.wPart, VL.wSl, VL.wSlN, VL.wChain, VL.wNeg, VL.wDnew, VL.wDput, VL.wDget, VL.wDin, VL.wDnin, VL.wIndex, VL.wRev, VL.wParNE, VL.wParEN, VL.wPar3, VL.wYes, VL.wSeqOf, VL.wRng1, VL.wRng2, VL.oI, VL.oI0, VL.oLt, VL.oLe, VL.oGt, VL.oGe, VL.oSub, VL.oMul, VL.oFdiv, VL.oMod, VL.oPow, VL.oShl', VL.oAbs, VL.oMax2, VL.oMin2, VL.oGcd, VL.atI_0, VL.atI_1, VL.atI_2, VL.ixN_20, VL.ixN_21, and_assoc, VL.shp_int, VL.shp_bool, VL.shp_none, VL.eqv_int, VL.eqv_bool, VL.isiD, VL.tyD, String.reduceBEq, Bool.not_true, Bool.not_false, Bool.and_true, Bool.and_false, Bool.true_and, Bool.false_and, Bool.or_true, Bool.or_false, Bool.true_or, Bool.false_or, decide_true, decide_false, Bool.not_eq_true', Bool.not_eq_eq_eq_not, decide_eq_true_eq, decide_eq_false_iff_not, VL.oInt1, VL.oInt2, VL.oLen, VL.oToInt, VL.oAdd, VL.oEq, VL.oNe, VL.oIsN, VL.oIn, VL.itemD, VL.isN, VL.der, VL.ders, VL.dats, VL.ioA, VL.endsV, VL.retE, VL.keepC, Option.map, List.range_succ, List.range_zero, List.map_cons, List.map_nil, List.map_append, List.nil_append, List.cons_append, List.append_nil, List.replicate_zero, List.replicate_succ, List.length_cons, List.length_nil, Nat.sub_self, List.getElem?_cons_zero, List.getElem?_cons_succ, List.set_cons_zero, List.set_cons_succ, Option.some.injEq, exists_eq_left', exists_eq_left, exists_eq_right, exists_and_left, exists_and_right, and_true, true_and, CV.d.injEq, CV.loc.injEq, Cell.lst.injEq, Cell.dat.injEq, Cell.dic.injEq, PyData.int.injEq, PyData.bool.injEq, PyData.list.injEq, PyData.tuple.injEq, PyData.str.injEq, reduceCtorEq, false_and, and_false, exists_false, false_or, or_false, if_true, if_false, reduceIte, Bool.false_eq_true, Nat.reduceAdd, Nat.reduceSub, Nat.succ_sub_succ, Nat.zero_add, VL.gP, List.filterMap_cons, List.filterMap_nil, List.cons.injEq, VL.wDisp0, VL.wDisp, VL.wPairs, VL.oLcm, VL.wPop, VL.wRevM, VL.wClearM, VL.wTupRg, VL.wListRg, VL.wR1, VL.wR2, VL.wRevN, VL.oRepT, VL.oRepL, wRaise, endsX, seqD]
          exact q
    · exact go (.inl e)
  clear hk
  cases l
  · unfold seqD at *
    simp only [Bool.false_eq_true, if_false] at *
    simp only [VL.wSeq, VL.wNext, VL.wNever, VL.wAsg, VL.wSet, VL.wVar, VL.wFrz, VL.wC, VL.wOp, VL.wTest, VL.wNotT, VL.wAndT, VL.wOrT, VL.wAnd, VL.wOr, VL.wNot, VL.wIf, VL.wNil, VL.wCons, VL.wTup, VL.wLst, VL.wStay, VL.wNew, VL.wPar, VL.wAug, VL.wDrop, VL.wRet, VL.wRetN, VL.wRet0, VL.wIfS, VL.wBrk, VL.wCnt, VL.wGt, VL.wGs, VL.wCB, VL.wCBN, VL.wCall, VL.wCallN, VL.wCallIo, VL.wCallIoN, VL.wCallK, VL.wIsi, VL.wIsi2, VL.wApp, VL.wExt, VL.wIns, VL.wSetIt, VL.wNoPart, VL.wPart, VL.wSl, VL.wSlN, VL.wChain, VL.wNeg, VL.wDnew, VL.wDput, VL.wDget, VL.wDin, VL.wDnin, VL.wIndex, VL.wRev, VL.wParNE, VL.wParEN, VL.wPar3, VL.wYes, VL.wSeqOf, VL.wRng1, VL.wRng2, VL.oI, VL.oI0, VL.oLt, VL.oLe, VL.oGt, VL.oGe, VL.oSub, VL.oMul, VL.oFdiv, VL.oMod, VL.oPow, VL.oShl', VL.oAbs, VL.oMax2, VL.oMin2, VL.oGcd, VL.atI_0, VL.atI_1, VL.atI_2, VL.ixN_20, VL.ixN_21, and_assoc, VL.shp_int, VL.shp_bool, VL.shp_none, VL.eqv_int, VL.eqv_bool, VL.isiD, VL.tyD, String.reduceBEq, Bool.not_true, Bool.not_false, Bool.and_true, Bool.and_false, Bool.true_and, Bool.false_and, Bool.or_true, Bool.or_false, Bool.true_or, Bool.false_or, decide_true, decide_false, Bool.not_eq_true', Bool.not_eq_eq_eq_not, decide_eq_true_eq, decide_eq_false_iff_not, VL.oInt1, VL.oInt2, VL.oLen, VL.oToInt, VL.oAdd, VL.oEq, VL.oNe, VL.oIsN, VL.oIn, VL.itemD, VL.isN, VL.der, VL.ders, VL.dats, VL.ioA, VL.endsV, VL.retE, VL.keepC, Option.map, List.range_succ, List.range_zero, List.map_cons, List.map_nil, List.map_append, List.nil_append, List.cons_append, List.append_nil, List.replicate_zero, List.replicate_succ, List.length_cons, List.length_nil, Nat.sub_self, List.getElem?_cons_zero, List.getElem?_cons_succ, List.set_cons_zero, List.set_cons_succ, Option.some.injEq, exists_eq_left', exists_eq_left, exists_eq_right, exists_and_left, exists_and_right, and_true, true_and, CV.d.injEq, CV.loc.injEq, Cell.lst.injEq, Cell.dat.injEq, Cell.dic.injEq, PyData.int.injEq, PyData.bool.injEq, PyData.list.injEq, PyData.tuple.injEq, PyData.str.injEq, reduceCtorEq, false_and, and_false, exists_false, false_or, or_false, if_true, if_false, reduceIte, Bool.false_eq_true, Nat.reduceAdd, Nat.reduceSub, Nat.succ_sub_succ, Nat.zero_add, VL.gP, List.filterMap_cons, List.filterMap_nil, List.cons.injEq, VL.wDisp0, VL.wDisp, VL.wPairs, VL.oLcm, VL.wPop, VL.wRevM, VL.wClearM, VL.wTupRg, VL.wListRg, VL.wR1, VL.wR2, VL.wRevN, VL.oRepT, VL.oRepL, S_is_signs, oTupOf, tyD]
    exact ⟨ts, rfl, T, go⟩
  · unfold seqD at *
    simp only [if_true] at *
    simp only [VL.wSeq, VL.wNext, VL.wNever, VL.wAsg, VL.wSet, VL.wVar, VL.wFrz, VL.wC, VL.wOp, VL.wTest, VL.wNotT, VL.wAndT, VL.wOrT, VL.wAnd, VL.wOr, VL.wNot, VL.wIf, VL.wNil, VL.wCons, VL.wTup, VL.wLst, VL.wStay, VL.wNew, VL.wPar, VL.wAug, VL.wDrop, VL.wRet, VL.wRetN, VL.wRet0, VL.wIfS, VL.wBrk, VL.wCnt, VL.wGt, VL.wGs, VL.wCB, VL.wCBN, VL.wCall, VL.wCallN, VL.wCallIo, VL.wCallIoN, VL.wCallK, VL.wIsi, VL.wIsi2, VL.wApp, VL.wExt, VL.wIns, VL.wSetIt, VL.wNoPart, VL.wPart, VL.wSl, VL.wSlN, VL.wChain, VL.wNeg, VL.wDnew, VL.wDput, VL.wDget, VL.wDin, VL.wDnin, VL.wIndex, VL.wRev, VL.wParNE, VL.wParEN, VL.wPar3, VL.wYes, VL.wSeqOf, VL.wRng1, VL.wRng2, VL.oI, VL.oI0, VL.oLt, VL.oLe, VL.oGt, VL.oGe, VL.oSub, VL.oMul, VL.oFdiv, VL.oMod, VL.oPow, VL.oShl', VL.oAbs, VL.oMax2, VL.oMin2, VL.oGcd, VL.atI_0, VL.atI_1, VL.atI_2, VL.ixN_20, VL.ixN_21, and_assoc, VL.shp_int, VL.shp_bool, VL.shp_none, VL.eqv_int, VL.eqv_bool, VL.isiD, VL.tyD, String.reduceBEq, Bool.not_true, Bool.not_false, Bool.and_true, Bool.and_false, Bool.true_and, Bool.false_and, Bool.or_true, Bool.or_false, Bool.true_or, Bool.false_or, decide_true, decide_false, Bool.not_eq_true', Bool.not_eq_eq_eq_not, decide_eq_true_eq, decide_eq_false_iff_not, VL.oInt1, VL.oInt2, VL.oLen, VL.oToInt, VL.oAdd, VL.oEq, VL.oNe, VL.oIsN, VL.oIn, VL.itemD, VL.isN, VL.der, VL.ders, VL.dats, VL.ioA, VL.endsV, VL.retE, VL.keepC, Option.map, List.range_succ, List.range_zero, List.map_cons, List.map_nil, List.map_append, List.nil_append, List.cons_append, List.append_nil, List.replicate_zero, List.replicate_succ, List.length_cons, List.length_nil, Nat.sub_self, List.getElem?_cons_zero, List.getElem?_cons_succ, List.set_cons_zero, List.set_cons_succ, Option.some.injEq, exists_eq_left', exists_eq_left, exists_eq_right, exists_and_left, exists_and_right, and_true, true_and, CV.d.injEq, CV.loc.injEq, Cell.lst.injEq, Cell.dat.injEq, Cell.dic.injEq, PyData.int.injEq, PyData.bool.injEq, PyData.list.injEq, PyData.tuple.injEq, PyData.str.injEq, reduceCtorEq, false_and, and_false, exists_false, false_or, or_false, if_true, if_false, reduceIte, Bool.false_eq_true, Nat.reduceAdd, Nat.reduceSub, Nat.succ_sub_succ, Nat.zero_add, VL.gP, List.filterMap_cons, List.filterMap_nil, List.cons.injEq, VL.wDisp0, VL.wDisp, VL.wPairs, VL.oLcm, VL.wPop, VL.wRevM, VL.wClearM, VL.wTupRg, VL.wListRg, VL.wR1, VL.wR2, VL.wRevN, VL.oRepT, VL.oRepL, S_is_signs, oTupOf, tyD]
    exact ⟨ts, rfl, T, go⟩
theorem h__law_told (ρ : En) (Q : RV → En → Prop) (h : S__law_told ρ Q) : t__law_told (endsV 3 Q) (ρ ++ List.replicate (5 - 3) .un) := by
  obtain ⟨M, l, ts, b, rfl, ok, T, h⟩ := h
  unfold t__law_told
  refine seq_gen fun k hk => ?_
  have e : k [.dat (mcD M), .dat (seqD l (nsD ts)), .dat (.bool b), .un, .dat (toldD M ts)] := by
    rw [hk]
    simp only [VL.wSeq, VL.wNext, VL.wNever, VL.wAsg, VL.wSet, VL.wVar, VL.wFrz, VL.wC, VL.wOp, VL.wTest, VL.wNotT, VL.wAndT, VL.wOrT, VL.wAnd, VL.wOr, VL.wNot, VL.wIf, VL.wNil, VL.wCons, VL.wTup, VL.wLst, VL.wStay, VL.wNew, VL.wPar, VL.wAug, VL.wDrop, VL.wRet, VL.wRetN, VL.wRet0, VL.wIfS, VL.wBrk, VL.wCnt, VL.wGt, VL.wGs, VL.wCB, VL.wCBN, VL.wCall, VL.wCallN, VL.wCallIo, VL.wCallIoN, VL.wCallK, VL.wIsi, VL.wIsi2, VL.wApp, VL.wExt, VL.wIns, VL.wSetIt, VL.wNoPart, VL.wPart, VL.wSl, VL.wSlN, VL.wChain, VL.wNeg, VL.wDnew, VL.wDput, VL.wDget, VL.wDin, VL.wDnin, VL.wIndex, VL.wRev, VL.wParNE, VL.wParEN, VL.wPar3, VL.wYes, VL.wSeqOf, VL.wRng1, VL.wRng2, VL.oI, VL.oI0, VL.oLt, VL.oLe, VL.oGt, VL.oGe, VL.oSub, VL.oMul, VL.oFdiv, VL.oMod, VL.oPow, VL.oShl', VL.oAbs, VL.oMax2, VL.oMin2, VL.oGcd, VL.atI_0, VL.atI_1, VL.atI_2, VL.ixN_20, VL.ixN_21, and_assoc, VL.shp_int, VL.shp_bool, VL.shp_none, VL.eqv_int, VL.eqv_bool, VL.isiD, VL.tyD, String.reduceBEq, Bool.not_true, Bool.not_false, Bool.and_true, Bool.and_false, Bool.true_and, Bool.false_and, Bool.or_true, Bool.or_false, Bool.true_or, Bool.false_or, decide_true, decide_false, Bool.not_eq_true', Bool.not_eq_eq_eq_not, decide_eq_true_eq, decide_eq_false_iff_not, VL.oInt1, VL.oInt2, VL.oLen, VL.oToInt, VL.oAdd, VL.oEq, VL.oNe, VL.oIsN, VL.oIn, VL.itemD, VL.isN, VL.der, VL.ders, VL.dats, VL.ioA, VL.endsV, VL.retE, VL.keepC, Option.map, List.range_succ, List.range_zero, List.map_cons, List.map_nil, List.map_append, List.nil_append, List.cons_append, List.append_nil, List.replicate_zero, List.replicate_succ, List.length_cons, List.length_nil, Nat.sub_self, List.getElem?_cons_zero, List.getElem?_cons_succ, List.set_cons_zero, List.set_cons_succ, Option.some.injEq, exists_eq_left', exists_eq_left, exists_eq_right, exists_and_left, exists_and_right, and_true, true_and, CV.d.injEq, CV.loc.injEq, Cell.lst.injEq, Cell.dat.injEq, Cell.dic.injEq, PyData.int.injEq, PyData.bool.injEq, PyData.list.injEq, PyData.tuple.injEq, PyData.str.injEq, reduceCtorEq, false_and, and_false, exists_false, false_or, or_false, if_true, if_false, reduceIte, Bool.false_eq_true, Nat.reduceAdd, Nat.reduceSub, Nat.succ_sub_succ, Nat.zero_add, VL.gP, List.filterMap_cons, List.filterMap_nil, List.cons.injEq, VL.wDisp0, VL.wDisp, VL.wPairs, VL.oLcm, VL.wPop, VL.wRevM, VL.wClearM, VL.wTupRg, VL.wListRg, VL.wR1, VL.wR2, VL.wRevN, VL.oRepT, VL.oRepL]
    exact h
  simp only [VL.wSeq, VL.wNext, VL.wNever, VL.wAsg, VL.wSet, VL.wVar, VL.wFrz, VL.wC, VL.wOp, VL.wTest, VL.wNotT, VL.wAndT, VL.wOrT, VL.wAnd, VL.wOr, VL.wNot, VL.wIf, VL.wNil, VL.wCons, VL.wTup, VL.wLst, VL.wStay, VL.wNew, VL.wPar, VL.wAug, VL.wDrop, VL.wRet, VL.wRetN, VL.wRet0, VL.wIfS, VL.wBrk, VL.wCnt, VL.wGt, VL.wGs, VL.wCB, VL.wCBN, VL.wCall, VL.wCallN, VL.wCallIo, VL.wCallIoN, VL.wCallK, VL.wIsi, VL.wIsi2, VL.wApp, VL.wExt, VL.wIns, VL.wSetIt, VL.wNoPart, VL.wPart, VL.wSl, VL.wSlN, VL.wChain, VL.wNeg, VL.wDnew, VL.wDput, VL.wDget, VL.wDin, VL.wDnin, VL.wIndex, VL.wRev, VL.wParNE, VL.wParEN, VL.wPar3, VL.wYes, VL.wSeqOf, VL.wRng1, VL.wRng2, VL.oI, VL.oI0, VL.oLt, VL.oLe, VL.oGt, VL.oGe, VL.oSub, VL.oMul, VL.oFdiv, VL.oMod, VL.oPow, VL.oShl', VL.oAbs, VL.oMax2, VL.oMin2, VL.oGcd, VL.atI_0, VL.atI_1, VL.atI_2, VL.ixN_20, VL.ixN_21, and_assoc, VL.shp_int, VL.shp_bool, VL.shp_none, VL.eqv_int, VL.eqv_bool, VL.isiD, VL.tyD, String.reduceBEq, Bool.not_true, Bool.not_false, Bool.and_true, Bool.and_false, Bool.true_and, Bool.false_and, Bool.or_true, Bool.or_false, Bool.true_or, Bool.false_or, decide_true, decide_false, Bool.not_eq_true', Bool.not_eq_eq_eq_not, decide_eq_true_eq, decide_eq_false_iff_not, VL.oInt1, VL.oInt2, VL.oLen, VL.oToInt, VL.oAdd, VL.oEq, VL.oNe, VL.oIsN, VL.oIn, VL.itemD, VL.isN, VL.der, VL.ders, VL.dats, VL.ioA, VL.endsV, VL.retE, VL.keepC, Option.map, List.range_succ, List.range_zero, List.map_cons, List.map_nil, List.map_append, List.nil_append, List.cons_append, List.append_nil, List.replicate_zero, List.replicate_succ, List.length_cons, List.length_nil, Nat.sub_self, List.getElem?_cons_zero, List.getElem?_cons_succ, List.set_cons_zero, List.set_cons_succ, Option.some.injEq, exists_eq_left', exists_eq_left, exists_eq_right, exists_and_left, exists_and_right, and_true, true_and, CV.d.injEq, CV.loc.injEq, Cell.lst.injEq, Cell.dat.injEq, Cell.dic.injEq, PyData.int.injEq, PyData.bool.injEq, PyData.list.injEq, PyData.tuple.injEq, PyData.str.injEq, reduceCtorEq, false_and, and_false, exists_false, false_or, or_false, if_true, if_false, reduceIte, Bool.false_eq_true, Nat.reduceAdd, Nat.reduceSub, Nat.succ_sub_succ, Nat.zero_add, VL.gP, List.filterMap_cons, List.filterMap_nil, List.cons.injEq, VL.wDisp0, VL.wDisp, VL.wPairs, VL.oLcm, VL.wPop, VL.wRevM, VL.wClearM, VL.wTupRg, VL.wListRg, VL.wR1, VL.wR2, VL.wRevN, VL.oRepT, VL.oRepL, wTry, wHand, wAsgX, wTupX, wConsX, wPure, wIfX, wPureT, wCallKX, wCallX, wPureA, rvX, k_NotDrawn, k_TossError, wEndN]
  rw [ite_self]
  refine ⟨M, l, ts, rfl, ok, T, fun hb hts => ?_, fun fine => ?_⟩
  · simp only
    unfold toldD at e
    rw [if_pos ⟨hb, hts⟩] at e
    refine ⟨by decide, ?_⟩
    rw [if_pos (by decide)]
    exact ⟨by decide, by decide, e⟩
  · unfold toldD at e
    rw [if_neg (fun z => by
      rcases fine with f | f
      · rw [f] at z
        exact absurd z.1 (by decide)
      · exact z.2 f)] at e
    exact ⟨by decide, e⟩
theorem com_snoc (M : Mc) (ts : List Nat) (t : Nat) : com M (ts ++ [t]) = com1 M (com M ts) t := by
  unfold com
  rw [List.foldl_append]
  rfl
theorem com1_none (M : Mc) (ts : List Nat) : ts.foldl (com1 M) none = none := by
  induction ts with
  | nil => rfl
  | cons t ts ih => exact ih
theorem com_ok {M : Mc} (ok : M.Ok) : ∀ (ts : List Nat) (p : Pl), p.ok M.n M.rs.length → ∀ q, ts.foldl (com1 M) (some p) = some q → q.ok M.n M.rs.length
  | [], p, po, q, h => by
    cases h
    exact po
  | t :: ts, p, po, q, h => by
    replace h : ts.foldl (com1 M) (if p.to = true then some (M.next p t) else none) = some q := h
    cases e : p.to with
    | false =>
      rw [e, if_neg (by decide), com1_none] at h
      cases h
    | true =>
      rw [e, if_pos rfl] at h
      exact com_ok ok ts _ (nx_ok ok e po t) q h
theorem com_none_of {M : Mc} {ts : List Nat} {i t : Nat} {p : Pl} (ht : ts[i]? = some t) (hc : com M (ts.take i) = some p) (hp : p.to = false) : com M ts = none := by
  have e : ts = ts.take i ++ (t :: ts.drop (i + 1)) := by
    obtain ⟨h, rfl⟩ := List.getElem?_eq_some_iff.mp ht
    rw [← List.drop_eq_getElem_cons h, List.take_append_drop]
  rw [e]
  unfold com at hc ⊢
  rw [List.foldl_append, hc, List.foldl_cons]
  show List.foldl (com1 M) (if p.to = true then _ else none) _ = none
  rw [hp, if_neg (by decide), com1_none]
theorem h__law_come (ρ : En) (Q : RV → En → Prop) (h : S__law_come ρ Q) : t__law_come (endsV 2 Q) (ρ ++ List.replicate (4 - 2) .un) := by
  obtain ⟨M, ts, rfl, ok, lt, h⟩ := h
  unfold t__law_come mcD rsD
  refine seq_gen fun k hk => ?_
  simp only [VL.wSeq, VL.wNext, VL.wNever, VL.wAsg, VL.wSet, VL.wVar, VL.wFrz, VL.wC, VL.wOp, VL.wTest, VL.wNotT, VL.wAndT, VL.wOrT, VL.wAnd, VL.wOr, VL.wNot, VL.wIf, VL.wNil, VL.wCons, VL.wTup, VL.wLst, VL.wStay, VL.wNew, VL.wPar, VL.wAug, VL.wDrop, VL.wRet, VL.wRetN, VL.wRet0, VL.wIfS, VL.wBrk, VL.wCnt, VL.wGt, VL.wGs, VL.wCB, VL.wCBN, VL.wCall, VL.wCallN, VL.wCallIo, VL.wCallIoN, VL.wCallK, VL.wIsi, VL.wIsi2, VL.wApp, VL.wExt, VL.wIns, VL.wSetIt, VL.wNoPart, VL.wPart, VL.wSl, VL.wSlN, VL.wChain, VL.wNeg, VL.wDnew, VL.wDput, VL.wDget, VL.wDin, VL.wDnin, VL.wIndex, VL.wRev, VL.wParNE, VL.wParEN, VL.wPar3, VL.wYes, VL.wSeqOf, VL.wRng1, VL.wRng2, VL.oI, VL.oI0, VL.oLt, VL.oLe, VL.oGt, VL.oGe, VL.oSub, VL.oMul, VL.oFdiv, VL.oMod, VL.oPow, VL.oShl', VL.oAbs, VL.oMax2, VL.oMin2, VL.oGcd, VL.atI_0, VL.atI_1, VL.atI_2, VL.ixN_20, VL.ixN_21, and_assoc, VL.shp_int, VL.shp_bool, VL.shp_none, VL.eqv_int, VL.eqv_bool, VL.isiD, VL.tyD, String.reduceBEq, Bool.not_true, Bool.not_false, Bool.and_true, Bool.and_false, Bool.true_and, Bool.false_and, Bool.or_true, Bool.or_false, Bool.true_or, Bool.false_or, decide_true, decide_false, Bool.not_eq_true', Bool.not_eq_eq_eq_not, decide_eq_true_eq, decide_eq_false_iff_not, VL.oInt1, VL.oInt2, VL.oLen, VL.oToInt, VL.oAdd, VL.oEq, VL.oNe, VL.oIsN, VL.oIn, VL.itemD, VL.isN, VL.der, VL.ders, VL.dats, VL.ioA, VL.endsV, VL.retE, VL.keepC, Option.map, List.range_succ, List.range_zero, List.map_cons, List.map_nil, List.map_append, List.nil_append, List.cons_append, List.append_nil, List.replicate_zero, List.replicate_succ, List.length_cons, List.length_nil, Nat.sub_self, List.getElem?_cons_zero, List.getElem?_cons_succ, List.set_cons_zero, List.set_cons_succ, Option.some.injEq, exists_eq_left', exists_eq_left, exists_eq_right, exists_and_left, exists_and_right, and_true, true_and, CV.d.injEq, CV.loc.injEq, Cell.lst.injEq, Cell.dat.injEq, Cell.dic.injEq, PyData.int.injEq, PyData.bool.injEq, PyData.list.injEq, PyData.tuple.injEq, PyData.str.injEq, reduceCtorEq, false_and, and_false, exists_false, false_or, or_false, if_true, if_false, reduceIte, Bool.false_eq_true, Nat.reduceAdd, Nat.reduceSub, Nat.succ_sub_succ, Nat.zero_add, VL.gP, List.filterMap_cons, List.filterMap_nil, List.cons.injEq, VL.wDisp0, VL.wDisp, VL.wPairs, VL.oLcm, VL.wPop, VL.wRevM, VL.wClearM, VL.wTupRg, VL.wListRg, VL.wR1, VL.wR2, VL.wRevN, VL.oRepT, VL.oRepL]
  rw [hk]
  clear hk k
  refine seq_gen fun k hk => ?_
  refine for_body fun B hB => ?_
  unfold wFor
  refine seq_of (l := false) rfl ⟨fun i ρ => ∃ c p, com M (ts.take i) = some p ∧ ρ = [.dat (.tuple [.int M.n, M.b.d, .tuple (M.rs.map rwD)]), .dat (.tuple (nsD ts)), .dat p.d, c], ⟨_, M.b, rfl, rfl⟩, ?_, ?_⟩
  · rintro i ρ d ⟨c, p, hc, rfl⟩ hd
    obtain ⟨t, rfl, ht, m⟩ := ns_at hd
    have po := com_ok ok _ _ ok.b p hc
    simp only [VL.wSeq, VL.wNext, VL.wNever, VL.wAsg, VL.wSet, VL.wVar, VL.wFrz, VL.wC, VL.wOp, VL.wTest, VL.wNotT, VL.wAndT, VL.wOrT, VL.wAnd, VL.wOr, VL.wNot, VL.wIf, VL.wNil, VL.wCons, VL.wTup, VL.wLst, VL.wStay, VL.wNew, VL.wPar, VL.wAug, VL.wDrop, VL.wRet, VL.wRetN, VL.wRet0, VL.wIfS, VL.wBrk, VL.wCnt, VL.wGt, VL.wGs, VL.wCB, VL.wCBN, VL.wCall, VL.wCallN, VL.wCallIo, VL.wCallIoN, VL.wCallK, VL.wIsi, VL.wIsi2, VL.wApp, VL.wExt, VL.wIns, VL.wSetIt, VL.wNoPart, VL.wPart, VL.wSl, VL.wSlN, VL.wChain, VL.wNeg, VL.wDnew, VL.wDput, VL.wDget, VL.wDin, VL.wDnin, VL.wIndex, VL.wRev, VL.wParNE, VL.wParEN, VL.wPar3, VL.wYes, VL.wSeqOf, VL.wRng1, VL.wRng2, VL.oI, VL.oI0, VL.oLt, VL.oLe, VL.oGt, VL.oGe, VL.oSub, VL.oMul, VL.oFdiv, VL.oMod, VL.oPow, VL.oShl', VL.oAbs, VL.oMax2, VL.oMin2, VL.oGcd, VL.atI_0, VL.atI_1, VL.atI_2, VL.ixN_20, VL.ixN_21, and_assoc, VL.shp_int, VL.shp_bool, VL.shp_none, VL.eqv_int, VL.eqv_bool, VL.isiD, VL.tyD, String.reduceBEq, Bool.not_true, Bool.not_false, Bool.and_true, Bool.and_false, Bool.true_and, Bool.false_and, Bool.or_true, Bool.or_false, Bool.true_or, Bool.false_or, decide_true, decide_false, Bool.not_eq_true', Bool.not_eq_eq_eq_not, decide_eq_true_eq, decide_eq_false_iff_not, VL.oInt1, VL.oInt2, VL.oLen, VL.oToInt, VL.oAdd, VL.oEq, VL.oNe, VL.oIsN, VL.oIn, VL.itemD, VL.isN, VL.der, VL.ders, VL.dats, VL.ioA, VL.endsV, VL.retE, VL.keepC, Option.map, List.range_succ, List.range_zero, List.map_cons, List.map_nil, List.map_append, List.nil_append, List.cons_append, List.append_nil, List.replicate_zero, List.replicate_succ, List.length_cons, List.length_nil, Nat.sub_self, List.getElem?_cons_zero, List.getElem?_cons_succ, List.set_cons_zero, List.set_cons_succ, Option.some.injEq, exists_eq_left', exists_eq_left, exists_eq_right, exists_and_left, exists_and_right, and_true, true_and, CV.d.injEq, CV.loc.injEq, Cell.lst.injEq, Cell.dat.injEq, Cell.dic.injEq, PyData.int.injEq, PyData.bool.injEq, PyData.list.injEq, PyData.tuple.injEq, PyData.str.injEq, reduceCtorEq, false_and, and_false, exists_false, false_or, or_false, if_true, if_false, reduceIte, Bool.false_eq_true, Nat.reduceAdd, Nat.reduceSub, Nat.succ_sub_succ, Nat.zero_add, VL.gP, List.filterMap_cons, List.filterMap_nil, List.cons.injEq, VL.wDisp0, VL.wDisp, VL.wPairs, VL.oLcm, VL.wPop, VL.wRevM, VL.wClearM, VL.wTupRg, VL.wListRg, VL.wR1, VL.wR2, VL.wRevN, VL.oRepT, VL.oRepL]
    rw [hB]
    refine seq_gen fun k2 hk2 => ?_
    refine ifs_gen fun X Y hX hY => ?_
    simp only [VL.wSeq, VL.wNext, VL.wNever, VL.wAsg, VL.wSet, VL.wVar, VL.wFrz, VL.wC, VL.wOp, VL.wTest, VL.wNotT, VL.wAndT, VL.wOrT, VL.wAnd, VL.wOr, VL.wNot, VL.wIf, VL.wNil, VL.wCons, VL.wTup, VL.wLst, VL.wStay, VL.wNew, VL.wPar, VL.wAug, VL.wDrop, VL.wRet, VL.wRetN, VL.wRet0, VL.wIfS, VL.wBrk, VL.wCnt, VL.wGt, VL.wGs, VL.wCB, VL.wCBN, VL.wCall, VL.wCallN, VL.wCallIo, VL.wCallIoN, VL.wCallK, VL.wIsi, VL.wIsi2, VL.wApp, VL.wExt, VL.wIns, VL.wSetIt, VL.wNoPart, VL.wPart, VL.wSl, VL.wSlN, VL.wChain, VL.wNeg, VL.wDnew, VL.wDput, VL.wDget, VL.wDin, VL.wDnin, VL.wIndex, VL.wRev, VL.wParNE, VL.wParEN, VL.wPar3, VL.wYes, VL.wSeqOf, VL.wRng1, VL.wRng2, VL.oI, VL.oI0, VL.oLt, VL.oLe, VL.oGt, VL.oGe, VL.oSub, VL.oMul, VL.oFdiv, VL.oMod, VL.oPow, VL.oShl', VL.oAbs, VL.oMax2, VL.oMin2, VL.oGcd, VL.atI_0, VL.atI_1, VL.atI_2, VL.ixN_20, VL.ixN_21, and_assoc, VL.shp_int, VL.shp_bool, VL.shp_none, VL.eqv_int, VL.eqv_bool, VL.isiD, VL.tyD, String.reduceBEq, Bool.not_true, Bool.not_false, Bool.and_true, Bool.and_false, Bool.true_and, Bool.false_and, Bool.or_true, Bool.or_false, Bool.true_or, Bool.false_or, decide_true, decide_false, Bool.not_eq_true', Bool.not_eq_eq_eq_not, decide_eq_true_eq, decide_eq_false_iff_not, VL.oInt1, VL.oInt2, VL.oLen, VL.oToInt, VL.oAdd, VL.oEq, VL.oNe, VL.oIsN, VL.oIn, VL.itemD, VL.isN, VL.der, VL.ders, VL.dats, VL.ioA, VL.endsV, VL.retE, VL.keepC, Option.map, List.range_succ, List.range_zero, List.map_cons, List.map_nil, List.map_append, List.nil_append, List.cons_append, List.append_nil, List.replicate_zero, List.replicate_succ, List.length_cons, List.length_nil, Nat.sub_self, List.getElem?_cons_zero, List.getElem?_cons_succ, List.set_cons_zero, List.set_cons_succ, Option.some.injEq, exists_eq_left', exists_eq_left, exists_eq_right, exists_and_left, exists_and_right, and_true, true_and, CV.d.injEq, CV.loc.injEq, Cell.lst.injEq, Cell.dat.injEq, Cell.dic.injEq, PyData.int.injEq, PyData.bool.injEq, PyData.list.injEq, PyData.tuple.injEq, PyData.str.injEq, reduceCtorEq, false_and, and_false, exists_false, false_or, or_false, if_true, if_false, reduceIte, Bool.false_eq_true, Nat.reduceAdd, Nat.reduceSub, Nat.succ_sub_succ, Nat.zero_add, VL.gP, List.filterMap_cons, List.filterMap_nil, List.cons.injEq, VL.wDisp0, VL.wDisp, VL.wPairs, VL.oLcm, VL.wPop, VL.wRevM, VL.wClearM, VL.wTupRg, VL.wListRg, VL.wR1, VL.wR2, VL.wRevN, VL.oRepT, VL.oRepL, Pl.d, w_is, oIsN]
    refine ⟨shp_w _, shp_is, ?_⟩
    cases e : p.to
    · rw [com_none_of ht hc e] at h
      simp only [if_true, if_false, Bool.false_eq_true]
      rw [hX]
      simp only [VL.wSeq, VL.wNext, VL.wNever, VL.wAsg, VL.wSet, VL.wVar, VL.wFrz, VL.wC, VL.wOp, VL.wTest, VL.wNotT, VL.wAndT, VL.wOrT, VL.wAnd, VL.wOr, VL.wNot, VL.wIf, VL.wNil, VL.wCons, VL.wTup, VL.wLst, VL.wStay, VL.wNew, VL.wPar, VL.wAug, VL.wDrop, VL.wRet, VL.wRetN, VL.wRet0, VL.wIfS, VL.wBrk, VL.wCnt, VL.wGt, VL.wGs, VL.wCB, VL.wCBN, VL.wCall, VL.wCallN, VL.wCallIo, VL.wCallIoN, VL.wCallK, VL.wIsi, VL.wIsi2, VL.wApp, VL.wExt, VL.wIns, VL.wSetIt, VL.wNoPart, VL.wPart, VL.wSl, VL.wSlN, VL.wChain, VL.wNeg, VL.wDnew, VL.wDput, VL.wDget, VL.wDin, VL.wDnin, VL.wIndex, VL.wRev, VL.wParNE, VL.wParEN, VL.wPar3, VL.wYes, VL.wSeqOf, VL.wRng1, VL.wRng2, VL.oI, VL.oI0, VL.oLt, VL.oLe, VL.oGt, VL.oGe, VL.oSub, VL.oMul, VL.oFdiv, VL.oMod, VL.oPow, VL.oShl', VL.oAbs, VL.oMax2, VL.oMin2, VL.oGcd, VL.atI_0, VL.atI_1, VL.atI_2, VL.ixN_20, VL.ixN_21, and_assoc, VL.shp_int, VL.shp_bool, VL.shp_none, VL.eqv_int, VL.eqv_bool, VL.isiD, VL.tyD, String.reduceBEq, Bool.not_true, Bool.not_false, Bool.and_true, Bool.and_false, Bool.true_and, Bool.false_and, Bool.or_true, Bool.or_false, Bool.true_or, Bool.false_or, decide_true, decide_false, Bool.not_eq_true', Bool.not_eq_eq_eq_not, decide_eq_true_eq, decide_eq_false_iff_not, VL.oInt1, VL.oInt2, VL.oLen, VL.oToInt, VL.oAdd, VL.oEq, VL.oNe, VL.oIsN, VL.oIn, VL.itemD, VL.isN, VL.der, VL.ders, VL.dats, VL.ioA, VL.endsV, VL.retE, VL.keepC, Option.map, List.range_succ, List.range_zero, List.map_cons, List.map_nil, List.map_append, List.nil_append, List.cons_append, List.append_nil, List.replicate_zero, List.replicate_succ, List.length_cons, List.length_nil, Nat.sub_self, List.getElem?_cons_zero, List.getElem?_cons_succ, List.set_cons_zero, List.set_cons_succ, Option.some.injEq, exists_eq_left', exists_eq_left, exists_eq_right, exists_and_left, exists_and_right, and_true, true_and, CV.d.injEq, CV.loc.injEq, Cell.lst.injEq, Cell.dat.injEq, Cell.dic.injEq, PyData.int.injEq, PyData.bool.injEq, PyData.list.injEq, PyData.tuple.injEq, PyData.str.injEq, reduceCtorEq, false_and, and_false, exists_false, false_or, or_false, if_true, if_false, reduceIte, Bool.false_eq_true, Nat.reduceAdd, Nat.reduceSub, Nat.succ_sub_succ, Nat.zero_add, VL.gP, List.filterMap_cons, List.filterMap_nil, List.cons.injEq, VL.wDisp0, VL.wDisp, VL.wPairs, VL.oLcm, VL.wPop, VL.wRevM, VL.wClearM, VL.wTupRg, VL.wListRg, VL.wR1, VL.wR2, VL.wRevN, VL.oRepT, VL.oRepL]
      exact h
    · simp only [if_true, if_false, Bool.true_eq_false]
      rw [hY]
      simp only [VL.wSeq, VL.wNext, VL.wNever, VL.wAsg, VL.wSet, VL.wVar, VL.wFrz, VL.wC, VL.wOp, VL.wTest, VL.wNotT, VL.wAndT, VL.wOrT, VL.wAnd, VL.wOr, VL.wNot, VL.wIf, VL.wNil, VL.wCons, VL.wTup, VL.wLst, VL.wStay, VL.wNew, VL.wPar, VL.wAug, VL.wDrop, VL.wRet, VL.wRetN, VL.wRet0, VL.wIfS, VL.wBrk, VL.wCnt, VL.wGt, VL.wGs, VL.wCB, VL.wCBN, VL.wCall, VL.wCallN, VL.wCallIo, VL.wCallIoN, VL.wCallK, VL.wIsi, VL.wIsi2, VL.wApp, VL.wExt, VL.wIns, VL.wSetIt, VL.wNoPart, VL.wPart, VL.wSl, VL.wSlN, VL.wChain, VL.wNeg, VL.wDnew, VL.wDput, VL.wDget, VL.wDin, VL.wDnin, VL.wIndex, VL.wRev, VL.wParNE, VL.wParEN, VL.wPar3, VL.wYes, VL.wSeqOf, VL.wRng1, VL.wRng2, VL.oI, VL.oI0, VL.oLt, VL.oLe, VL.oGt, VL.oGe, VL.oSub, VL.oMul, VL.oFdiv, VL.oMod, VL.oPow, VL.oShl', VL.oAbs, VL.oMax2, VL.oMin2, VL.oGcd, VL.atI_0, VL.atI_1, VL.atI_2, VL.ixN_20, VL.ixN_21, and_assoc, VL.shp_int, VL.shp_bool, VL.shp_none, VL.eqv_int, VL.eqv_bool, VL.isiD, VL.tyD, String.reduceBEq, Bool.not_true, Bool.not_false, Bool.and_true, Bool.and_false, Bool.true_and, Bool.false_and, Bool.or_true, Bool.or_false, Bool.true_or, Bool.false_or, decide_true, decide_false, Bool.not_eq_true', Bool.not_eq_eq_eq_not, decide_eq_true_eq, decide_eq_false_iff_not, VL.oInt1, VL.oInt2, VL.oLen, VL.oToInt, VL.oAdd, VL.oEq, VL.oNe, VL.oIsN, VL.oIn, VL.itemD, VL.isN, VL.der, VL.ders, VL.dats, VL.ioA, VL.endsV, VL.retE, VL.keepC, Option.map, List.range_succ, List.range_zero, List.map_cons, List.map_nil, List.map_append, List.nil_append, List.cons_append, List.append_nil, List.replicate_zero, List.replicate_succ, List.length_cons, List.length_nil, Nat.sub_self, List.getElem?_cons_zero, List.getElem?_cons_succ, List.set_cons_zero, List.set_cons_succ, Option.some.injEq, exists_eq_left', exists_eq_left, exists_eq_right, exists_and_left, exists_and_right, and_true, true_and, CV.d.injEq, CV.loc.injEq, Cell.lst.injEq, Cell.dat.injEq, Cell.dic.injEq, PyData.int.injEq, PyData.bool.injEq, PyData.list.injEq, PyData.tuple.injEq, PyData.str.injEq, reduceCtorEq, false_and, and_false, exists_false, false_or, or_false, if_true, if_false, reduceIte, Bool.false_eq_true, Nat.reduceAdd, Nat.reduceSub, Nat.succ_sub_succ, Nat.zero_add, VL.gP, List.filterMap_cons, List.filterMap_nil, List.cons.injEq, VL.wDisp0, VL.wDisp, VL.wPairs, VL.oLcm, VL.wPop, VL.wRevM, VL.wClearM, VL.wTupRg, VL.wListRg, VL.wR1, VL.wR2, VL.wRevN, VL.oRepT, VL.oRepL]
      rw [hk2]
      clear hk2 k2
      simp only [VL.wSeq, VL.wNext, VL.wNever, VL.wAsg, VL.wSet, VL.wVar, VL.wFrz, VL.wC, VL.wOp, VL.wTest, VL.wNotT, VL.wAndT, VL.wOrT, VL.wAnd, VL.wOr, VL.wNot, VL.wIf, VL.wNil, VL.wCons, VL.wTup, VL.wLst, VL.wStay, VL.wNew, VL.wPar, VL.wAug, VL.wDrop, VL.wRet, VL.wRetN, VL.wRet0, VL.wIfS, VL.wBrk, VL.wCnt, VL.wGt, VL.wGs, VL.wCB, VL.wCBN, VL.wCall, VL.wCallN, VL.wCallIo, VL.wCallIoN, VL.wCallK, VL.wIsi, VL.wIsi2, VL.wApp, VL.wExt, VL.wIns, VL.wSetIt, VL.wNoPart, VL.wPart, VL.wSl, VL.wSlN, VL.wChain, VL.wNeg, VL.wDnew, VL.wDput, VL.wDget, VL.wDin, VL.wDnin, VL.wIndex, VL.wRev, VL.wParNE, VL.wParEN, VL.wPar3, VL.wYes, VL.wSeqOf, VL.wRng1, VL.wRng2, VL.oI, VL.oI0, VL.oLt, VL.oLe, VL.oGt, VL.oGe, VL.oSub, VL.oMul, VL.oFdiv, VL.oMod, VL.oPow, VL.oShl', VL.oAbs, VL.oMax2, VL.oMin2, VL.oGcd, VL.atI_0, VL.atI_1, VL.atI_2, VL.ixN_20, VL.ixN_21, and_assoc, VL.shp_int, VL.shp_bool, VL.shp_none, VL.eqv_int, VL.eqv_bool, VL.isiD, VL.tyD, String.reduceBEq, Bool.not_true, Bool.not_false, Bool.and_true, Bool.and_false, Bool.true_and, Bool.false_and, Bool.or_true, Bool.or_false, Bool.true_or, Bool.false_or, decide_true, decide_false, Bool.not_eq_true', Bool.not_eq_eq_eq_not, decide_eq_true_eq, decide_eq_false_iff_not, VL.oInt1, VL.oInt2, VL.oLen, VL.oToInt, VL.oAdd, VL.oEq, VL.oNe, VL.oIsN, VL.oIn, VL.itemD, VL.isN, VL.der, VL.ders, VL.dats, VL.ioA, VL.endsV, VL.retE, VL.keepC, Option.map, List.range_succ, List.range_zero, List.map_cons, List.map_nil, List.map_append, List.nil_append, List.cons_append, List.append_nil, List.replicate_zero, List.replicate_succ, List.length_cons, List.length_nil, Nat.sub_self, List.getElem?_cons_zero, List.getElem?_cons_succ, List.set_cons_zero, List.set_cons_succ, Option.some.injEq, exists_eq_left', exists_eq_left, exists_eq_right, exists_and_left, exists_and_right, and_true, true_and, CV.d.injEq, CV.loc.injEq, Cell.lst.injEq, Cell.dat.injEq, Cell.dic.injEq, PyData.int.injEq, PyData.bool.injEq, PyData.list.injEq, PyData.tuple.injEq, PyData.str.injEq, reduceCtorEq, false_and, and_false, exists_false, false_or, or_false, if_true, if_false, reduceIte, Bool.false_eq_true, Nat.reduceAdd, Nat.reduceSub, Nat.succ_sub_succ, Nat.zero_add, VL.gP, List.filterMap_cons, List.filterMap_nil, List.cons.injEq, VL.wDisp0, VL.wDisp, VL.wPairs, VL.oLcm, VL.wPop, VL.wRevM, VL.wClearM, VL.wTupRg, VL.wListRg, VL.wR1, VL.wR2, VL.wRevN, VL.oRepT, VL.oRepL, Pl.d]
      refine ⟨_, nx_at M e po, ?_⟩
      simp only [VL.wSeq, VL.wNext, VL.wNever, VL.wAsg, VL.wSet, VL.wVar, VL.wFrz, VL.wC, VL.wOp, VL.wTest, VL.wNotT, VL.wAndT, VL.wOrT, VL.wAnd, VL.wOr, VL.wNot, VL.wIf, VL.wNil, VL.wCons, VL.wTup, VL.wLst, VL.wStay, VL.wNew, VL.wPar, VL.wAug, VL.wDrop, VL.wRet, VL.wRetN, VL.wRet0, VL.wIfS, VL.wBrk, VL.wCnt, VL.wGt, VL.wGs, VL.wCB, VL.wCBN, VL.wCall, VL.wCallN, VL.wCallIo, VL.wCallIoN, VL.wCallK, VL.wIsi, VL.wIsi2, VL.wApp, VL.wExt, VL.wIns, VL.wSetIt, VL.wNoPart, VL.wPart, VL.wSl, VL.wSlN, VL.wChain, VL.wNeg, VL.wDnew, VL.wDput, VL.wDget, VL.wDin, VL.wDnin, VL.wIndex, VL.wRev, VL.wParNE, VL.wParEN, VL.wPar3, VL.wYes, VL.wSeqOf, VL.wRng1, VL.wRng2, VL.oI, VL.oI0, VL.oLt, VL.oLe, VL.oGt, VL.oGe, VL.oSub, VL.oMul, VL.oFdiv, VL.oMod, VL.oPow, VL.oShl', VL.oAbs, VL.oMax2, VL.oMin2, VL.oGcd, VL.atI_0, VL.atI_1, VL.atI_2, VL.ixN_20, VL.ixN_21, and_assoc, VL.shp_int, VL.shp_bool, VL.shp_none, VL.eqv_int, VL.eqv_bool, VL.isiD, VL.tyD, String.reduceBEq, Bool.not_true, Bool.not_false, Bool.and_true, Bool.and_false, Bool.true_and, Bool.false_and, Bool.or_true, Bool.or_false, Bool.true_or, Bool.false_or, decide_true, decide_false, Bool.not_eq_true', Bool.not_eq_eq_eq_not, decide_eq_true_eq, decide_eq_false_iff_not, VL.oInt1, VL.oInt2, VL.oLen, VL.oToInt, VL.oAdd, VL.oEq, VL.oNe, VL.oIsN, VL.oIn, VL.itemD, VL.isN, VL.der, VL.ders, VL.dats, VL.ioA, VL.endsV, VL.retE, VL.keepC, Option.map, List.range_succ, List.range_zero, List.map_cons, List.map_nil, List.map_append, List.nil_append, List.cons_append, List.append_nil, List.replicate_zero, List.replicate_succ, List.length_cons, List.length_nil, Nat.sub_self, List.getElem?_cons_zero, List.getElem?_cons_succ, List.set_cons_zero, List.set_cons_succ, Option.some.injEq, exists_eq_left', exists_eq_left, exists_eq_right, exists_and_left, exists_and_right, and_true, true_and, CV.d.injEq, CV.loc.injEq, Cell.lst.injEq, Cell.dat.injEq, Cell.dic.injEq, PyData.int.injEq, PyData.bool.injEq, PyData.list.injEq, PyData.tuple.injEq, PyData.str.injEq, reduceCtorEq, false_and, and_false, exists_false, false_or, or_false, if_true, if_false, reduceIte, Bool.false_eq_true, Nat.reduceAdd, Nat.reduceSub, Nat.succ_sub_succ, Nat.zero_add, VL.gP, List.filterMap_cons, List.filterMap_nil, List.cons.injEq, VL.wDisp0, VL.wDisp, VL.wPairs, VL.oLcm, VL.wPop, VL.wRevM, VL.wClearM, VL.wTupRg, VL.wListRg, VL.wR1, VL.wR2, VL.wRevN, VL.oRepT, VL.oRepL, rwD]
      refine ⟨_, nx_ix M p (lt t m), _, M.next p t, ?_, rfl, rfl⟩
      rw [take_at ht, com_snoc, hc]
      show (if p.to = true then _ else none) = _
      rw [e, if_pos rfl]
  · rintro ρ ⟨c, p, hc, rfl⟩
    rw [nsD_len, List.take_length] at hc
    rw [hc] at h
    show k _
    rw [hk]
    simp only [VL.wSeq, VL.wNext, VL.wNever, VL.wAsg, VL.wSet, VL.wVar, VL.wFrz, VL.wC, VL.wOp, VL.wTest, VL.wNotT, VL.wAndT, VL.wOrT, VL.wAnd, VL.wOr, VL.wNot, VL.wIf, VL.wNil, VL.wCons, VL.wTup, VL.wLst, VL.wStay, VL.wNew, VL.wPar, VL.wAug, VL.wDrop, VL.wRet, VL.wRetN, VL.wRet0, VL.wIfS, VL.wBrk, VL.wCnt, VL.wGt, VL.wGs, VL.wCB, VL.wCBN, VL.wCall, VL.wCallN, VL.wCallIo, VL.wCallIoN, VL.wCallK, VL.wIsi, VL.wIsi2, VL.wApp, VL.wExt, VL.wIns, VL.wSetIt, VL.wNoPart, VL.wPart, VL.wSl, VL.wSlN, VL.wChain, VL.wNeg, VL.wDnew, VL.wDput, VL.wDget, VL.wDin, VL.wDnin, VL.wIndex, VL.wRev, VL.wParNE, VL.wParEN, VL.wPar3, VL.wYes, VL.wSeqOf, VL.wRng1, VL.wRng2, VL.oI, VL.oI0, VL.oLt, VL.oLe, VL.oGt, VL.oGe, VL.oSub, VL.oMul, VL.oFdiv, VL.oMod, VL.oPow, VL.oShl', VL.oAbs, VL.oMax2, VL.oMin2, VL.oGcd, VL.atI_0, VL.atI_1, VL.atI_2, VL.ixN_20, VL.ixN_21, and_assoc, VL.shp_int, VL.shp_bool, VL.shp_none, VL.eqv_int, VL.eqv_bool, VL.isiD, VL.tyD, String.reduceBEq, Bool.not_true, Bool.not_false, Bool.and_true, Bool.and_false, Bool.true_and, Bool.false_and, Bool.or_true, Bool.or_false, Bool.true_or, Bool.false_or, decide_true, decide_false, Bool.not_eq_true', Bool.not_eq_eq_eq_not, decide_eq_true_eq, decide_eq_false_iff_not, VL.oInt1, VL.oInt2, VL.oLen, VL.oToInt, VL.oAdd, VL.oEq, VL.oNe, VL.oIsN, VL.oIn, VL.itemD, VL.isN, VL.der, VL.ders, VL.dats, VL.ioA, VL.endsV, VL.retE, VL.keepC, Option.map, List.range_succ, List.range_zero, List.map_cons, List.map_nil, List.map_append, List.nil_append, List.cons_append, List.append_nil, List.replicate_zero, List.replicate_succ, List.length_cons, List.length_nil, Nat.sub_self, List.getElem?_cons_zero, List.getElem?_cons_succ, List.set_cons_zero, List.set_cons_succ, Option.some.injEq, exists_eq_left', exists_eq_left, exists_eq_right, exists_and_left, exists_and_right, and_true, true_and, CV.d.injEq, CV.loc.injEq, Cell.lst.injEq, Cell.dat.injEq, Cell.dic.injEq, PyData.int.injEq, PyData.bool.injEq, PyData.list.injEq, PyData.tuple.injEq, PyData.str.injEq, reduceCtorEq, false_and, and_false, exists_false, false_or, or_false, if_true, if_false, reduceIte, Bool.false_eq_true, Nat.reduceAdd, Nat.reduceSub, Nat.succ_sub_succ, Nat.zero_add, VL.gP, List.filterMap_cons, List.filterMap_nil, List.cons.injEq, VL.wDisp0, VL.wDisp, VL.wPairs, VL.oLcm, VL.wPop, VL.wRevM, VL.wClearM, VL.wTupRg, VL.wListRg, VL.wR1, VL.wR2, VL.wRevN, VL.oRepT, VL.oRepL]
    exact h
end K13
end
section
set_option autoImplicit false
set_option maxRecDepth 100000
set_option maxHeartbeats 4000000
namespace K13
open PySem PySem.Spec PyProof.Rows L2 VL
theorem var_dat {ρ : En} {i : Nat} {d : D} {P : CV → En → Prop} (h : ρ[i]? = some (.dat d)) (p : P (.d d) ρ) : wVar i ρ P := by
  unfold wVar
  rw [h]
  exact p
theorem var_loc {ρ : En} {i : Nat} {ds : List D} {io : Bool} {P : CV → En → Prop} (h : ρ[i]? = some (.lst io ds)) (p : P (.loc i) ρ) : wVar i ρ P := by
  unfold wVar
  rw [h]
  exact p
theorem take_io {t : WE} {ρ : En} {i : Nat} {io : Bool} {pot : List Int} {m : Int} {P : CV → En → Prop} (h0 : ρ[i]? = some (.lst io (pot.map .int))) (ht : ∀ P : CV → En → Prop, P (.d (.int m)) ρ → t ρ P) (p : Pot pot) (m0 : 0 < m) (m1 : m < 2 ^ 30)
    (h : ∀ (r : Nat) (pot' : List Int), Pot pot' → (r : Int) < m → P (.d (.int r)) (ρ.set i (.lst io (pot'.map .int)))) : wCallIo 2 S__law_take (wCons (wVar i) (wCons t wNil)) ρ P := by
  unfold wCallIo
  show wVar i ρ _
  refine var_loc h0 ?_
  show t ρ _
  refine ht _ ?_
  exact ⟨i, [.int m], io, _, rfl, rfl, h0, pot, m, rfl, p, m0, m1, fun r pot' p' l => ⟨_, rfl, h r pot' p' l⟩⟩
theorem place_io {ρ : En} {i a b c : Nat} {io : Bool} {pot : List Int} {n m w : Nat} {P : CV → En → Prop} (h0 : ρ[i]? = some (.lst io (pot.map .int))) (ha : ρ[a]? = some (.dat (.int n))) (hb : ρ[b]? = some (.dat (.int m))) (hc : ρ[c]? = some (.dat (.int w))) (p : Pot pot) (n1 : 1 ≤ n) (n6 : n ≤ 6) (m12 : m ≤ 12)
    (h : ∀ (q : Pl) (pot' : List Int), Pot pot' → q.ok n m → P (.d q.d) (ρ.set i (.lst io (pot'.map .int)))) : wCallIo 4 S__law_place (wCons (wVar i) (wCons (wVar a) (wCons (wVar b) (wCons (wVar c) wNil)))) ρ P := by
  unfold wCallIo
  show wVar i ρ _
  refine var_loc h0 ?_
  show wVar a ρ _
  refine var_dat ha ?_
  show wVar b ρ _
  refine var_dat hb ?_
  show wVar c ρ _
  refine var_dat hc ?_
  exact ⟨i, [.int n, .int m, .int w], io, _, rfl, rfl, h0, pot, n, m, w, rfl, p, n1, n6, m12, fun q pot' p' l => ⟨_, rfl, h q pot' p' l⟩⟩
theorem asgT3 {t1 t2 t3 : WE} {gs : List WG} {w : WEn} {ρ : En} (h : t1 ρ fun c1 ρ1 => t2 ρ1 fun c2 ρ2 => t3 ρ2 fun c3 ρ3 => ∃ ds, dats [c1, c2, c3] = some ds ∧ ds.length ≤ sizeLine ∧ wGt gs (.tuple ds) ρ3 w.nx) : wAsg (wTup (wCons t1 (wCons t2 (wCons t3 wNil)))) (wGt gs) w ρ := by
  unfold wAsg wTup wCons wNil
  exact h
theorem op_c {o : DO} {t : WE} {d : D} {ρ : En} {P : CV → En → Prop} (h : t ρ fun c2 ρ2 => ∃ x y, der ρ2 (.d d) = some x ∧ der ρ2 c2 = some y ∧ o x y fun z => P (.d z) ρ2) : wOp o (wC d) t ρ P := h
theorem add_i {a b : Int} {P : D → Prop} (h : P (.int (a + b))) : oAdd (.int a) (.int b) P := h
theorem lc_body {wi : WN} {g : WG} {tt : WT} {te : WE} {vs : List Nat} {ρ : En} {P : List D → En → Prop} (h : ∀ E : WE, (∀ ρ P, E ρ P = te ρ P) → wLc wi g tt E vs ρ P) : wLc wi g tt te vs ρ P := h te fun _ _ => rfl
theorem tup2 {t1 t2 : WE} {ρ : En} {P : CV → En → Prop} (h : t1 ρ fun c1 ρ1 => t2 ρ1 fun c2 ρ2 => ∃ ds, dats [c1, c2] = some ds ∧ ds.length ≤ sizeLine ∧ P (.d (.tuple ds)) ρ2) : wTup (wCons t1 (wCons t2 wNil)) ρ P := by
  unfold wTup wCons wNil
  exact h
theorem rw_snoc (rs : List (Pl × Pl)) (p q : Pl) : (rs ++ [(p, q)]).map rwD = rs.map rwD ++ [.tuple [p.d, q.d]] := by
  rw [List.map_append]
  rfl
theorem h__law_machine (ρ : En) (Q : RV → En → Prop) (h : S__law_machine ρ Q) : t__law_machine (endsV 3 Q) (ρ ++ List.replicate (9 - 3) .un) := by
  obtain ⟨pot, rfl, P, h⟩ := h
  unfold t__law_machine potC
  refine seq_gen fun k hk => ?_
  refine asgT3 ?_
  refine op_c ?_
  refine take_io (pot := pot) (m := 6) rfl (fun P h => h) P (by decide) (by decide) fun n pot P n6 => ?_
  refine ⟨_, _, rfl, rfl, add_i ?_⟩
  refine take_io (pot := pot) (m := 13) rfl (fun P h => var_dat (i := 2) (d := .int 12) rfl ⟨_, _, rfl, rfl, add_i h⟩) P (by decide) (by decide) fun m pot P hm => ?_
  refine take_io (pot := pot) (m := 4) rfl (fun P h => h) P (by decide) (by decide) fun w pot P hw => ?_
  dsimp only [List.set]
  simp only [VL.wSeq, VL.wNext, VL.wNever, VL.wAsg, VL.wSet, VL.wVar, VL.wFrz, VL.wC, VL.wOp, VL.wTest, VL.wNotT, VL.wAndT, VL.wOrT, VL.wAnd, VL.wOr, VL.wNot, VL.wIf, VL.wNil, VL.wCons, VL.wTup, VL.wLst, VL.wStay, VL.wNew, VL.wPar, VL.wAug, VL.wDrop, VL.wRet, VL.wRetN, VL.wRet0, VL.wIfS, VL.wBrk, VL.wCnt, VL.wGt, VL.wGs, VL.wCB, VL.wCBN, VL.wCall, VL.wCallN, VL.wCallIo, VL.wCallIoN, VL.wCallK, VL.wIsi, VL.wIsi2, VL.wApp, VL.wExt, VL.wIns, VL.wSetIt, VL.wNoPart, VL.wPart, VL.wSl, VL.wSlN, VL.wChain, VL.wNeg, VL.wDnew, VL.wDput, VL.wDget, VL.wDin, VL.wDnin, VL.wIndex, VL.wRev, VL.wParNE, VL.wParEN, VL.wPar3, VL.wYes, VL.wSeqOf, VL.wRng1, VL.wRng2, VL.oI, VL.oI0, VL.oLt, VL.oLe, VL.oGt, VL.oGe, VL.oSub, VL.oMul, VL.oFdiv, VL.oMod, VL.oPow, VL.oShl', VL.oAbs, VL.oMax2, VL.oMin2, VL.oGcd, VL.atI_0, VL.atI_1, VL.atI_2, VL.ixN_20, VL.ixN_21, and_assoc, VL.shp_int, VL.shp_bool, VL.shp_none, VL.eqv_int, VL.eqv_bool, VL.isiD, VL.tyD, String.reduceBEq, Bool.not_true, Bool.not_false, Bool.and_true, Bool.and_false, Bool.true_and, Bool.false_and, Bool.or_true, Bool.or_false, Bool.true_or, Bool.false_or, decide_true, decide_false, Bool.not_eq_true', Bool.not_eq_eq_eq_not, decide_eq_true_eq, decide_eq_false_iff_not, VL.oInt1, VL.oInt2, VL.oLen, VL.oToInt, VL.oAdd, VL.oEq, VL.oNe, VL.oIsN, VL.oIn, VL.itemD, VL.isN, VL.der, VL.ders, VL.dats, VL.ioA, VL.endsV, VL.retE, VL.keepC, Option.map, List.range_succ, List.range_zero, List.map_cons, List.map_nil, List.map_append, List.nil_append, List.cons_append, List.append_nil, List.replicate_zero, List.replicate_succ, List.length_cons, List.length_nil, Nat.sub_self, List.getElem?_cons_zero, List.getElem?_cons_succ, List.set_cons_zero, List.set_cons_succ, Option.some.injEq, exists_eq_left', exists_eq_left, exists_eq_right, exists_and_left, exists_and_right, and_true, true_and, CV.d.injEq, CV.loc.injEq, Cell.lst.injEq, Cell.dat.injEq, Cell.dic.injEq, PyData.int.injEq, PyData.bool.injEq, PyData.list.injEq, PyData.tuple.injEq, PyData.str.injEq, reduceCtorEq, false_and, and_false, exists_false, false_or, or_false, if_true, if_false, reduceIte, Bool.false_eq_true, Nat.reduceAdd, Nat.reduceSub, Nat.succ_sub_succ, Nat.zero_add, VL.gP, List.filterMap_cons, List.filterMap_nil, List.cons.injEq, VL.wDisp0, VL.wDisp, VL.wPairs, VL.oLcm, VL.wPop, VL.wRevM, VL.wClearM, VL.wTupRg, VL.wListRg, VL.wR1, VL.wR2, VL.wRevN, VL.oRepT, VL.oRepL]
  refine ⟨by decide, ?_⟩
  rw [hk]
  clear hk k
  rename_i p0 P0 p1 P1 p2 P2
  clear P0 P1 P2
  refine seq_gen fun k hk => ?_
  simp only [VL.wSeq, VL.wNext, VL.wNever, VL.wAsg, VL.wSet, VL.wVar, VL.wFrz, VL.wC, VL.wOp, VL.wTest, VL.wNotT, VL.wAndT, VL.wOrT, VL.wAnd, VL.wOr, VL.wNot, VL.wIf, VL.wNil, VL.wCons, VL.wTup, VL.wLst, VL.wStay, VL.wNew, VL.wPar, VL.wAug, VL.wDrop, VL.wRet, VL.wRetN, VL.wRet0, VL.wIfS, VL.wBrk, VL.wCnt, VL.wGt, VL.wGs, VL.wCB, VL.wCBN, VL.wCall, VL.wCallN, VL.wCallIo, VL.wCallIoN, VL.wCallK, VL.wIsi, VL.wIsi2, VL.wApp, VL.wExt, VL.wIns, VL.wSetIt, VL.wNoPart, VL.wPart, VL.wSl, VL.wSlN, VL.wChain, VL.wNeg, VL.wDnew, VL.wDput, VL.wDget, VL.wDin, VL.wDnin, VL.wIndex, VL.wRev, VL.wParNE, VL.wParEN, VL.wPar3, VL.wYes, VL.wSeqOf, VL.wRng1, VL.wRng2, VL.oI, VL.oI0, VL.oLt, VL.oLe, VL.oGt, VL.oGe, VL.oSub, VL.oMul, VL.oFdiv, VL.oMod, VL.oPow, VL.oShl', VL.oAbs, VL.oMax2, VL.oMin2, VL.oGcd, VL.atI_0, VL.atI_1, VL.atI_2, VL.ixN_20, VL.ixN_21, and_assoc, VL.shp_int, VL.shp_bool, VL.shp_none, VL.eqv_int, VL.eqv_bool, VL.isiD, VL.tyD, String.reduceBEq, Bool.not_true, Bool.not_false, Bool.and_true, Bool.and_false, Bool.true_and, Bool.false_and, Bool.or_true, Bool.or_false, Bool.true_or, Bool.false_or, decide_true, decide_false, Bool.not_eq_true', Bool.not_eq_eq_eq_not, decide_eq_true_eq, decide_eq_false_iff_not, VL.oInt1, VL.oInt2, VL.oLen, VL.oToInt, VL.oAdd, VL.oEq, VL.oNe, VL.oIsN, VL.oIn, VL.itemD, VL.isN, VL.der, VL.ders, VL.dats, VL.ioA, VL.endsV, VL.retE, VL.keepC, Option.map, List.range_succ, List.range_zero, List.map_cons, List.map_nil, List.map_append, List.nil_append, List.cons_append, List.append_nil, List.replicate_zero, List.replicate_succ, List.length_cons, List.length_nil, Nat.sub_self, List.getElem?_cons_zero, List.getElem?_cons_succ, List.set_cons_zero, List.set_cons_succ, Option.some.injEq, exists_eq_left', exists_eq_left, exists_eq_right, exists_and_left, exists_and_right, and_true, true_and, CV.d.injEq, CV.loc.injEq, Cell.lst.injEq, Cell.dat.injEq, Cell.dic.injEq, PyData.int.injEq, PyData.bool.injEq, PyData.list.injEq, PyData.tuple.injEq, PyData.str.injEq, reduceCtorEq, false_and, and_false, exists_false, false_or, or_false, if_true, if_false, reduceIte, Bool.false_eq_true, Nat.reduceAdd, Nat.reduceSub, Nat.succ_sub_succ, Nat.zero_add, VL.gP, List.filterMap_cons, List.filterMap_nil, List.cons.injEq, VL.wDisp0, VL.wDisp, VL.wPairs, VL.oLcm, VL.wPop, VL.wRevM, VL.wClearM, VL.wTupRg, VL.wListRg, VL.wR1, VL.wR2, VL.wRevN, VL.oRepT, VL.oRepL, S__law_take, potC, Prod.mk.injEq]
  refine ⟨pot, rfl, P, by decide, by decide, fun m2 pot P hm2 => ?_⟩
  obtain ⟨mm, em, hmm⟩ : ∃ mm : Nat, (if (m2 : Int) > (m : Int) then (m2 : Int) else (m : Int)) = mm ∧ mm ≤ 12 := by
    split
    · exact ⟨m2, rfl, by omega⟩
    · exact ⟨m, rfl, by omega⟩
  rw [em, hk]
  clear hk k
  refine seq_gen fun k hk => ?_
  unfold wNew
  refine lc_body fun E hE => ?_
  unfold wLc
  simp only [VL.wSeq, VL.wNext, VL.wNever, VL.wAsg, VL.wSet, VL.wVar, VL.wFrz, VL.wC, VL.wOp, VL.wTest, VL.wNotT, VL.wAndT, VL.wOrT, VL.wAnd, VL.wOr, VL.wNot, VL.wIf, VL.wNil, VL.wCons, VL.wTup, VL.wLst, VL.wStay, VL.wNew, VL.wPar, VL.wAug, VL.wDrop, VL.wRet, VL.wRetN, VL.wRet0, VL.wIfS, VL.wBrk, VL.wCnt, VL.wGt, VL.wGs, VL.wCB, VL.wCBN, VL.wCall, VL.wCallN, VL.wCallIo, VL.wCallIoN, VL.wCallK, VL.wIsi, VL.wIsi2, VL.wApp, VL.wExt, VL.wIns, VL.wSetIt, VL.wNoPart, VL.wPart, VL.wSl, VL.wSlN, VL.wChain, VL.wNeg, VL.wDnew, VL.wDput, VL.wDget, VL.wDin, VL.wDnin, VL.wIndex, VL.wRev, VL.wParNE, VL.wParEN, VL.wPar3, VL.wYes, VL.wSeqOf, VL.wRng1, VL.wRng2, VL.oI, VL.oI0, VL.oLt, VL.oLe, VL.oGt, VL.oGe, VL.oSub, VL.oMul, VL.oFdiv, VL.oMod, VL.oPow, VL.oShl', VL.oAbs, VL.oMax2, VL.oMin2, VL.oGcd, VL.atI_0, VL.atI_1, VL.atI_2, VL.ixN_20, VL.ixN_21, and_assoc, VL.shp_int, VL.shp_bool, VL.shp_none, VL.eqv_int, VL.eqv_bool, VL.isiD, VL.tyD, String.reduceBEq, Bool.not_true, Bool.not_false, Bool.and_true, Bool.and_false, Bool.true_and, Bool.false_and, Bool.or_true, Bool.or_false, Bool.true_or, Bool.false_or, decide_true, decide_false, Bool.not_eq_true', Bool.not_eq_eq_eq_not, decide_eq_true_eq, decide_eq_false_iff_not, VL.oInt1, VL.oInt2, VL.oLen, VL.oToInt, VL.oAdd, VL.oEq, VL.oNe, VL.oIsN, VL.oIn, VL.itemD, VL.isN, VL.der, VL.ders, VL.dats, VL.ioA, VL.endsV, VL.retE, VL.keepC, Option.map, List.range_succ, List.range_zero, List.map_cons, List.map_nil, List.map_append, List.nil_append, List.cons_append, List.append_nil, List.replicate_zero, List.replicate_succ, List.length_cons, List.length_nil, Nat.sub_self, List.getElem?_cons_zero, List.getElem?_cons_succ, List.set_cons_zero, List.set_cons_succ, Option.some.injEq, exists_eq_left', exists_eq_left, exists_eq_right, exists_and_left, exists_and_right, and_true, true_and, CV.d.injEq, CV.loc.injEq, Cell.lst.injEq, Cell.dat.injEq, Cell.dic.injEq, PyData.int.injEq, PyData.bool.injEq, PyData.list.injEq, PyData.tuple.injEq, PyData.str.injEq, reduceCtorEq, false_and, and_false, exists_false, false_or, or_false, if_true, if_false, reduceIte, Bool.false_eq_true, Nat.reduceAdd, Nat.reduceSub, Nat.succ_sub_succ, Nat.zero_add, VL.gP, List.filterMap_cons, List.filterMap_nil, List.cons.injEq, VL.wDisp0, VL.wDisp, VL.wPairs, VL.oLcm, VL.wPop, VL.wRevM, VL.wClearM, VL.wTupRg, VL.wListRg, VL.wR1, VL.wR2, VL.wRevN, VL.oRepT, VL.oRepL, wipeE]
  refine ⟨⟨by omega, by omega⟩, fun i acc ρ => ∃ (rs : List (Pl × Pl)) (pot : List Int), acc = rs.map rwD ∧ rs.length = i ∧ (∀ r ∈ rs, r.1.ok (1 + n) mm ∧ r.2.ok (1 + n) mm) ∧ Pot pot ∧ ρ = [.lst true (pot.map .int), .dat (.int 6), .dat (.int 12), .dat (.int mm), .un, .un, .dat (.int (1 + (n : Int))), .dat (.int w), .un], ⟨[], pot, rfl, rfl, (fun r m => by cases m), P, rfl⟩, ?_, ?_⟩
  · rintro i acc ρ d ⟨rs, pot, rfl, lr, okr, P, rfl⟩ hx
    obtain ⟨rfl, hi⟩ := rng_at hx
    simp only [VL.wSeq, VL.wNext, VL.wNever, VL.wAsg, VL.wSet, VL.wVar, VL.wFrz, VL.wC, VL.wOp, VL.wTest, VL.wNotT, VL.wAndT, VL.wOrT, VL.wAnd, VL.wOr, VL.wNot, VL.wIf, VL.wNil, VL.wCons, VL.wTup, VL.wLst, VL.wStay, VL.wNew, VL.wPar, VL.wAug, VL.wDrop, VL.wRet, VL.wRetN, VL.wRet0, VL.wIfS, VL.wBrk, VL.wCnt, VL.wGt, VL.wGs, VL.wCB, VL.wCBN, VL.wCall, VL.wCallN, VL.wCallIo, VL.wCallIoN, VL.wCallK, VL.wIsi, VL.wIsi2, VL.wApp, VL.wExt, VL.wIns, VL.wSetIt, VL.wNoPart, VL.wPart, VL.wSl, VL.wSlN, VL.wChain, VL.wNeg, VL.wDnew, VL.wDput, VL.wDget, VL.wDin, VL.wDnin, VL.wIndex, VL.wRev, VL.wParNE, VL.wParEN, VL.wPar3, VL.wYes, VL.wSeqOf, VL.wRng1, VL.wRng2, VL.oI, VL.oI0, VL.oLt, VL.oLe, VL.oGt, VL.oGe, VL.oSub, VL.oMul, VL.oFdiv, VL.oMod, VL.oPow, VL.oShl', VL.oAbs, VL.oMax2, VL.oMin2, VL.oGcd, VL.atI_0, VL.atI_1, VL.atI_2, VL.ixN_20, VL.ixN_21, and_assoc, VL.shp_int, VL.shp_bool, VL.shp_none, VL.eqv_int, VL.eqv_bool, VL.isiD, VL.tyD, String.reduceBEq, Bool.not_true, Bool.not_false, Bool.and_true, Bool.and_false, Bool.true_and, Bool.false_and, Bool.or_true, Bool.or_false, Bool.true_or, Bool.false_or, decide_true, decide_false, Bool.not_eq_true', Bool.not_eq_eq_eq_not, decide_eq_true_eq, decide_eq_false_iff_not, VL.oInt1, VL.oInt2, VL.oLen, VL.oToInt, VL.oAdd, VL.oEq, VL.oNe, VL.oIsN, VL.oIn, VL.itemD, VL.isN, VL.der, VL.ders, VL.dats, VL.ioA, VL.endsV, VL.retE, VL.keepC, Option.map, List.range_succ, List.range_zero, List.map_cons, List.map_nil, List.map_append, List.nil_append, List.cons_append, List.append_nil, List.replicate_zero, List.replicate_succ, List.length_cons, List.length_nil, Nat.sub_self, List.getElem?_cons_zero, List.getElem?_cons_succ, List.set_cons_zero, List.set_cons_succ, Option.some.injEq, exists_eq_left', exists_eq_left, exists_eq_right, exists_and_left, exists_and_right, and_true, true_and, CV.d.injEq, CV.loc.injEq, Cell.lst.injEq, Cell.dat.injEq, Cell.dic.injEq, PyData.int.injEq, PyData.bool.injEq, PyData.list.injEq, PyData.tuple.injEq, PyData.str.injEq, reduceCtorEq, false_and, and_false, exists_false, false_or, or_false, if_true, if_false, reduceIte, Bool.false_eq_true, Nat.reduceAdd, Nat.reduceSub, Nat.succ_sub_succ, Nat.zero_add, VL.gP, List.filterMap_cons, List.filterMap_nil, List.cons.injEq, VL.wDisp0, VL.wDisp, VL.wPairs, VL.oLcm, VL.wPop, VL.wRevM, VL.wClearM, VL.wTupRg, VL.wListRg, VL.wR1, VL.wR2, VL.wRevN, VL.oRepT, VL.oRepL]
    rw [hE]
    refine tup2 ?_
    have en : (1 + (n : Int)) = ((1 + n : Nat) : Int) := by omega
    rw [en]
    refine place_io (pot := pot) (n := 1 + n) (m := mm) (w := w) rfl rfl rfl rfl P (by omega) (by omega) hmm fun p pot P po => ?_
    refine place_io (pot := pot) (n := 1 + n) (m := mm) (w := w) rfl rfl rfl rfl P (by omega) (by omega) hmm fun q pot P qo => ?_
    refine ⟨_, rfl, by show 2 ≤ sizeLine; decide, ?_⟩
    dsimp only [List.set]
    refine ⟨_, rfl, ?_, ?_⟩
    · rw [List.length_map]
      exact small_size (by omega)
    refine ⟨rs ++ [(p, q)], (rw_snoc _ _ _).symm, (by rw [List.length_append, lr]; rfl), ?_, pot, P, ?_⟩
    · intro r hr
      rcases List.mem_append.mp hr with hr | hr
      · exact okr r hr
      · rw [List.mem_singleton] at hr
        rw [hr]
        exact ⟨po, qo⟩
    · rfl
  · rintro acc ρ ⟨rs, pot, rfl, lr, okr, P, rfl⟩
    rw [rng_len] at lr
    refine ⟨by show 4 < 9; decide, ?_⟩
    show k [.lst true (pot.map .int), .dat (.int 6), .dat (.int 12), .dat (.int mm), .lst false (rs.map rwD), .un, .dat (.int (1 + (n : Int))), .dat (.int w), .un]
    rw [hk]
    clear hk k hE E
    clear hw em hm2
    refine seq_gen fun k hk => ?_
    have go : ∀ (pot : List Int) (rs : List (Pl × Pl)), Pot pot → rs.length = mm → (∀ r ∈ rs, r.1.ok (1 + n) mm ∧ r.2.ok (1 + n) mm) → k [.lst true (pot.map .int), .dat (.int 6), .dat (.int 12), .dat (.int mm), .lst false (rs.map rwD), .un, .dat (.int (1 + (n : Int))), .dat (.int w), .un] := by
      clear okr lr rs P pot
      intro pot rs P lr okr
      rw [hk]
      clear hk k
      refine seq_gen fun k hk => ?_
      have fin : ∀ (p : Pl) (pot : List Int), Pot pot → p.ok (1 + n) mm → k [.lst true (pot.map .int), .dat (.int 6), .dat (.int 12), .dat (.int mm), .lst false (rs.map rwD), .dat p.d, .dat (.int (1 + (n : Int))), .dat (.int w), .un] := by
        intro p pot P po
        rw [hk]
        clear hk k
        have hh := h ⟨1 + n, p, rs⟩ pot P ⟨by show 1 ≤ 1 + n; omega, by show 1 + n ≤ 6; omega, by show rs.length ≤ 12; omega, by rw [← lr] at po; exact po, fun r hr => by rw [← lr] at okr; exact okr r hr⟩
        unfold mcD rsD potC at hh
        simp only [VL.wSeq, VL.wNext, VL.wNever, VL.wAsg, VL.wSet, VL.wVar, VL.wFrz, VL.wC, VL.wOp, VL.wTest, VL.wNotT, VL.wAndT, VL.wOrT, VL.wAnd, VL.wOr, VL.wNot, VL.wIf, VL.wNil, VL.wCons, VL.wTup, VL.wLst, VL.wStay, VL.wNew, VL.wPar, VL.wAug, VL.wDrop, VL.wRet, VL.wRetN, VL.wRet0, VL.wIfS, VL.wBrk, VL.wCnt, VL.wGt, VL.wGs, VL.wCB, VL.wCBN, VL.wCall, VL.wCallN, VL.wCallIo, VL.wCallIoN, VL.wCallK, VL.wIsi, VL.wIsi2, VL.wApp, VL.wExt, VL.wIns, VL.wSetIt, VL.wNoPart, VL.wPart, VL.wSl, VL.wSlN, VL.wChain, VL.wNeg, VL.wDnew, VL.wDput, VL.wDget, VL.wDin, VL.wDnin, VL.wIndex, VL.wRev, VL.wParNE, VL.wParEN, VL.wPar3, VL.wYes, VL.wSeqOf, VL.wRng1, VL.wRng2, VL.oI, VL.oI0, VL.oLt, VL.oLe, VL.oGt, VL.oGe, VL.oSub, VL.oMul, VL.oFdiv, VL.oMod, VL.oPow, VL.oShl', VL.oAbs, VL.oMax2, VL.oMin2, VL.oGcd, VL.atI_0, VL.atI_1, VL.atI_2, VL.ixN_20, VL.ixN_21, and_assoc, VL.shp_int, VL.shp_bool, VL.shp_none, VL.eqv_int, VL.eqv_bool, VL.isiD, VL.tyD, String.reduceBEq, Bool.not_true, Bool.not_false, Bool.and_true, Bool.and_false, Bool.true_and, Bool.false_and, Bool.or_true, Bool.or_false, Bool.true_or, Bool.false_or, decide_true, decide_false, Bool.not_eq_true', Bool.not_eq_eq_eq_not, decide_eq_true_eq, decide_eq_false_iff_not, VL.oInt1, VL.oInt2, VL.oLen, VL.oToInt, VL.oAdd, VL.oEq, VL.oNe, VL.oIsN, VL.oIn, VL.itemD, VL.isN, VL.der, VL.ders, VL.dats, VL.ioA, VL.endsV, VL.retE, VL.keepC, Option.map, List.range_succ, List.range_zero, List.map_cons, List.map_nil, List.map_append, List.nil_append, List.cons_append, List.append_nil, List.replicate_zero, List.replicate_succ, List.length_cons, List.length_nil, Nat.sub_self, List.getElem?_cons_zero, List.getElem?_cons_succ, List.set_cons_zero, List.set_cons_succ, Option.some.injEq, exists_eq_left', exists_eq_left, exists_eq_right, exists_and_left, exists_and_right, and_true, true_and, CV.d.injEq, CV.loc.injEq, Cell.lst.injEq, Cell.dat.injEq, Cell.dic.injEq, PyData.int.injEq, PyData.bool.injEq, PyData.list.injEq, PyData.tuple.injEq, PyData.str.injEq, reduceCtorEq, false_and, and_false, exists_false, false_or, or_false, if_true, if_false, reduceIte, Bool.false_eq_true, Nat.reduceAdd, Nat.reduceSub, Nat.succ_sub_succ, Nat.zero_add, VL.gP, List.filterMap_cons, List.filterMap_nil, List.cons.injEq, VL.wDisp0, VL.wDisp, VL.wPairs, VL.oLcm, VL.wPop, VL.wRevM, VL.wClearM, VL.wTupRg, VL.wListRg, VL.wR1, VL.wR2, VL.wRevN, VL.oRepT, VL.oRepL]
        rw [show ((1 + n : Nat) : Int) = 1 + (n : Int) by omega] at hh
        exact ⟨by decide, hh⟩
      clear hk
      have leaf : ∀ (pot : List Int) (r : Nat), Pot pot → (r : Int) < 1 + (n : Int) → 2 ≤ sizeLine ∧ k [.lst true (pot.map .int), .dat (.int 6), .dat (.int 12), .dat (.int mm), .lst false (rs.map rwD), .dat (.tuple [.str "is", .int r]), .dat (.int (1 + (n : Int))), .dat (.int w), .un] := fun pot r P l => ⟨by decide, fin ⟨false, r⟩ pot P ⟨fun z => (by cases z), fun _ => (by show r < 1 + n; omega)⟩⟩
      have knot : ∀ (pot : List Int) (r : Nat), Pot pot → (r : Int) < mm → 2 ≤ sizeLine ∧ k [.lst true (pot.map .int), .dat (.int 6), .dat (.int 12), .dat (.int mm), .lst false (rs.map rwD), .dat (.tuple [.str "to", .int r]), .dat (.int (1 + (n : Int))), .dat (.int w), .un] := fun pot r P l => ⟨by decide, fin ⟨true, r⟩ pot P ⟨fun _ => (by show r < mm; omega), fun z => (by cases z)⟩⟩
      simp only [VL.wSeq, VL.wNext, VL.wNever, VL.wAsg, VL.wSet, VL.wVar, VL.wFrz, VL.wC, VL.wOp, VL.wTest, VL.wNotT, VL.wAndT, VL.wOrT, VL.wAnd, VL.wOr, VL.wNot, VL.wIf, VL.wNil, VL.wCons, VL.wTup, VL.wLst, VL.wStay, VL.wNew, VL.wPar, VL.wAug, VL.wDrop, VL.wRet, VL.wRetN, VL.wRet0, VL.wIfS, VL.wBrk, VL.wCnt, VL.wGt, VL.wGs, VL.wCB, VL.wCBN, VL.wCall, VL.wCallN, VL.wCallIo, VL.wCallIoN, VL.wCallK, VL.wIsi, VL.wIsi2, VL.wApp, VL.wExt, VL.wIns, VL.wSetIt, VL.wNoPart, VL.wPart, VL.wSl, VL.wSlN, VL.wChain, VL.wNeg, VL.wDnew, VL.wDput, VL.wDget, VL.wDin, VL.wDnin, VL.wIndex, VL.wRev, VL.wParNE, VL.wParEN, VL.wPar3, VL.wYes, VL.wSeqOf, VL.wRng1, VL.wRng2, VL.oI, VL.oI0, VL.oLt, VL.oLe, VL.oGt, VL.oGe, VL.oSub, VL.oMul, VL.oFdiv, VL.oMod, VL.oPow, VL.oShl', VL.oAbs, VL.oMax2, VL.oMin2, VL.oGcd, VL.atI_0, VL.atI_1, VL.atI_2, VL.ixN_20, VL.ixN_21, and_assoc, VL.shp_int, VL.shp_bool, VL.shp_none, VL.eqv_int, VL.eqv_bool, VL.isiD, VL.tyD, String.reduceBEq, Bool.not_true, Bool.not_false, Bool.and_true, Bool.and_false, Bool.true_and, Bool.false_and, Bool.or_true, Bool.or_false, Bool.true_or, Bool.false_or, decide_true, decide_false, Bool.not_eq_true', Bool.not_eq_eq_eq_not, decide_eq_true_eq, decide_eq_false_iff_not, VL.oInt1, VL.oInt2, VL.oLen, VL.oToInt, VL.oAdd, VL.oEq, VL.oNe, VL.oIsN, VL.oIn, VL.itemD, VL.isN, VL.der, VL.ders, VL.dats, VL.ioA, VL.endsV, VL.retE, VL.keepC, Option.map, List.range_succ, List.range_zero, List.map_cons, List.map_nil, List.map_append, List.nil_append, List.cons_append, List.append_nil, List.replicate_zero, List.replicate_succ, List.length_cons, List.length_nil, Nat.sub_self, List.getElem?_cons_zero, List.getElem?_cons_succ, List.set_cons_zero, List.set_cons_succ, Option.some.injEq, exists_eq_left', exists_eq_left, exists_eq_right, exists_and_left, exists_and_right, and_true, true_and, CV.d.injEq, CV.loc.injEq, Cell.lst.injEq, Cell.dat.injEq, Cell.dic.injEq, PyData.int.injEq, PyData.bool.injEq, PyData.list.injEq, PyData.tuple.injEq, PyData.str.injEq, reduceCtorEq, false_and, and_false, exists_false, false_or, or_false, if_true, if_false, reduceIte, Bool.false_eq_true, Nat.reduceAdd, Nat.reduceSub, Nat.succ_sub_succ, Nat.zero_add, VL.gP, List.filterMap_cons, List.filterMap_nil, List.cons.injEq, VL.wDisp0, VL.wDisp, VL.wPairs, VL.oLcm, VL.wPop, VL.wRevM, VL.wClearM, VL.wTupRg, VL.wListRg, VL.wR1, VL.wR2, VL.wRevN, VL.oRepT, VL.oRepL, S__law_take, potC, Prod.mk.injEq]
      split
      · refine ⟨pot, rfl, P, by decide, by decide, fun r pot P _ => ?_⟩
        split
        · exact ⟨pot, rfl, P, by assumption, by omega, fun r pot P l => knot pot r P l⟩
        · exact ⟨pot, rfl, P, by omega, by omega, fun r pot P l => leaf pot r P l⟩
      · exact ⟨pot, rfl, P, by omega, by omega, fun r pot P l => leaf pot r P l⟩
    clear hk
    refine ifs_gen fun X Y hX hY => ?_
    have hy : Y { nx := k, rt := (endsV 3 Q).rt, rn := (endsV 3 Q).rn, bk := (endsV 3 Q).bk, ct := (endsV 3 Q).ct, er := (endsV 3 Q).er } = k := by
      funext ρ
      rw [hY]
      simp only [VL.wSeq, VL.wNext, VL.wNever, VL.wAsg, VL.wSet, VL.wVar, VL.wFrz, VL.wC, VL.wOp, VL.wTest, VL.wNotT, VL.wAndT, VL.wOrT, VL.wAnd, VL.wOr, VL.wNot, VL.wIf, VL.wNil, VL.wCons, VL.wTup, VL.wLst, VL.wStay, VL.wNew, VL.wPar, VL.wAug, VL.wDrop, VL.wRet, VL.wRetN, VL.wRet0, VL.wIfS, VL.wBrk, VL.wCnt, VL.wGt, VL.wGs, VL.wCB, VL.wCBN, VL.wCall, VL.wCallN, VL.wCallIo, VL.wCallIoN, VL.wCallK, VL.wIsi, VL.wIsi2, VL.wApp, VL.wExt, VL.wIns, VL.wSetIt, VL.wNoPart, VL.wPart, VL.wSl, VL.wSlN, VL.wChain, VL.wNeg, VL.wDnew, VL.wDput, VL.wDget, VL.wDin, VL.wDnin, VL.wIndex, VL.wRev, VL.wParNE, VL.wParEN, VL.wPar3, VL.wYes, VL.wSeqOf, VL.wRng1, VL.wRng2, VL.oI, VL.oI0, VL.oLt, VL.oLe, VL.oGt, VL.oGe, VL.oSub, VL.oMul, VL.oFdiv, VL.oMod, VL.oPow, VL.oShl', VL.oAbs, VL.oMax2, VL.oMin2, VL.oGcd, VL.atI_0, VL.atI_1, VL.atI_2, VL.ixN_20, VL.ixN_21, and_assoc, VL.shp_int, VL.shp_bool, VL.shp_none, VL.eqv_int, VL.eqv_bool, VL.isiD, VL.tyD, String.reduceBEq, Bool.not_true, Bool.not_false, Bool.and_true, Bool.and_false, Bool.true_and, Bool.false_and, Bool.or_true, Bool.or_false, Bool.true_or, Bool.false_or, decide_true, decide_false, Bool.not_eq_true', Bool.not_eq_eq_eq_not, decide_eq_true_eq, decide_eq_false_iff_not, VL.oInt1, VL.oInt2, VL.oLen, VL.oToInt, VL.oAdd, VL.oEq, VL.oNe, VL.oIsN, VL.oIn, VL.itemD, VL.isN, VL.der, VL.ders, VL.dats, VL.ioA, VL.endsV, VL.retE, VL.keepC, Option.map, List.range_succ, List.range_zero, List.map_cons, List.map_nil, List.map_append, List.nil_append, List.cons_append, List.append_nil, List.replicate_zero, List.replicate_succ, List.length_cons, List.length_nil, Nat.sub_self, List.getElem?_cons_zero, List.getElem?_cons_succ, List.set_cons_zero, List.set_cons_succ, Option.some.injEq, exists_eq_left', exists_eq_left, exists_eq_right, exists_and_left, exists_and_right, and_true, true_and, CV.d.injEq, CV.loc.injEq, Cell.lst.injEq, Cell.dat.injEq, Cell.dic.injEq, PyData.int.injEq, PyData.bool.injEq, PyData.list.injEq, PyData.tuple.injEq, PyData.str.injEq, reduceCtorEq, false_and, and_false, exists_false, false_or, or_false, if_true, if_false, reduceIte, Bool.false_eq_true, Nat.reduceAdd, Nat.reduceSub, Nat.succ_sub_succ, Nat.zero_add, VL.gP, List.filterMap_cons, List.filterMap_nil, List.cons.injEq, VL.wDisp0, VL.wDisp, VL.wPairs, VL.oLcm, VL.wPop, VL.wRevM, VL.wClearM, VL.wTupRg, VL.wListRg, VL.wR1, VL.wR2, VL.wRevN, VL.oRepT, VL.oRepL]
    have sw : ∀ (w' : WEn) (pot : List Int), w'.nx = k → Pot pot → 0 < mm → X w' [.lst true (pot.map .int), .dat (.int 6), .dat (.int 12), .dat (.int mm), .lst false (rs.map rwD), .un, .dat (.int (1 + (n : Int))), .dat (.int w), .un] := by
      intro w' pot ew P m0
      rw [hX]
      unfold wSetIt wOp
      refine var_loc rfl ?_
      refine take_io (pot := pot) (m := mm) rfl (fun P h => h) P (by omega) (by omega) fun r1 pot P l1 => ?_
      refine ⟨_, _, rfl, rfl, _, rw_ix (⟨true, 0⟩, ⟨true, 0⟩) (by omega), ?_⟩
      refine ⟨_, rfl, ⟨_, _, rfl⟩, ?_⟩
      refine take_io (pot := pot) (m := mm) rfl (fun P h => h) P (by omega) (by omega) fun r2 pot P l2 => ?_
      refine ⟨r2, r2, false, _, rfl, rfl, ?_, ?_⟩
      · rw [List.length_map]
        simp [ixN]
        omega
      · rw [ew]
        dsimp only [List.set]
        rw [← List.map_set]
        refine go pot _ P (by rw [List.length_set]; exact lr) fun r hr => ?_
        rcases List.mem_or_eq_of_mem_set hr with hr | rfl
        · exact okr r hr
        · exact okr _ (getD_mem _ (by omega))
    have ny : ∀ (w' : WEn) (ρ : En), Y w' ρ = w'.nx ρ := by
      intro w' ρ
      rw [hY]
      simp only [VL.wSeq, VL.wNext, VL.wNever, VL.wAsg, VL.wSet, VL.wVar, VL.wFrz, VL.wC, VL.wOp, VL.wTest, VL.wNotT, VL.wAndT, VL.wOrT, VL.wAnd, VL.wOr, VL.wNot, VL.wIf, VL.wNil, VL.wCons, VL.wTup, VL.wLst, VL.wStay, VL.wNew, VL.wPar, VL.wAug, VL.wDrop, VL.wRet, VL.wRetN, VL.wRet0, VL.wIfS, VL.wBrk, VL.wCnt, VL.wGt, VL.wGs, VL.wCB, VL.wCBN, VL.wCall, VL.wCallN, VL.wCallIo, VL.wCallIoN, VL.wCallK, VL.wIsi, VL.wIsi2, VL.wApp, VL.wExt, VL.wIns, VL.wSetIt, VL.wNoPart, VL.wPart, VL.wSl, VL.wSlN, VL.wChain, VL.wNeg, VL.wDnew, VL.wDput, VL.wDget, VL.wDin, VL.wDnin, VL.wIndex, VL.wRev, VL.wParNE, VL.wParEN, VL.wPar3, VL.wYes, VL.wSeqOf, VL.wRng1, VL.wRng2, VL.oI, VL.oI0, VL.oLt, VL.oLe, VL.oGt, VL.oGe, VL.oSub, VL.oMul, VL.oFdiv, VL.oMod, VL.oPow, VL.oShl', VL.oAbs, VL.oMax2, VL.oMin2, VL.oGcd, VL.atI_0, VL.atI_1, VL.atI_2, VL.ixN_20, VL.ixN_21, and_assoc, VL.shp_int, VL.shp_bool, VL.shp_none, VL.eqv_int, VL.eqv_bool, VL.isiD, VL.tyD, String.reduceBEq, Bool.not_true, Bool.not_false, Bool.and_true, Bool.and_false, Bool.true_and, Bool.false_and, Bool.or_true, Bool.or_false, Bool.true_or, Bool.false_or, decide_true, decide_false, Bool.not_eq_true', Bool.not_eq_eq_eq_not, decide_eq_true_eq, decide_eq_false_iff_not, VL.oInt1, VL.oInt2, VL.oLen, VL.oToInt, VL.oAdd, VL.oEq, VL.oNe, VL.oIsN, VL.oIn, VL.itemD, VL.isN, VL.der, VL.ders, VL.dats, VL.ioA, VL.endsV, VL.retE, VL.keepC, Option.map, List.range_succ, List.range_zero, List.map_cons, List.map_nil, List.map_append, List.nil_append, List.cons_append, List.append_nil, List.replicate_zero, List.replicate_succ, List.length_cons, List.length_nil, Nat.sub_self, List.getElem?_cons_zero, List.getElem?_cons_succ, List.set_cons_zero, List.set_cons_succ, Option.some.injEq, exists_eq_left', exists_eq_left, exists_eq_right, exists_and_left, exists_and_right, and_true, true_and, CV.d.injEq, CV.loc.injEq, Cell.lst.injEq, Cell.dat.injEq, Cell.dic.injEq, PyData.int.injEq, PyData.bool.injEq, PyData.list.injEq, PyData.tuple.injEq, PyData.str.injEq, reduceCtorEq, false_and, and_false, exists_false, false_or, or_false, if_true, if_false, reduceIte, Bool.false_eq_true, Nat.reduceAdd, Nat.reduceSub, Nat.succ_sub_succ, Nat.zero_add, VL.gP, List.filterMap_cons, List.filterMap_nil, List.cons.injEq, VL.wDisp0, VL.wDisp, VL.wPairs, VL.oLcm, VL.wPop, VL.wRevM, VL.wClearM, VL.wTupRg, VL.wListRg, VL.wR1, VL.wR2, VL.wRevN, VL.oRepT, VL.oRepL]
    clear hX hY hy
    simp only [VL.wSeq, VL.wNext, VL.wNever, VL.wAsg, VL.wSet, VL.wVar, VL.wFrz, VL.wC, VL.wOp, VL.wTest, VL.wNotT, VL.wAndT, VL.wOrT, VL.wAnd, VL.wOr, VL.wNot, VL.wIf, VL.wNil, VL.wCons, VL.wTup, VL.wLst, VL.wStay, VL.wNew, VL.wPar, VL.wAug, VL.wDrop, VL.wRet, VL.wRetN, VL.wRet0, VL.wIfS, VL.wBrk, VL.wCnt, VL.wGt, VL.wGs, VL.wCB, VL.wCBN, VL.wCall, VL.wCallN, VL.wCallIo, VL.wCallIoN, VL.wCallK, VL.wIsi, VL.wIsi2, VL.wApp, VL.wExt, VL.wIns, VL.wSetIt, VL.wNoPart, VL.wPart, VL.wSl, VL.wSlN, VL.wChain, VL.wNeg, VL.wDnew, VL.wDput, VL.wDget, VL.wDin, VL.wDnin, VL.wIndex, VL.wRev, VL.wParNE, VL.wParEN, VL.wPar3, VL.wYes, VL.wSeqOf, VL.wRng1, VL.wRng2, VL.oI, VL.oI0, VL.oLt, VL.oLe, VL.oGt, VL.oGe, VL.oSub, VL.oMul, VL.oFdiv, VL.oMod, VL.oPow, VL.oShl', VL.oAbs, VL.oMax2, VL.oMin2, VL.oGcd, VL.atI_0, VL.atI_1, VL.atI_2, VL.ixN_20, VL.ixN_21, and_assoc, VL.shp_int, VL.shp_bool, VL.shp_none, VL.eqv_int, VL.eqv_bool, VL.isiD, VL.tyD, String.reduceBEq, Bool.not_true, Bool.not_false, Bool.and_true, Bool.and_false, Bool.true_and, Bool.false_and, Bool.or_true, Bool.or_false, Bool.true_or, Bool.false_or, decide_true, decide_false, Bool.not_eq_true', Bool.not_eq_eq_eq_not, decide_eq_true_eq, decide_eq_false_iff_not, VL.oInt1, VL.oInt2, VL.oLen, VL.oToInt, VL.oAdd, VL.oEq, VL.oNe, VL.oIsN, VL.oIn, VL.itemD, VL.isN, VL.der, VL.ders, VL.dats, VL.ioA, VL.endsV, VL.retE, VL.keepC, Option.map, List.range_succ, List.range_zero, List.map_cons, List.map_nil, List.map_append, List.nil_append, List.cons_append, List.append_nil, List.replicate_zero, List.replicate_succ, List.length_cons, List.length_nil, Nat.sub_self, List.getElem?_cons_zero, List.getElem?_cons_succ, List.set_cons_zero, List.set_cons_succ, Option.some.injEq, exists_eq_left', exists_eq_left, exists_eq_right, exists_and_left, exists_and_right, and_true, true_and, CV.d.injEq, CV.loc.injEq, Cell.lst.injEq, Cell.dat.injEq, Cell.dic.injEq, PyData.int.injEq, PyData.bool.injEq, PyData.list.injEq, PyData.tuple.injEq, PyData.str.injEq, reduceCtorEq, false_and, and_false, exists_false, false_or, or_false, if_true, if_false, reduceIte, Bool.false_eq_true, Nat.reduceAdd, Nat.reduceSub, Nat.succ_sub_succ, Nat.zero_add, VL.gP, List.filterMap_cons, List.filterMap_nil, List.cons.injEq, VL.wDisp0, VL.wDisp, VL.wPairs, VL.oLcm, VL.wPop, VL.wRevM, VL.wClearM, VL.wTupRg, VL.wListRg, VL.wR1, VL.wR2, VL.wRevN, VL.oRepT, VL.oRepL, S__law_take, potC, Prod.mk.injEq, ny]
    split
    · refine ⟨pot, rfl, P, by decide, by decide, fun r pot P _ => ?_⟩
      split
      · exact sw _ pot rfl P (by omega)
      · exact go pot rs P lr okr
    · exact go pot rs P lr okr
end K13
end
section
set_option autoImplicit false
set_option maxRecDepth 100000
set_option maxHeartbeats 4000000
namespace K13
open PySem PySem.Spec PyProof.Rows L2 VL
theorem key_inj {p q : Pl} (h : p.key = q.key) : p = q := by
  obtain ⟨a, i⟩ := p
  obtain ⟨b, j⟩ := q
  unfold Pl.key Pl.w at h
  injection h with h1 h2
  injection h1 with h1
  injection h2 with h2 _
  injection h2 with h2
  have e : i = j := Int.ofNat.inj h2
  subst e
  cases a <;> cases b
  · rfl
  · exact absurd (show ("is" : Str) = "to" from h1) (by decide)
  · exact absurd (show ("to" : Str) = "is" from h1) (by decide)
  · rfl
theorem key_dec (p q : Pl) : decide (p.key = q.key) = decide (p = q) := by
  by_cases h : p = q
  · rw [h, decide_eq_true rfl, decide_eq_true rfl]
  · rw [decide_eq_false h, decide_eq_false fun z => h (key_inj z)]
theorem getK_cons (p q : Pl) (x : Nat) (f : Kv) : getK ((p, x) :: f) q = if p = q then x else getK f q := by
  unfold getK
  rw [List.find?_cons]
  by_cases h : p = q
  · simp [h]
  · simp [h]
theorem val_get (q : Pl) : ∀ f : Kv, (valD (kvK f) q.key).getD (.int 0) = .int (getK f q : Nat)
  | [] => rfl
  | (p, x) :: f => by
    have ih := val_get q f
    rw [getK_cons]
    unfold valD kvK at *
    rw [List.map_cons, List.find?_cons]
    show (Option.map _ (match decide (p.key = q.key) with | true => some _ | false => _)).getD _ = _
    rw [key_dec]
    by_cases h : p = q
    · rw [decide_eq_true h, if_pos h]
      rfl
    · rw [decide_eq_false h, if_neg h]
      exact ih
theorem val_some {q : Pl} {x : Nat} : ∀ {f : Kv}, (f.map (·.1)).Nodup → (q, x) ∈ f → valD (kvK f) q.key = some (.int (x : Nat))
  | [], _, h => by cases h
  | (p, y) :: f, nd, h => by
    unfold valD kvK at *
    rw [List.map_cons, List.find?_cons]
    show Option.map _ (match decide (p.key = q.key) with | true => some _ | false => _) = _
    rw [key_dec]
    rw [List.map_cons, List.nodup_cons] at nd
    rcases List.mem_cons.mp h with e | m
    · cases e
      rw [decide_eq_true rfl]
      rfl
    · have : p ≠ q := fun z => nd.1 (by rw [z]; exact List.mem_map.mpr ⟨(q, x), m, rfl⟩)
      rw [decide_eq_false this]
      exact val_some nd.2 m
theorem any_key (q : Pl) (f : Kv) : ((kvK f).any fun kv => decide (kv.1 = q.key)) = f.any fun kv => decide (kv.1 = q) := by
  unfold kvK
  rw [List.any_map]
  congr 1
  funext kv
  exact key_dec _ _
theorem put_put (f : Kv) (q : Pl) (v : Nat) : putD (kvK f) q.key (.int (v : Nat)) = kvK (putK f q v) := by
  unfold putD putK
  rw [any_key]
  split
  · unfold kvK
    rw [List.map_map, List.map_map]
    refine List.map_congr_left fun kv _ => ?_
    show (if kv.1.key = q.key then (kv.1.key, PyData.int v) else (kv.1.key, PyData.int kv.2)) = ((if kv.1 = q then (kv.1, v) else kv).1.key, PyData.int ((if kv.1 = q then (kv.1, v) else kv).2 : Nat))
    by_cases h : kv.1 = q
    · rw [if_pos h, if_pos (by rw [h])]
    · rw [if_neg h, if_neg fun z => h (key_inj z)]
  · unfold kvK
    rw [List.map_append]
    rfl
def wsum (g : Pl → Nat) (f : Kv) : Nat := (f.map fun kv => kv.2 * g kv.1).sum
theorem wsum_cons (g : Pl → Nat) (kv : Pl × Nat) (f : Kv) : wsum g (kv :: f) = kv.2 * g kv.1 + wsum g f := by
  unfold wsum
  rw [List.map_cons, List.sum_cons]
theorem map_same {q : Pl} {v : Nat} : ∀ {f : Kv}, (∀ kv ∈ f, kv.1 ≠ q) → f.map (fun kv => if kv.1 = q then (kv.1, v) else kv) = f
  | [], _ => rfl
  | kv :: f, h => by
    rw [List.map_cons, if_neg (h kv (List.mem_cons_self ..)), map_same fun x m => h x (List.mem_cons_of_mem _ m)]
theorem putK_cons_ne {p q : Pl} {x v : Nat} {f : Kv} (h : p ≠ q) : putK ((p, x) :: f) q v = (p, x) :: putK f q v := by
  unfold putK
  rw [List.any_cons, decide_eq_false h, Bool.false_or]
  split
  · rw [List.map_cons, if_neg h]
  · rfl
theorem putK_cons_eq {q : Pl} {x v : Nat} {f : Kv} (h : ∀ kv ∈ f, kv.1 ≠ q) : putK ((q, x) :: f) q v = (q, v) :: f := by
  unfold putK
  rw [List.any_cons, decide_eq_true rfl, Bool.true_or, if_pos rfl, List.map_cons, if_pos rfl, map_same h]
theorem nd_ne {p : Pl} {x : Nat} {f : Kv} (h : (((p, x) :: f).map (·.1)).Nodup) : (∀ kv ∈ f, kv.1 ≠ p) ∧ (f.map (·.1)).Nodup := by
  rw [List.map_cons, List.nodup_cons] at h
  exact ⟨fun kv m z => h.1 (by rw [← z]; exact List.mem_map.mpr ⟨kv, m, rfl⟩), h.2⟩
theorem put_sum (g : Pl → Nat) (q : Pl) (v : Nat) : ∀ f : Kv, (f.map (·.1)).Nodup → wsum g (putK f q v) + getK f q * g q = wsum g f + v * g q
  | [], _ => by
    show wsum g [(q, v)] + 0 * g q = wsum g [] + v * g q
    rw [wsum_cons]
    simp [wsum]
  | (p, x) :: f, nd => by
    obtain ⟨h1, h2⟩ := nd_ne nd
    rw [getK_cons]
    by_cases h : p = q
    · subst h
      rw [if_pos rfl, putK_cons_eq h1, wsum_cons, wsum_cons]
      show v * g p + wsum g f + x * g p = x * g p + wsum g f + v * g p
      omega
    · have ih := put_sum g q v f h2
      rw [if_neg h, putK_cons_ne h, wsum_cons, wsum_cons]
      omega
theorem add_sum (g : Pl → Nat) (q : Pl) (c : Nat) {f : Kv} (nd : (f.map (·.1)).Nodup) : wsum g (addK f q c) = wsum g f + c * g q := by
  have h := put_sum g q (getK f q + c) f nd
  unfold addK
  rw [Nat.add_mul] at h
  omega
theorem get_sum (q : Pl) : ∀ f : Kv, (f.map (·.1)).Nodup → wsum (fun p => if p = q then 1 else 0) f = getK f q
  | [], _ => rfl
  | (p, x) :: f, nd => by
    obtain ⟨h1, h2⟩ := nd_ne nd
    rw [wsum_cons, getK_cons, get_sum q f h2]
    show x * (if p = q then 1 else 0) + getK f q = _
    by_cases h : p = q
    · subst h
      rw [if_pos rfl, if_pos rfl]
      have : getK f p = 0 := by
        unfold getK
        rw [List.find?_eq_none.mpr fun kv m => by simp [h1 kv m]]
        rfl
      omega
    · rw [if_neg h, if_neg h]
      omega
theorem put_keys (q : Pl) (v : Nat) : ∀ f : Kv, (putK f q v).map (·.1) = if q ∈ f.map (·.1) then f.map (·.1) else f.map (·.1) ++ [q]
  | [] => rfl
  | (p, x) :: f => by
    by_cases h : p = q
    · subst h
      rw [if_pos (by simp)]
      unfold putK
      rw [List.any_cons, decide_eq_true rfl, Bool.true_or, if_pos rfl, List.map_map]
      refine List.map_congr_left fun kv _ => ?_
      show (if kv.1 = p then (kv.1, v) else kv).1 = kv.1
      split <;> rfl
    · have ih := put_keys q v f
      rw [putK_cons_ne h, List.map_cons, ih, List.map_cons]
      by_cases m : q ∈ f.map (·.1)
      · rw [if_pos m, if_pos (List.mem_cons_of_mem _ m)]
      · rw [if_neg m, if_neg (by
          intro z
          rcases List.mem_cons.mp z with z | z
          · exact h z.symm
          · exact m z)]
        rfl
theorem nodup_len : ∀ (n : Nat) (l : List Nat), l.Nodup → (∀ x ∈ l, x < n) → l.length ≤ n
  | 0, l, _, h => by
    cases l with
    | nil => exact Nat.le_refl _
    | cons x l => exact absurd (h x (List.mem_cons_self ..)) (by omega)
  | n + 1, l, nd, h => by
    by_cases m : n ∈ l
    · have ih := nodup_len n (l.erase n) (nd.erase n) fun x hx => by
        obtain ⟨h1, h2⟩ := (nd.mem_erase_iff).mp hx
        have := h x h2
        omega
      rw [List.length_erase_of_mem m] at ih
      omega
    · have ih := nodup_len n l nd fun x hx => by
        have := h x hx
        have : x ≠ n := fun z => m (z ▸ hx)
        omega
      omega
def code (n : Nat) (p : Pl) : Nat := if p.to = true then n + p.i else p.i
theorem code_inj {n m : Nat} {p q : Pl} (hp : p.ok n m) (hq : q.ok n m) (h : code n p = code n q) : p = q := by
  obtain ⟨a, i⟩ := p
  obtain ⟨b, j⟩ := q
  obtain ⟨_, p2⟩ := hp
  obtain ⟨_, q2⟩ := hq
  unfold code at h
  cases a <;> cases b
  · have e : i = j := h
    rw [e]
  · have e : i = n + j := h
    have : i < n := p2 rfl
    omega
  · have e : n + i = j := h
    have : j < n := q2 rfl
    omega
  · have e : n + i = n + j := h
    rw [show i = j by omega]
theorem len_ok {M : Mc} {f : Kv} (h : KvOk M f) : f.length ≤ M.n + M.rs.length := by
  have ok : ∀ p ∈ f.map (·.1), p.ok M.n M.rs.length := fun p m => by
    obtain ⟨kv, m2, rfl⟩ := List.mem_map.mp m
    exact h.ok kv m2
  have nd : ((f.map (·.1)).map (code M.n)).Nodup := by
    unfold List.Nodup
    rw [List.pairwise_map]
    exact List.Pairwise.imp_of_mem (fun ma mb ne z => ne (code_inj (ok _ ma) (ok _ mb) z)) h.nd
  have l := nodup_len (M.n + M.rs.length) _ nd fun x m => by
    obtain ⟨p, m2, rfl⟩ := List.mem_map.mp m
    have o := ok p m2
    unfold code
    split
    · have := o.1 (by assumption)
      omega
    · have := o.2 (by simpa using (by assumption : ¬ p.to = true))
      omega
  rw [List.length_map, List.length_map] at l
  exact l
theorem add_ok {M : Mc} {f : Kv} (h : KvOk M f) {q : Pl} (o : q.ok M.n M.rs.length) (c : Nat) : KvOk M (addK f q c) := by
  unfold addK
  have k := put_keys q (getK f q + c) f
  generalize putK f q (getK f q + c) = f' at *
  refine ⟨?_, fun kv m => ?_⟩
  · rw [k]
    split
    · exact h.nd
    · rename_i n
      rw [List.nodup_append]
      exact ⟨h.nd, by simp, fun a ma b mb => by
        rw [List.mem_singleton] at mb
        subst mb
        exact fun z => n (z ▸ ma)⟩
  · have m' : kv.1 ∈ f'.map (·.1) := List.mem_map.mpr ⟨kv, m, rfl⟩
    rw [k] at m'
    have old : kv.1 ∈ f.map (·.1) → kv.1.ok M.n M.rs.length := fun m => by
      obtain ⟨x, mx, e⟩ := List.mem_map.mp m
      rw [← e]
      exact h.ok x mx
    split at m'
    · exact old m'
    · rcases List.mem_append.mp m' with m' | m'
      · exact old m'
      · rw [List.mem_singleton] at m'
        rw [m']
        exact o
theorem add2_ok {M : Mc} (ok : M.Ok) {f : Kv} (h : KvOk M f) {kv : Pl × Nat} (o : kv.1.ok M.n M.rs.length) : KvOk M (add2 M f kv) := by
  unfold add2
  split
  · exact add_ok (add_ok h (nx_ok ok (by assumption) o 0) _) (nx_ok ok (by assumption) o 1) _
  · exact h
theorem fold_ok {M : Mc} (ok : M.Ok) : ∀ (kvs f : Kv), KvOk M f → (∀ kv ∈ kvs, kv.1.ok M.n M.rs.length) → KvOk M (kvs.foldl (add2 M) f)
  | [], f, h, _ => h
  | kv :: kvs, f, h, o => fold_ok ok kvs _ (add2_ok ok h (o kv (List.mem_cons_self ..))) fun x m => o x (List.mem_cons_of_mem _ m)
theorem nil_ok (M : Mc) : KvOk M [] := ⟨by simp, fun kv m => by cases m⟩
theorem lvl_ok {M : Mc} (ok : M.Ok) {kvs : Kv} (h : KvOk M kvs) : KvOk M (lvl M kvs) := fold_ok ok kvs [] (nil_ok M) h.ok
theorem cnts_ok {M : Mc} (ok : M.Ok) : ∀ k : Nat, KvOk M (cnts M k)
  | 0 => ⟨by simp [cnts], fun kv m => by
    rw [cnts, List.mem_singleton] at m
    rw [m]
    exact ok.b⟩
  | k + 1 => lvl_ok ok (cnts_ok ok k)
def g2 (M : Mc) (g : Pl → Nat) (p : Pl) : Nat := if p.to = true then g (M.next p 0) + g (M.next p 1) else 0
theorem fold_sum {M : Mc} (ok : M.Ok) (g : Pl → Nat) : ∀ (kvs f : Kv), KvOk M f → (∀ kv ∈ kvs, kv.1.ok M.n M.rs.length) → wsum g (kvs.foldl (add2 M) f) = wsum g f + wsum (g2 M g) kvs
  | [], f, _, _ => by simp [wsum]
  | kv :: kvs, f, h, o => by
    have o1 := o kv (List.mem_cons_self ..)
    have ih := fold_sum ok g kvs (add2 M f kv) (add2_ok ok h o1) fun x m => o x (List.mem_cons_of_mem _ m)
    rw [List.foldl_cons, ih, wsum_cons]
    have e : wsum g (add2 M f kv) = wsum g f + kv.2 * g2 M g kv.1 := by
      unfold add2 g2
      split
      · rename_i t
        have a := add_ok h (nx_ok ok t o1 0) kv.2
        rw [add_sum g _ _ a.nd, add_sum g _ _ h.nd, Nat.mul_add]
        omega
      · simp
    omega
def rowsN : Nat → List (List Nat)
  | 0 => [[]]
  | k + 1 => (rowsN k).map (· ++ [0]) ++ (rowsN k).map (· ++ [1])
def gO (g : Pl → Nat) : Option Pl → Nat
  | some p => g p
  | none => 0
theorem gO_two (M : Mc) (g : Pl → Nat) (o : Option Pl) : gO g (com1 M o 0) + gO g (com1 M o 1) = gO (g2 M g) o := by
  cases o with
  | none => rfl
  | some p =>
    show gO g (if p.to = true then some (M.next p 0) else none) + gO g (if p.to = true then some (M.next p 1) else none) = (if p.to = true then _ else 0)
    split <;> rfl
theorem sum_add {α : Type} (f g : α → Nat) : ∀ l : List α, (l.map f).sum + (l.map g).sum = (l.map fun x => f x + g x).sum
  | [] => rfl
  | x :: l => by
    have := sum_add f g l
    simp only [List.map_cons, List.sum_cons]
    omega
theorem rows_sum {M : Mc} (ok : M.Ok) : ∀ (k : Nat) (g : Pl → Nat), wsum g (cnts M k) = ((rowsN k).map fun r => gO g (com M r)).sum
  | 0, g => by
    show wsum g [(M.b, 1)] = gO g (some M.b) + 0
    rw [wsum_cons]
    simp [wsum, gO]
  | k + 1, g => by
    have h : wsum g (cnts M (k + 1)) = wsum g [] + wsum (g2 M g) (cnts M k) := fold_sum ok g (cnts M k) [] (nil_ok M) (cnts_ok ok k).ok
    rw [h, rows_sum ok k, rowsN, List.map_append, List.sum_append, List.map_map, List.map_map, sum_add]
    show 0 + _ = _
    rw [Nat.zero_add]
    congr 1
    refine List.map_congr_left fun r _ => ?_
    show gO (g2 M g) (com M r) = gO g (com M (r ++ [0])) + gO g (com M (r ++ [1]))
    rw [com_snoc, com_snoc, gO_two]
theorem sum_count {α : Type} (p : α → Bool) : ∀ l : List α, (l.map fun x => if p x = true then 1 else 0).sum = l.countP p
  | [] => rfl
  | x :: l => by
    rw [List.map_cons, List.sum_cons, List.countP_cons, sum_count p l]
    split <;> omega
theorem leaf_count {M : Mc} (ok : M.Ok) (k : Nat) (q : Pl) : getK (cnts M k) q = (rowsN k).countP fun r => decide (com M r = some q) := by
  rw [← get_sum q _ (cnts_ok ok k).nd, rows_sum ok k, ← sum_count]
  congr 1
  refine List.map_congr_left fun r _ => ?_
  cases e : com M r with
  | none =>
    rw [decide_eq_false (by simp)]
    rfl
  | some p =>
    show (if p = q then 1 else 0) = _
    by_cases h : p = q
    · rw [if_pos h, decide_eq_true (by rw [h]), if_pos rfl]
    · rw [if_neg h, decide_eq_false (by simpa using h), if_neg (by decide)]
end K13
end
section
set_option autoImplicit false
set_option maxRecDepth 100000
set_option maxHeartbeats 4000000
namespace K13
open PySem PySem.Spec PyProof.Rows L2 VL
theorem kvK_len (f : Kv) : (kvK f).length = f.length := List.length_map ..
theorem put_step {a b : Nat} {t : WE} {ρ : En} {w : WEn} {f : Kv} {q : Pl} {c : Nat} (h1 : ρ[a]? = some (.dit (kvK f))) (h2 : ρ[b]? = some (.dat q.d)) (ht : ∀ P : CV → En → Prop, P (.d (.int c)) ρ → t ρ P) (l : f.length < sizeLine)
    (h : w.nx (ρ.set a (.dit (kvK (addK f q c))))) : wTputK a (wVar b) (wOp oAdd (wTGet2 a (wVar b) (wC (.int 0))) t) w ρ := by
  unfold wTputK wOp wTGet2
  refine ⟨⟨_, h1⟩, var_dat h2 ⟨q.key, rfl, ?_⟩⟩
  show ∃ z kvs, _
  refine ⟨.int 0, kvK f, rfl, h1, ?_⟩
  refine ht _ ⟨_, _, rfl, rfl, ?_⟩
  rw [val_get]
  refine add_i ⟨_, rfl, ⟨_, h1⟩, var_dat h2 ⟨q.key, kvK f, rfl, h1, by rw [kvK_len]; exact l, ?_⟩⟩
  rw [← Int.natCast_add, put_put]
  exact h
theorem it_at {kvs : Kv} {i : Nat} {d : D} (h : ((kvK kvs).map fun kv => PyData.tuple [keyT kv.1, kv.2])[i]? = some d) : ∃ kv : Pl × Nat, d = .tuple [kv.1.d, .int (kv.2 : Nat)] ∧ kvs[i]? = some kv ∧ kv ∈ kvs := by
  unfold kvK at h
  rw [List.getElem?_map, List.getElem?_map] at h
  cases e : kvs[i]? with
  | none =>
    rw [e] at h
    cases h
  | some t =>
    rw [e] at h
    cases h
    exact ⟨t, rfl, rfl, List.mem_of_getElem? e⟩
theorem k_at {kvs : Kv} {i : Nat} {d : D} (h : ((kvK kvs).map fun kv => keyT kv.1)[i]? = some d) : ∃ kv : Pl × Nat, d = kv.1.d ∧ kvs[i]? = some kv ∧ kv ∈ kvs := by
  unfold kvK at h
  rw [List.getElem?_map, List.getElem?_map] at h
  cases e : kvs[i]? with
  | none =>
    rw [e] at h
    cases h
  | some t =>
    rw [e] at h
    cases h
    exact ⟨t, rfl, rfl, List.mem_of_getElem? e⟩
/-- the two places of a row put in, so far -/
def tw (M : Mc) (f : Kv) (p : Pl) (c : Nat) : Nat → Kv
  | 0 => f
  | 1 => addK f (M.next p 0) c
  | _ => addK (addK f (M.next p 0) c) (M.next p 1) c
theorem tw_ok {M : Mc} (ok : M.Ok) {f : Kv} (h : KvOk M f) {p : Pl} (t : p.to = true) (o : p.ok M.n M.rs.length) (c j : Nat) : KvOk M (tw M f p c j) := by
  match j with
  | 0 => exact h
  | 1 => exact add_ok h (nx_ok ok t o 0) c
  | j + 2 => exact add_ok (add_ok h (nx_ok ok t o 0) c) (nx_ok ok t o 1) c
theorem two_at {M : Mc} {p : Pl} {j : Nat} {d : D} (h : [(M.rs.getD p.i (M.b, M.b)).1.d, (M.rs.getD p.i (M.b, M.b)).2.d][j]? = some d) (f : Kv) (c : Nat) : ∃ q, d = q.d ∧ tw M f p c (j + 1) = addK (tw M f p c j) q c := by
  match j, h with
  | 0, h =>
    cases h
    exact ⟨_, rfl, rfl⟩
  | 1, h =>
    cases h
    exact ⟨_, rfl, rfl⟩
theorem kv_size {M : Mc} (ok : M.Ok) {f : Kv} (h : KvOk M f) : f.length < sizeLine := by
  have := len_ok h
  have := ok.n6
  have := ok.m
  exact small_size (by omega)
theorem h_counts_below (ρ : En) (Q : RV → En → Prop) (h : S_counts_below ρ Q) : t_counts_below (endsV 2 Q) (ρ ++ List.replicate (6 - 2) .un) := by
  obtain ⟨M, kvs, rfl, ok, kok, h⟩ := h
  unfold t_counts_below rsD
  refine seq_gen fun k hk => ?_
  simp only [VL.wSeq, VL.wNext, VL.wNever, VL.wAsg, VL.wSet, VL.wVar, VL.wFrz, VL.wC, VL.wOp, VL.wTest, VL.wNotT, VL.wAndT, VL.wOrT, VL.wAnd, VL.wOr, VL.wNot, VL.wIf, VL.wNil, VL.wCons, VL.wTup, VL.wLst, VL.wStay, VL.wNew, VL.wPar, VL.wAug, VL.wDrop, VL.wRet, VL.wRetN, VL.wRet0, VL.wIfS, VL.wBrk, VL.wCnt, VL.wGt, VL.wGs, VL.wCB, VL.wCBN, VL.wCall, VL.wCallN, VL.wCallIo, VL.wCallIoN, VL.wCallK, VL.wIsi, VL.wIsi2, VL.wApp, VL.wExt, VL.wIns, VL.wSetIt, VL.wNoPart, VL.wPart, VL.wSl, VL.wSlN, VL.wChain, VL.wNeg, VL.wDnew, VL.wDput, VL.wDget, VL.wDin, VL.wDnin, VL.wIndex, VL.wRev, VL.wParNE, VL.wParEN, VL.wPar3, VL.wYes, VL.wSeqOf, VL.wRng1, VL.wRng2, VL.oI, VL.oI0, VL.oLt, VL.oLe, VL.oGt, VL.oGe, VL.oSub, VL.oMul, VL.oFdiv, VL.oMod, VL.oPow, VL.oShl', VL.oAbs, VL.oMax2, VL.oMin2, VL.oGcd, VL.atI_0, VL.atI_1, VL.atI_2, VL.ixN_20, VL.ixN_21, and_assoc, VL.shp_int, VL.shp_bool, VL.shp_none, VL.eqv_int, VL.eqv_bool, VL.isiD, VL.tyD, String.reduceBEq, Bool.not_true, Bool.not_false, Bool.and_true, Bool.and_false, Bool.true_and, Bool.false_and, Bool.or_true, Bool.or_false, Bool.true_or, Bool.false_or, decide_true, decide_false, Bool.not_eq_true', Bool.not_eq_eq_eq_not, decide_eq_true_eq, decide_eq_false_iff_not, VL.oInt1, VL.oInt2, VL.oLen, VL.oToInt, VL.oAdd, VL.oEq, VL.oNe, VL.oIsN, VL.oIn, VL.itemD, VL.isN, VL.der, VL.ders, VL.dats, VL.ioA, VL.endsV, VL.retE, VL.keepC, Option.map, List.range_succ, List.range_zero, List.map_cons, List.map_nil, List.map_append, List.nil_append, List.cons_append, List.append_nil, List.replicate_zero, List.replicate_succ, List.length_cons, List.length_nil, Nat.sub_self, List.getElem?_cons_zero, List.getElem?_cons_succ, List.set_cons_zero, List.set_cons_succ, Option.some.injEq, exists_eq_left', exists_eq_left, exists_eq_right, exists_and_left, exists_and_right, and_true, true_and, CV.d.injEq, CV.loc.injEq, Cell.lst.injEq, Cell.dat.injEq, Cell.dic.injEq, PyData.int.injEq, PyData.bool.injEq, PyData.list.injEq, PyData.tuple.injEq, PyData.str.injEq, reduceCtorEq, false_and, and_false, exists_false, false_or, or_false, if_true, if_false, reduceIte, Bool.false_eq_true, Nat.reduceAdd, Nat.reduceSub, Nat.succ_sub_succ, Nat.zero_add, VL.gP, List.filterMap_cons, List.filterMap_nil, List.cons.injEq, VL.wDisp0, VL.wDisp, VL.wPairs, VL.oLcm, VL.wPop, VL.wRevM, VL.wClearM, VL.wTupRg, VL.wListRg, VL.wR1, VL.wR2, VL.wRevN, VL.oRepT, VL.oRepL, wTnew]
  refine ⟨by decide, ?_⟩
  rw [hk]
  clear hk k
  refine seq_gen fun k hk => ?_
  refine for_body fun B hB => ?_
  unfold wFor wItemsT
  refine var_dat rfl ⟨kvK kvs, rfl, ?_⟩
  refine ⟨fun i ρ => ∃ c3 c4 c5, KvOk M ((kvs.take i).foldl (add2 M) []) ∧ ρ = [.dat (.tuple (M.rs.map rwD)), .dat (dttD (kvK kvs)), .dit (kvK ((kvs.take i).foldl (add2 M) [])), c3, c4, c5], ⟨_, _, _, nil_ok M, rfl⟩, ?_, ?_⟩
  · rintro i ρ d ⟨c3, c4, c5, fo, rfl⟩ hd
    obtain ⟨kv, rfl, hi, m⟩ := it_at hd
    have o := kok.ok kv m
    have nx : (kvs.take (i + 1)).foldl (add2 M) [] = add2 M ((kvs.take i).foldl (add2 M) []) kv := by
      rw [take_at hi, List.foldl_append]
      rfl
    simp only [VL.wSeq, VL.wNext, VL.wNever, VL.wAsg, VL.wSet, VL.wVar, VL.wFrz, VL.wC, VL.wOp, VL.wTest, VL.wNotT, VL.wAndT, VL.wOrT, VL.wAnd, VL.wOr, VL.wNot, VL.wIf, VL.wNil, VL.wCons, VL.wTup, VL.wLst, VL.wStay, VL.wNew, VL.wPar, VL.wAug, VL.wDrop, VL.wRet, VL.wRetN, VL.wRet0, VL.wIfS, VL.wBrk, VL.wCnt, VL.wGt, VL.wGs, VL.wCB, VL.wCBN, VL.wCall, VL.wCallN, VL.wCallIo, VL.wCallIoN, VL.wCallK, VL.wIsi, VL.wIsi2, VL.wApp, VL.wExt, VL.wIns, VL.wSetIt, VL.wNoPart, VL.wPart, VL.wSl, VL.wSlN, VL.wChain, VL.wNeg, VL.wDnew, VL.wDput, VL.wDget, VL.wDin, VL.wDnin, VL.wIndex, VL.wRev, VL.wParNE, VL.wParEN, VL.wPar3, VL.wYes, VL.wSeqOf, VL.wRng1, VL.wRng2, VL.oI, VL.oI0, VL.oLt, VL.oLe, VL.oGt, VL.oGe, VL.oSub, VL.oMul, VL.oFdiv, VL.oMod, VL.oPow, VL.oShl', VL.oAbs, VL.oMax2, VL.oMin2, VL.oGcd, VL.atI_0, VL.atI_1, VL.atI_2, VL.ixN_20, VL.ixN_21, and_assoc, VL.shp_int, VL.shp_bool, VL.shp_none, VL.eqv_int, VL.eqv_bool, VL.isiD, VL.tyD, String.reduceBEq, Bool.not_true, Bool.not_false, Bool.and_true, Bool.and_false, Bool.true_and, Bool.false_and, Bool.or_true, Bool.or_false, Bool.true_or, Bool.false_or, decide_true, decide_false, Bool.not_eq_true', Bool.not_eq_eq_eq_not, decide_eq_true_eq, decide_eq_false_iff_not, VL.oInt1, VL.oInt2, VL.oLen, VL.oToInt, VL.oAdd, VL.oEq, VL.oNe, VL.oIsN, VL.oIn, VL.itemD, VL.isN, VL.der, VL.ders, VL.dats, VL.ioA, VL.endsV, VL.retE, VL.keepC, Option.map, List.range_succ, List.range_zero, List.map_cons, List.map_nil, List.map_append, List.nil_append, List.cons_append, List.append_nil, List.replicate_zero, List.replicate_succ, List.length_cons, List.length_nil, Nat.sub_self, List.getElem?_cons_zero, List.getElem?_cons_succ, List.set_cons_zero, List.set_cons_succ, Option.some.injEq, exists_eq_left', exists_eq_left, exists_eq_right, exists_and_left, exists_and_right, and_true, true_and, CV.d.injEq, CV.loc.injEq, Cell.lst.injEq, Cell.dat.injEq, Cell.dic.injEq, PyData.int.injEq, PyData.bool.injEq, PyData.list.injEq, PyData.tuple.injEq, PyData.str.injEq, reduceCtorEq, false_and, and_false, exists_false, false_or, or_false, if_true, if_false, reduceIte, Bool.false_eq_true, Nat.reduceAdd, Nat.reduceSub, Nat.succ_sub_succ, Nat.zero_add, VL.gP, List.filterMap_cons, List.filterMap_nil, List.cons.injEq, VL.wDisp0, VL.wDisp, VL.wPairs, VL.oLcm, VL.wPop, VL.wRevM, VL.wClearM, VL.wTupRg, VL.wListRg, VL.wR1, VL.wR2, VL.wRevN, VL.oRepT, VL.oRepL]
    rw [nx]
    have fo2 := add2_ok ok fo o
    generalize (kvs.take i).foldl (add2 M) [] = f at *
    clear nx hd
    rw [hB]
    refine ifs_gen fun X Y hX hY => ?_
    simp only [VL.wSeq, VL.wNext, VL.wNever, VL.wAsg, VL.wSet, VL.wVar, VL.wFrz, VL.wC, VL.wOp, VL.wTest, VL.wNotT, VL.wAndT, VL.wOrT, VL.wAnd, VL.wOr, VL.wNot, VL.wIf, VL.wNil, VL.wCons, VL.wTup, VL.wLst, VL.wStay, VL.wNew, VL.wPar, VL.wAug, VL.wDrop, VL.wRet, VL.wRetN, VL.wRet0, VL.wIfS, VL.wBrk, VL.wCnt, VL.wGt, VL.wGs, VL.wCB, VL.wCBN, VL.wCall, VL.wCallN, VL.wCallIo, VL.wCallIoN, VL.wCallK, VL.wIsi, VL.wIsi2, VL.wApp, VL.wExt, VL.wIns, VL.wSetIt, VL.wNoPart, VL.wPart, VL.wSl, VL.wSlN, VL.wChain, VL.wNeg, VL.wDnew, VL.wDput, VL.wDget, VL.wDin, VL.wDnin, VL.wIndex, VL.wRev, VL.wParNE, VL.wParEN, VL.wPar3, VL.wYes, VL.wSeqOf, VL.wRng1, VL.wRng2, VL.oI, VL.oI0, VL.oLt, VL.oLe, VL.oGt, VL.oGe, VL.oSub, VL.oMul, VL.oFdiv, VL.oMod, VL.oPow, VL.oShl', VL.oAbs, VL.oMax2, VL.oMin2, VL.oGcd, VL.atI_0, VL.atI_1, VL.atI_2, VL.ixN_20, VL.ixN_21, and_assoc, VL.shp_int, VL.shp_bool, VL.shp_none, VL.eqv_int, VL.eqv_bool, VL.isiD, VL.tyD, String.reduceBEq, Bool.not_true, Bool.not_false, Bool.and_true, Bool.and_false, Bool.true_and, Bool.false_and, Bool.or_true, Bool.or_false, Bool.true_or, Bool.false_or, decide_true, decide_false, Bool.not_eq_true', Bool.not_eq_eq_eq_not, decide_eq_true_eq, decide_eq_false_iff_not, VL.oInt1, VL.oInt2, VL.oLen, VL.oToInt, VL.oAdd, VL.oEq, VL.oNe, VL.oIsN, VL.oIn, VL.itemD, VL.isN, VL.der, VL.ders, VL.dats, VL.ioA, VL.endsV, VL.retE, VL.keepC, Option.map, List.range_succ, List.range_zero, List.map_cons, List.map_nil, List.map_append, List.nil_append, List.cons_append, List.append_nil, List.replicate_zero, List.replicate_succ, List.length_cons, List.length_nil, Nat.sub_self, List.getElem?_cons_zero, List.getElem?_cons_succ, List.set_cons_zero, List.set_cons_succ, Option.some.injEq, exists_eq_left', exists_eq_left, exists_eq_right, exists_and_left, exists_and_right, and_true, true_and, CV.d.injEq, CV.loc.injEq, Cell.lst.injEq, Cell.dat.injEq, Cell.dic.injEq, PyData.int.injEq, PyData.bool.injEq, PyData.list.injEq, PyData.tuple.injEq, PyData.str.injEq, reduceCtorEq, false_and, and_false, exists_false, false_or, or_false, if_true, if_false, reduceIte, Bool.false_eq_true, Nat.reduceAdd, Nat.reduceSub, Nat.succ_sub_succ, Nat.zero_add, VL.gP, List.filterMap_cons, List.filterMap_nil, List.cons.injEq, VL.wDisp0, VL.wDisp, VL.wPairs, VL.oLcm, VL.wPop, VL.wRevM, VL.wClearM, VL.wTupRg, VL.wListRg, VL.wR1, VL.wR2, VL.wRevN, VL.oRepT, VL.oRepL, Pl.d, w_to]
    refine ⟨shp_w _, shp_to, ?_⟩
    cases e : kv.1.to
    · have e2 : add2 M f kv = f := by
        unfold add2
        rw [e, if_neg (by decide)]
      rw [e2]
      simp only [if_false, Bool.false_eq_true]
      rw [hY]
      simp only [VL.wSeq, VL.wNext, VL.wNever, VL.wAsg, VL.wSet, VL.wVar, VL.wFrz, VL.wC, VL.wOp, VL.wTest, VL.wNotT, VL.wAndT, VL.wOrT, VL.wAnd, VL.wOr, VL.wNot, VL.wIf, VL.wNil, VL.wCons, VL.wTup, VL.wLst, VL.wStay, VL.wNew, VL.wPar, VL.wAug, VL.wDrop, VL.wRet, VL.wRetN, VL.wRet0, VL.wIfS, VL.wBrk, VL.wCnt, VL.wGt, VL.wGs, VL.wCB, VL.wCBN, VL.wCall, VL.wCallN, VL.wCallIo, VL.wCallIoN, VL.wCallK, VL.wIsi, VL.wIsi2, VL.wApp, VL.wExt, VL.wIns, VL.wSetIt, VL.wNoPart, VL.wPart, VL.wSl, VL.wSlN, VL.wChain, VL.wNeg, VL.wDnew, VL.wDput, VL.wDget, VL.wDin, VL.wDnin, VL.wIndex, VL.wRev, VL.wParNE, VL.wParEN, VL.wPar3, VL.wYes, VL.wSeqOf, VL.wRng1, VL.wRng2, VL.oI, VL.oI0, VL.oLt, VL.oLe, VL.oGt, VL.oGe, VL.oSub, VL.oMul, VL.oFdiv, VL.oMod, VL.oPow, VL.oShl', VL.oAbs, VL.oMax2, VL.oMin2, VL.oGcd, VL.atI_0, VL.atI_1, VL.atI_2, VL.ixN_20, VL.ixN_21, and_assoc, VL.shp_int, VL.shp_bool, VL.shp_none, VL.eqv_int, VL.eqv_bool, VL.isiD, VL.tyD, String.reduceBEq, Bool.not_true, Bool.not_false, Bool.and_true, Bool.and_false, Bool.true_and, Bool.false_and, Bool.or_true, Bool.or_false, Bool.true_or, Bool.false_or, decide_true, decide_false, Bool.not_eq_true', Bool.not_eq_eq_eq_not, decide_eq_true_eq, decide_eq_false_iff_not, VL.oInt1, VL.oInt2, VL.oLen, VL.oToInt, VL.oAdd, VL.oEq, VL.oNe, VL.oIsN, VL.oIn, VL.itemD, VL.isN, VL.der, VL.ders, VL.dats, VL.ioA, VL.endsV, VL.retE, VL.keepC, Option.map, List.range_succ, List.range_zero, List.map_cons, List.map_nil, List.map_append, List.nil_append, List.cons_append, List.append_nil, List.replicate_zero, List.replicate_succ, List.length_cons, List.length_nil, Nat.sub_self, List.getElem?_cons_zero, List.getElem?_cons_succ, List.set_cons_zero, List.set_cons_succ, Option.some.injEq, exists_eq_left', exists_eq_left, exists_eq_right, exists_and_left, exists_and_right, and_true, true_and, CV.d.injEq, CV.loc.injEq, Cell.lst.injEq, Cell.dat.injEq, Cell.dic.injEq, PyData.int.injEq, PyData.bool.injEq, PyData.list.injEq, PyData.tuple.injEq, PyData.str.injEq, reduceCtorEq, false_and, and_false, exists_false, false_or, or_false, if_true, if_false, reduceIte, Bool.false_eq_true, Nat.reduceAdd, Nat.reduceSub, Nat.succ_sub_succ, Nat.zero_add, VL.gP, List.filterMap_cons, List.filterMap_nil, List.cons.injEq, VL.wDisp0, VL.wDisp, VL.wPairs, VL.oLcm, VL.wPop, VL.wRevM, VL.wClearM, VL.wTupRg, VL.wListRg, VL.wR1, VL.wR2, VL.wRevN, VL.oRepT, VL.oRepL]
      exact ⟨fo, _, rfl⟩
    · have e2 : add2 M f kv = tw M f kv.1 kv.2 2 := by
        unfold add2
        rw [e, if_pos rfl]
        rfl
      simp only [if_true]
      rw [hX]
      clear hX hY
      refine for_body fun B2 hB2 => ?_
      unfold wFor
      simp only [VL.wSeq, VL.wNext, VL.wNever, VL.wAsg, VL.wSet, VL.wVar, VL.wFrz, VL.wC, VL.wOp, VL.wTest, VL.wNotT, VL.wAndT, VL.wOrT, VL.wAnd, VL.wOr, VL.wNot, VL.wIf, VL.wNil, VL.wCons, VL.wTup, VL.wLst, VL.wStay, VL.wNew, VL.wPar, VL.wAug, VL.wDrop, VL.wRet, VL.wRetN, VL.wRet0, VL.wIfS, VL.wBrk, VL.wCnt, VL.wGt, VL.wGs, VL.wCB, VL.wCBN, VL.wCall, VL.wCallN, VL.wCallIo, VL.wCallIoN, VL.wCallK, VL.wIsi, VL.wIsi2, VL.wApp, VL.wExt, VL.wIns, VL.wSetIt, VL.wNoPart, VL.wPart, VL.wSl, VL.wSlN, VL.wChain, VL.wNeg, VL.wDnew, VL.wDput, VL.wDget, VL.wDin, VL.wDnin, VL.wIndex, VL.wRev, VL.wParNE, VL.wParEN, VL.wPar3, VL.wYes, VL.wSeqOf, VL.wRng1, VL.wRng2, VL.oI, VL.oI0, VL.oLt, VL.oLe, VL.oGt, VL.oGe, VL.oSub, VL.oMul, VL.oFdiv, VL.oMod, VL.oPow, VL.oShl', VL.oAbs, VL.oMax2, VL.oMin2, VL.oGcd, VL.atI_0, VL.atI_1, VL.atI_2, VL.ixN_20, VL.ixN_21, and_assoc, VL.shp_int, VL.shp_bool, VL.shp_none, VL.eqv_int, VL.eqv_bool, VL.isiD, VL.tyD, String.reduceBEq, Bool.not_true, Bool.not_false, Bool.and_true, Bool.and_false, Bool.true_and, Bool.false_and, Bool.or_true, Bool.or_false, Bool.true_or, Bool.false_or, decide_true, decide_false, Bool.not_eq_true', Bool.not_eq_eq_eq_not, decide_eq_true_eq, decide_eq_false_iff_not, VL.oInt1, VL.oInt2, VL.oLen, VL.oToInt, VL.oAdd, VL.oEq, VL.oNe, VL.oIsN, VL.oIn, VL.itemD, VL.isN, VL.der, VL.ders, VL.dats, VL.ioA, VL.endsV, VL.retE, VL.keepC, Option.map, List.range_succ, List.range_zero, List.map_cons, List.map_nil, List.map_append, List.nil_append, List.cons_append, List.append_nil, List.replicate_zero, List.replicate_succ, List.length_cons, List.length_nil, Nat.sub_self, List.getElem?_cons_zero, List.getElem?_cons_succ, List.set_cons_zero, List.set_cons_succ, Option.some.injEq, exists_eq_left', exists_eq_left, exists_eq_right, exists_and_left, exists_and_right, and_true, true_and, CV.d.injEq, CV.loc.injEq, Cell.lst.injEq, Cell.dat.injEq, Cell.dic.injEq, PyData.int.injEq, PyData.bool.injEq, PyData.list.injEq, PyData.tuple.injEq, PyData.str.injEq, reduceCtorEq, false_and, and_false, exists_false, false_or, or_false, if_true, if_false, reduceIte, Bool.false_eq_true, Nat.reduceAdd, Nat.reduceSub, Nat.succ_sub_succ, Nat.zero_add, VL.gP, List.filterMap_cons, List.filterMap_nil, List.cons.injEq, VL.wDisp0, VL.wDisp, VL.wPairs, VL.oLcm, VL.wPop, VL.wRevM, VL.wClearM, VL.wTupRg, VL.wListRg, VL.wR1, VL.wR2, VL.wRevN, VL.oRepT, VL.oRepL, Pl.d]
      refine ⟨_, nx_at M e o, ?_⟩
      simp only [VL.wSeq, VL.wNext, VL.wNever, VL.wAsg, VL.wSet, VL.wVar, VL.wFrz, VL.wC, VL.wOp, VL.wTest, VL.wNotT, VL.wAndT, VL.wOrT, VL.wAnd, VL.wOr, VL.wNot, VL.wIf, VL.wNil, VL.wCons, VL.wTup, VL.wLst, VL.wStay, VL.wNew, VL.wPar, VL.wAug, VL.wDrop, VL.wRet, VL.wRetN, VL.wRet0, VL.wIfS, VL.wBrk, VL.wCnt, VL.wGt, VL.wGs, VL.wCB, VL.wCBN, VL.wCall, VL.wCallN, VL.wCallIo, VL.wCallIoN, VL.wCallK, VL.wIsi, VL.wIsi2, VL.wApp, VL.wExt, VL.wIns, VL.wSetIt, VL.wNoPart, VL.wPart, VL.wSl, VL.wSlN, VL.wChain, VL.wNeg, VL.wDnew, VL.wDput, VL.wDget, VL.wDin, VL.wDnin, VL.wIndex, VL.wRev, VL.wParNE, VL.wParEN, VL.wPar3, VL.wYes, VL.wSeqOf, VL.wRng1, VL.wRng2, VL.oI, VL.oI0, VL.oLt, VL.oLe, VL.oGt, VL.oGe, VL.oSub, VL.oMul, VL.oFdiv, VL.oMod, VL.oPow, VL.oShl', VL.oAbs, VL.oMax2, VL.oMin2, VL.oGcd, VL.atI_0, VL.atI_1, VL.atI_2, VL.ixN_20, VL.ixN_21, and_assoc, VL.shp_int, VL.shp_bool, VL.shp_none, VL.eqv_int, VL.eqv_bool, VL.isiD, VL.tyD, String.reduceBEq, Bool.not_true, Bool.not_false, Bool.and_true, Bool.and_false, Bool.true_and, Bool.false_and, Bool.or_true, Bool.or_false, Bool.true_or, Bool.false_or, decide_true, decide_false, Bool.not_eq_true', Bool.not_eq_eq_eq_not, decide_eq_true_eq, decide_eq_false_iff_not, VL.oInt1, VL.oInt2, VL.oLen, VL.oToInt, VL.oAdd, VL.oEq, VL.oNe, VL.oIsN, VL.oIn, VL.itemD, VL.isN, VL.der, VL.ders, VL.dats, VL.ioA, VL.endsV, VL.retE, VL.keepC, Option.map, List.range_succ, List.range_zero, List.map_cons, List.map_nil, List.map_append, List.nil_append, List.cons_append, List.append_nil, List.replicate_zero, List.replicate_succ, List.length_cons, List.length_nil, Nat.sub_self, List.getElem?_cons_zero, List.getElem?_cons_succ, List.set_cons_zero, List.set_cons_succ, Option.some.injEq, exists_eq_left', exists_eq_left, exists_eq_right, exists_and_left, exists_and_right, and_true, true_and, CV.d.injEq, CV.loc.injEq, Cell.lst.injEq, Cell.dat.injEq, Cell.dic.injEq, PyData.int.injEq, PyData.bool.injEq, PyData.list.injEq, PyData.tuple.injEq, PyData.str.injEq, reduceCtorEq, false_and, and_false, exists_false, false_or, or_false, if_true, if_false, reduceIte, Bool.false_eq_true, Nat.reduceAdd, Nat.reduceSub, Nat.succ_sub_succ, Nat.zero_add, VL.gP, List.filterMap_cons, List.filterMap_nil, List.cons.injEq, VL.wDisp0, VL.wDisp, VL.wPairs, VL.oLcm, VL.wPop, VL.wRevM, VL.wClearM, VL.wTupRg, VL.wListRg, VL.wR1, VL.wR2, VL.wRevN, VL.oRepT, VL.oRepL, rwD]
      refine ⟨fun j ρ => ∃ c5, ρ = [.dat (.tuple (M.rs.map rwD)), .dat (dttD (kvK kvs)), .dit (kvK (tw M f kv.1 kv.2 j)), .dat kv.1.d, .dat (.int (kv.2 : Nat)), c5], ⟨_, rfl⟩, ?_, ?_⟩
      · rintro j ρ d ⟨c5, rfl⟩ hd
        obtain ⟨q, rfl, et⟩ := two_at hd f kv.2
        simp only [VL.wSeq, VL.wNext, VL.wNever, VL.wAsg, VL.wSet, VL.wVar, VL.wFrz, VL.wC, VL.wOp, VL.wTest, VL.wNotT, VL.wAndT, VL.wOrT, VL.wAnd, VL.wOr, VL.wNot, VL.wIf, VL.wNil, VL.wCons, VL.wTup, VL.wLst, VL.wStay, VL.wNew, VL.wPar, VL.wAug, VL.wDrop, VL.wRet, VL.wRetN, VL.wRet0, VL.wIfS, VL.wBrk, VL.wCnt, VL.wGt, VL.wGs, VL.wCB, VL.wCBN, VL.wCall, VL.wCallN, VL.wCallIo, VL.wCallIoN, VL.wCallK, VL.wIsi, VL.wIsi2, VL.wApp, VL.wExt, VL.wIns, VL.wSetIt, VL.wNoPart, VL.wPart, VL.wSl, VL.wSlN, VL.wChain, VL.wNeg, VL.wDnew, VL.wDput, VL.wDget, VL.wDin, VL.wDnin, VL.wIndex, VL.wRev, VL.wParNE, VL.wParEN, VL.wPar3, VL.wYes, VL.wSeqOf, VL.wRng1, VL.wRng2, VL.oI, VL.oI0, VL.oLt, VL.oLe, VL.oGt, VL.oGe, VL.oSub, VL.oMul, VL.oFdiv, VL.oMod, VL.oPow, VL.oShl', VL.oAbs, VL.oMax2, VL.oMin2, VL.oGcd, VL.atI_0, VL.atI_1, VL.atI_2, VL.ixN_20, VL.ixN_21, and_assoc, VL.shp_int, VL.shp_bool, VL.shp_none, VL.eqv_int, VL.eqv_bool, VL.isiD, VL.tyD, String.reduceBEq, Bool.not_true, Bool.not_false, Bool.and_true, Bool.and_false, Bool.true_and, Bool.false_and, Bool.or_true, Bool.or_false, Bool.true_or, Bool.false_or, decide_true, decide_false, Bool.not_eq_true', Bool.not_eq_eq_eq_not, decide_eq_true_eq, decide_eq_false_iff_not, VL.oInt1, VL.oInt2, VL.oLen, VL.oToInt, VL.oAdd, VL.oEq, VL.oNe, VL.oIsN, VL.oIn, VL.itemD, VL.isN, VL.der, VL.ders, VL.dats, VL.ioA, VL.endsV, VL.retE, VL.keepC, Option.map, List.range_succ, List.range_zero, List.map_cons, List.map_nil, List.map_append, List.nil_append, List.cons_append, List.append_nil, List.replicate_zero, List.replicate_succ, List.length_cons, List.length_nil, Nat.sub_self, List.getElem?_cons_zero, List.getElem?_cons_succ, List.set_cons_zero, List.set_cons_succ, Option.some.injEq, exists_eq_left', exists_eq_left, exists_eq_right, exists_and_left, exists_and_right, and_true, true_and, CV.d.injEq, CV.loc.injEq, Cell.lst.injEq, Cell.dat.injEq, Cell.dic.injEq, PyData.int.injEq, PyData.bool.injEq, PyData.list.injEq, PyData.tuple.injEq, PyData.str.injEq, reduceCtorEq, false_and, and_false, exists_false, false_or, or_false, if_true, if_false, reduceIte, Bool.false_eq_true, Nat.reduceAdd, Nat.reduceSub, Nat.succ_sub_succ, Nat.zero_add, VL.gP, List.filterMap_cons, List.filterMap_nil, List.cons.injEq, VL.wDisp0, VL.wDisp, VL.wPairs, VL.oLcm, VL.wPop, VL.wRevM, VL.wClearM, VL.wTupRg, VL.wListRg, VL.wR1, VL.wR2, VL.wRevN, VL.oRepT, VL.oRepL]
        rw [hB2]
        refine put_step (f := tw M f kv.1 kv.2 j) (q := q) (c := kv.2) rfl rfl (fun P h => var_dat rfl h) (kv_size ok (tw_ok ok fo e o _ _)) ?_
        rw [← et]
        exact ⟨_, rfl⟩
      · rintro ρ ⟨c5, rfl⟩
        exact ⟨fo2, _, _, _, by rw [e2]⟩
  · rintro ρ ⟨c3, c4, c5, fo, rfl⟩
    rw [List.length_map, kvK_len, List.take_length]
    show k _
    rw [hk]
    simp only [VL.wSeq, VL.wNext, VL.wNever, VL.wAsg, VL.wSet, VL.wVar, VL.wFrz, VL.wC, VL.wOp, VL.wTest, VL.wNotT, VL.wAndT, VL.wOrT, VL.wAnd, VL.wOr, VL.wNot, VL.wIf, VL.wNil, VL.wCons, VL.wTup, VL.wLst, VL.wStay, VL.wNew, VL.wPar, VL.wAug, VL.wDrop, VL.wRet, VL.wRetN, VL.wRet0, VL.wIfS, VL.wBrk, VL.wCnt, VL.wGt, VL.wGs, VL.wCB, VL.wCBN, VL.wCall, VL.wCallN, VL.wCallIo, VL.wCallIoN, VL.wCallK, VL.wIsi, VL.wIsi2, VL.wApp, VL.wExt, VL.wIns, VL.wSetIt, VL.wNoPart, VL.wPart, VL.wSl, VL.wSlN, VL.wChain, VL.wNeg, VL.wDnew, VL.wDput, VL.wDget, VL.wDin, VL.wDnin, VL.wIndex, VL.wRev, VL.wParNE, VL.wParEN, VL.wPar3, VL.wYes, VL.wSeqOf, VL.wRng1, VL.wRng2, VL.oI, VL.oI0, VL.oLt, VL.oLe, VL.oGt, VL.oGe, VL.oSub, VL.oMul, VL.oFdiv, VL.oMod, VL.oPow, VL.oShl', VL.oAbs, VL.oMax2, VL.oMin2, VL.oGcd, VL.atI_0, VL.atI_1, VL.atI_2, VL.ixN_20, VL.ixN_21, and_assoc, VL.shp_int, VL.shp_bool, VL.shp_none, VL.eqv_int, VL.eqv_bool, VL.isiD, VL.tyD, String.reduceBEq, Bool.not_true, Bool.not_false, Bool.and_true, Bool.and_false, Bool.true_and, Bool.false_and, Bool.or_true, Bool.or_false, Bool.true_or, Bool.false_or, decide_true, decide_false, Bool.not_eq_true', Bool.not_eq_eq_eq_not, decide_eq_true_eq, decide_eq_false_iff_not, VL.oInt1, VL.oInt2, VL.oLen, VL.oToInt, VL.oAdd, VL.oEq, VL.oNe, VL.oIsN, VL.oIn, VL.itemD, VL.isN, VL.der, VL.ders, VL.dats, VL.ioA, VL.endsV, VL.retE, VL.keepC, Option.map, List.range_succ, List.range_zero, List.map_cons, List.map_nil, List.map_append, List.nil_append, List.cons_append, List.append_nil, List.replicate_zero, List.replicate_succ, List.length_cons, List.length_nil, Nat.sub_self, List.getElem?_cons_zero, List.getElem?_cons_succ, List.set_cons_zero, List.set_cons_succ, Option.some.injEq, exists_eq_left', exists_eq_left, exists_eq_right, exists_and_left, exists_and_right, and_true, true_and, CV.d.injEq, CV.loc.injEq, Cell.lst.injEq, Cell.dat.injEq, Cell.dic.injEq, PyData.int.injEq, PyData.bool.injEq, PyData.list.injEq, PyData.tuple.injEq, PyData.str.injEq, reduceCtorEq, false_and, and_false, exists_false, false_or, or_false, if_true, if_false, reduceIte, Bool.false_eq_true, Nat.reduceAdd, Nat.reduceSub, Nat.succ_sub_succ, Nat.zero_add, VL.gP, List.filterMap_cons, List.filterMap_nil, List.cons.injEq, VL.wDisp0, VL.wDisp, VL.wPairs, VL.oLcm, VL.wPop, VL.wRevM, VL.wClearM, VL.wTupRg, VL.wListRg, VL.wR1, VL.wR2, VL.wRevN, VL.oRepT, VL.oRepL, wFrzT]
    exact ⟨_, rfl, h⟩
theorem gget_is {ρ : En} {a : Nat} {t : WE} {kvs : Kv} {i : Nat} {P : CV → En → Prop} (h1 : ρ[a]? = some (.dat (dttD (kvK kvs)))) (ht : ∀ P : CV → En → Prop, P (.d (.int i)) ρ → t ρ P) (h : P (.d (.int (getK kvs ⟨false, i⟩ : Nat))) ρ) : wGGet2 (wVar a) (wTup (wCons (wC (.str "is")) (wCons t wNil))) (wC (.int 0)) ρ P := by
  unfold wGGet2
  refine var_dat h1 ⟨kvK kvs, rfl, ?_⟩
  refine tup2 ?_
  show t ρ _
  refine ht _ ⟨_, rfl, (by show 2 ≤ sizeLine; decide), (⟨false, i⟩ : Pl).key, rfl, ?_⟩
  refine ⟨.int 0, rfl, ?_⟩
  rw [val_get]
  exact h
theorem h_leaves_of (ρ : En) (Q : RV → En → Prop) (h : S_leaves_of ρ Q) : t_leaves_of (endsV 2 Q) (ρ ++ List.replicate (8 - 2) .un) := by
  obtain ⟨M, n, rfl, ok, hn, h⟩ := h
  unfold t_leaves_of
  refine seq_gen fun k hk => ?_
  simp only [VL.wSeq, VL.wNext, VL.wNever, VL.wAsg, VL.wSet, VL.wVar, VL.wFrz, VL.wC, VL.wOp, VL.wTest, VL.wNotT, VL.wAndT, VL.wOrT, VL.wAnd, VL.wOr, VL.wNot, VL.wIf, VL.wNil, VL.wCons, VL.wTup, VL.wLst, VL.wStay, VL.wNew, VL.wPar, VL.wAug, VL.wDrop, VL.wRet, VL.wRetN, VL.wRet0, VL.wIfS, VL.wBrk, VL.wCnt, VL.wGt, VL.wGs, VL.wCB, VL.wCBN, VL.wCall, VL.wCallN, VL.wCallIo, VL.wCallIoN, VL.wCallK, VL.wIsi, VL.wIsi2, VL.wApp, VL.wExt, VL.wIns, VL.wSetIt, VL.wNoPart, VL.wPart, VL.wSl, VL.wSlN, VL.wChain, VL.wNeg, VL.wDnew, VL.wDput, VL.wDget, VL.wDin, VL.wDnin, VL.wIndex, VL.wRev, VL.wParNE, VL.wParEN, VL.wPar3, VL.wYes, VL.wSeqOf, VL.wRng1, VL.wRng2, VL.oI, VL.oI0, VL.oLt, VL.oLe, VL.oGt, VL.oGe, VL.oSub, VL.oMul, VL.oFdiv, VL.oMod, VL.oPow, VL.oShl', VL.oAbs, VL.oMax2, VL.oMin2, VL.oGcd, VL.atI_0, VL.atI_1, VL.atI_2, VL.ixN_20, VL.ixN_21, and_assoc, VL.shp_int, VL.shp_bool, VL.shp_none, VL.eqv_int, VL.eqv_bool, VL.isiD, VL.tyD, String.reduceBEq, Bool.not_true, Bool.not_false, Bool.and_true, Bool.and_false, Bool.true_and, Bool.false_and, Bool.or_true, Bool.or_false, Bool.true_or, Bool.false_or, decide_true, decide_false, Bool.not_eq_true', Bool.not_eq_eq_eq_not, decide_eq_true_eq, decide_eq_false_iff_not, VL.oInt1, VL.oInt2, VL.oLen, VL.oToInt, VL.oAdd, VL.oEq, VL.oNe, VL.oIsN, VL.oIn, VL.itemD, VL.isN, VL.der, VL.ders, VL.dats, VL.ioA, VL.endsV, VL.retE, VL.keepC, Option.map, List.range_succ, List.range_zero, List.map_cons, List.map_nil, List.map_append, List.nil_append, List.cons_append, List.append_nil, List.replicate_zero, List.replicate_succ, List.length_cons, List.length_nil, Nat.sub_self, List.getElem?_cons_zero, List.getElem?_cons_succ, List.set_cons_zero, List.set_cons_succ, Option.some.injEq, exists_eq_left', exists_eq_left, exists_eq_right, exists_and_left, exists_and_right, and_true, true_and, CV.d.injEq, CV.loc.injEq, Cell.lst.injEq, Cell.dat.injEq, Cell.dic.injEq, PyData.int.injEq, PyData.bool.injEq, PyData.list.injEq, PyData.tuple.injEq, PyData.str.injEq, reduceCtorEq, false_and, and_false, exists_false, false_or, or_false, if_true, if_false, reduceIte, Bool.false_eq_true, Nat.reduceAdd, Nat.reduceSub, Nat.succ_sub_succ, Nat.zero_add, VL.gP, List.filterMap_cons, List.filterMap_nil, List.cons.injEq, VL.wDisp0, VL.wDisp, VL.wPairs, VL.oLcm, VL.wPop, VL.wRevM, VL.wClearM, VL.wTupRg, VL.wListRg, VL.wR1, VL.wR2, VL.wRevN, VL.oRepT, VL.oRepL, S_check_machine]
  refine ⟨M, rfl, ok, ?_⟩
  rw [hk]
  clear hk k
  refine seq_gen fun k hk => ?_
  simp only [VL.wSeq, VL.wNext, VL.wNever, VL.wAsg, VL.wSet, VL.wVar, VL.wFrz, VL.wC, VL.wOp, VL.wTest, VL.wNotT, VL.wAndT, VL.wOrT, VL.wAnd, VL.wOr, VL.wNot, VL.wIf, VL.wNil, VL.wCons, VL.wTup, VL.wLst, VL.wStay, VL.wNew, VL.wPar, VL.wAug, VL.wDrop, VL.wRet, VL.wRetN, VL.wRet0, VL.wIfS, VL.wBrk, VL.wCnt, VL.wGt, VL.wGs, VL.wCB, VL.wCBN, VL.wCall, VL.wCallN, VL.wCallIo, VL.wCallIoN, VL.wCallK, VL.wIsi, VL.wIsi2, VL.wApp, VL.wExt, VL.wIns, VL.wSetIt, VL.wNoPart, VL.wPart, VL.wSl, VL.wSlN, VL.wChain, VL.wNeg, VL.wDnew, VL.wDput, VL.wDget, VL.wDin, VL.wDnin, VL.wIndex, VL.wRev, VL.wParNE, VL.wParEN, VL.wPar3, VL.wYes, VL.wSeqOf, VL.wRng1, VL.wRng2, VL.oI, VL.oI0, VL.oLt, VL.oLe, VL.oGt, VL.oGe, VL.oSub, VL.oMul, VL.oFdiv, VL.oMod, VL.oPow, VL.oShl', VL.oAbs, VL.oMax2, VL.oMin2, VL.oGcd, VL.atI_0, VL.atI_1, VL.atI_2, VL.ixN_20, VL.ixN_21, and_assoc, VL.shp_int, VL.shp_bool, VL.shp_none, VL.eqv_int, VL.eqv_bool, VL.isiD, VL.tyD, String.reduceBEq, Bool.not_true, Bool.not_false, Bool.and_true, Bool.and_false, Bool.true_and, Bool.false_and, Bool.or_true, Bool.or_false, Bool.true_or, Bool.false_or, decide_true, decide_false, Bool.not_eq_true', Bool.not_eq_eq_eq_not, decide_eq_true_eq, decide_eq_false_iff_not, VL.oInt1, VL.oInt2, VL.oLen, VL.oToInt, VL.oAdd, VL.oEq, VL.oNe, VL.oIsN, VL.oIn, VL.itemD, VL.isN, VL.der, VL.ders, VL.dats, VL.ioA, VL.endsV, VL.retE, VL.keepC, Option.map, List.range_succ, List.range_zero, List.map_cons, List.map_nil, List.map_append, List.nil_append, List.cons_append, List.append_nil, List.replicate_zero, List.replicate_succ, List.length_cons, List.length_nil, Nat.sub_self, List.getElem?_cons_zero, List.getElem?_cons_succ, List.set_cons_zero, List.set_cons_succ, Option.some.injEq, exists_eq_left', exists_eq_left, exists_eq_right, exists_and_left, exists_and_right, and_true, true_and, CV.d.injEq, CV.loc.injEq, Cell.lst.injEq, Cell.dat.injEq, Cell.dic.injEq, PyData.int.injEq, PyData.bool.injEq, PyData.list.injEq, PyData.tuple.injEq, PyData.str.injEq, reduceCtorEq, false_and, and_false, exists_false, false_or, or_false, if_true, if_false, reduceIte, Bool.false_eq_true, Nat.reduceAdd, Nat.reduceSub, Nat.succ_sub_succ, Nat.zero_add, VL.gP, List.filterMap_cons, List.filterMap_nil, List.cons.injEq, VL.wDisp0, VL.wDisp, VL.wPairs, VL.oLcm, VL.wPop, VL.wRevM, VL.wClearM, VL.wTupRg, VL.wListRg, VL.wR1, VL.wR2, VL.wRevN, VL.oRepT, VL.oRepL, S_check_place]
  refine ⟨⟨n, rfl⟩, ?_⟩
  rw [hk]
  clear hk k
  unfold mcD rsD
  refine seq_gen fun k hk => ?_
  simp only [VL.wSeq, VL.wNext, VL.wNever, VL.wAsg, VL.wSet, VL.wVar, VL.wFrz, VL.wC, VL.wOp, VL.wTest, VL.wNotT, VL.wAndT, VL.wOrT, VL.wAnd, VL.wOr, VL.wNot, VL.wIf, VL.wNil, VL.wCons, VL.wTup, VL.wLst, VL.wStay, VL.wNew, VL.wPar, VL.wAug, VL.wDrop, VL.wRet, VL.wRetN, VL.wRet0, VL.wIfS, VL.wBrk, VL.wCnt, VL.wGt, VL.wGs, VL.wCB, VL.wCBN, VL.wCall, VL.wCallN, VL.wCallIo, VL.wCallIoN, VL.wCallK, VL.wIsi, VL.wIsi2, VL.wApp, VL.wExt, VL.wIns, VL.wSetIt, VL.wNoPart, VL.wPart, VL.wSl, VL.wSlN, VL.wChain, VL.wNeg, VL.wDnew, VL.wDput, VL.wDget, VL.wDin, VL.wDnin, VL.wIndex, VL.wRev, VL.wParNE, VL.wParEN, VL.wPar3, VL.wYes, VL.wSeqOf, VL.wRng1, VL.wRng2, VL.oI, VL.oI0, VL.oLt, VL.oLe, VL.oGt, VL.oGe, VL.oSub, VL.oMul, VL.oFdiv, VL.oMod, VL.oPow, VL.oShl', VL.oAbs, VL.oMax2, VL.oMin2, VL.oGcd, VL.atI_0, VL.atI_1, VL.atI_2, VL.ixN_20, VL.ixN_21, and_assoc, VL.shp_int, VL.shp_bool, VL.shp_none, VL.eqv_int, VL.eqv_bool, VL.isiD, VL.tyD, String.reduceBEq, Bool.not_true, Bool.not_false, Bool.and_true, Bool.and_false, Bool.true_and, Bool.false_and, Bool.or_true, Bool.or_false, Bool.true_or, Bool.false_or, decide_true, decide_false, Bool.not_eq_true', Bool.not_eq_eq_eq_not, decide_eq_true_eq, decide_eq_false_iff_not, VL.oInt1, VL.oInt2, VL.oLen, VL.oToInt, VL.oAdd, VL.oEq, VL.oNe, VL.oIsN, VL.oIn, VL.itemD, VL.isN, VL.der, VL.ders, VL.dats, VL.ioA, VL.endsV, VL.retE, VL.keepC, Option.map, List.range_succ, List.range_zero, List.map_cons, List.map_nil, List.map_append, List.nil_append, List.cons_append, List.append_nil, List.replicate_zero, List.replicate_succ, List.length_cons, List.length_nil, Nat.sub_self, List.getElem?_cons_zero, List.getElem?_cons_succ, List.set_cons_zero, List.set_cons_succ, Option.some.injEq, exists_eq_left', exists_eq_left, exists_eq_right, exists_and_left, exists_and_right, and_true, true_and, CV.d.injEq, CV.loc.injEq, Cell.lst.injEq, Cell.dat.injEq, Cell.dic.injEq, PyData.int.injEq, PyData.bool.injEq, PyData.list.injEq, PyData.tuple.injEq, PyData.str.injEq, reduceCtorEq, false_and, and_false, exists_false, false_or, or_false, if_true, if_false, reduceIte, Bool.false_eq_true, Nat.reduceAdd, Nat.reduceSub, Nat.succ_sub_succ, Nat.zero_add, VL.gP, List.filterMap_cons, List.filterMap_nil, List.cons.injEq, VL.wDisp0, VL.wDisp, VL.wPairs, VL.oLcm, VL.wPop, VL.wRevM, VL.wClearM, VL.wTupRg, VL.wListRg, VL.wR1, VL.wR2, VL.wRevN, VL.oRepT, VL.oRepL]
  rw [hk]
  clear hk k
  refine seq_gen fun k hk => ?_
  simp only [VL.wSeq, VL.wNext, VL.wNever, VL.wAsg, VL.wSet, VL.wVar, VL.wFrz, VL.wC, VL.wOp, VL.wTest, VL.wNotT, VL.wAndT, VL.wOrT, VL.wAnd, VL.wOr, VL.wNot, VL.wIf, VL.wNil, VL.wCons, VL.wTup, VL.wLst, VL.wStay, VL.wNew, VL.wPar, VL.wAug, VL.wDrop, VL.wRet, VL.wRetN, VL.wRet0, VL.wIfS, VL.wBrk, VL.wCnt, VL.wGt, VL.wGs, VL.wCB, VL.wCBN, VL.wCall, VL.wCallN, VL.wCallIo, VL.wCallIoN, VL.wCallK, VL.wIsi, VL.wIsi2, VL.wApp, VL.wExt, VL.wIns, VL.wSetIt, VL.wNoPart, VL.wPart, VL.wSl, VL.wSlN, VL.wChain, VL.wNeg, VL.wDnew, VL.wDput, VL.wDget, VL.wDin, VL.wDnin, VL.wIndex, VL.wRev, VL.wParNE, VL.wParEN, VL.wPar3, VL.wYes, VL.wSeqOf, VL.wRng1, VL.wRng2, VL.oI, VL.oI0, VL.oLt, VL.oLe, VL.oGt, VL.oGe, VL.oSub, VL.oMul, VL.oFdiv, VL.oMod, VL.oPow, VL.oShl', VL.oAbs, VL.oMax2, VL.oMin2, VL.oGcd, VL.atI_0, VL.atI_1, VL.atI_2, VL.ixN_20, VL.ixN_21, and_assoc, VL.shp_int, VL.shp_bool, VL.shp_none, VL.eqv_int, VL.eqv_bool, VL.isiD, VL.tyD, String.reduceBEq, Bool.not_true, Bool.not_false, Bool.and_true, Bool.and_false, Bool.true_and, Bool.false_and, Bool.or_true, Bool.or_false, Bool.true_or, Bool.false_or, decide_true, decide_false, Bool.not_eq_true', Bool.not_eq_eq_eq_not, decide_eq_true_eq, decide_eq_false_iff_not, VL.oInt1, VL.oInt2, VL.oLen, VL.oToInt, VL.oAdd, VL.oEq, VL.oNe, VL.oIsN, VL.oIn, VL.itemD, VL.isN, VL.der, VL.ders, VL.dats, VL.ioA, VL.endsV, VL.retE, VL.keepC, Option.map, List.range_succ, List.range_zero, List.map_cons, List.map_nil, List.map_append, List.nil_append, List.cons_append, List.append_nil, List.replicate_zero, List.replicate_succ, List.length_cons, List.length_nil, Nat.sub_self, List.getElem?_cons_zero, List.getElem?_cons_succ, List.set_cons_zero, List.set_cons_succ, Option.some.injEq, exists_eq_left', exists_eq_left, exists_eq_right, exists_and_left, exists_and_right, and_true, true_and, CV.d.injEq, CV.loc.injEq, Cell.lst.injEq, Cell.dat.injEq, Cell.dic.injEq, PyData.int.injEq, PyData.bool.injEq, PyData.list.injEq, PyData.tuple.injEq, PyData.str.injEq, reduceCtorEq, false_and, and_false, exists_false, false_or, or_false, if_true, if_false, reduceIte, Bool.false_eq_true, Nat.reduceAdd, Nat.reduceSub, Nat.succ_sub_succ, Nat.zero_add, VL.gP, List.filterMap_cons, List.filterMap_nil, List.cons.injEq, VL.wDisp0, VL.wDisp, VL.wPairs, VL.oLcm, VL.wPop, VL.wRevM, VL.wClearM, VL.wTupRg, VL.wListRg, VL.wR1, VL.wR2, VL.wRevN, VL.oRepT, VL.oRepL, wDispT]
  refine ⟨M.b.key, rfl, ?_⟩
  show k [.dat (.tuple [.int M.n, M.b.d, .tuple (M.rs.map rwD)]), .dat (.int n), .dat (dttD (kvK (cnts M 0))), .un, .dat (.int M.n), .dat M.b.d, .dat (.tuple (M.rs.map rwD)), .un]
  rw [hk]
  clear hk k
  refine seq_gen fun k hk => ?_
  refine for_body fun B hB => ?_
  unfold wFor
  simp only [VL.wSeq, VL.wNext, VL.wNever, VL.wAsg, VL.wSet, VL.wVar, VL.wFrz, VL.wC, VL.wOp, VL.wTest, VL.wNotT, VL.wAndT, VL.wOrT, VL.wAnd, VL.wOr, VL.wNot, VL.wIf, VL.wNil, VL.wCons, VL.wTup, VL.wLst, VL.wStay, VL.wNew, VL.wPar, VL.wAug, VL.wDrop, VL.wRet, VL.wRetN, VL.wRet0, VL.wIfS, VL.wBrk, VL.wCnt, VL.wGt, VL.wGs, VL.wCB, VL.wCBN, VL.wCall, VL.wCallN, VL.wCallIo, VL.wCallIoN, VL.wCallK, VL.wIsi, VL.wIsi2, VL.wApp, VL.wExt, VL.wIns, VL.wSetIt, VL.wNoPart, VL.wPart, VL.wSl, VL.wSlN, VL.wChain, VL.wNeg, VL.wDnew, VL.wDput, VL.wDget, VL.wDin, VL.wDnin, VL.wIndex, VL.wRev, VL.wParNE, VL.wParEN, VL.wPar3, VL.wYes, VL.wSeqOf, VL.wRng1, VL.wRng2, VL.oI, VL.oI0, VL.oLt, VL.oLe, VL.oGt, VL.oGe, VL.oSub, VL.oMul, VL.oFdiv, VL.oMod, VL.oPow, VL.oShl', VL.oAbs, VL.oMax2, VL.oMin2, VL.oGcd, VL.atI_0, VL.atI_1, VL.atI_2, VL.ixN_20, VL.ixN_21, and_assoc, VL.shp_int, VL.shp_bool, VL.shp_none, VL.eqv_int, VL.eqv_bool, VL.isiD, VL.tyD, String.reduceBEq, Bool.not_true, Bool.not_false, Bool.and_true, Bool.and_false, Bool.true_and, Bool.false_and, Bool.or_true, Bool.or_false, Bool.true_or, Bool.false_or, decide_true, decide_false, Bool.not_eq_true', Bool.not_eq_eq_eq_not, decide_eq_true_eq, decide_eq_false_iff_not, VL.oInt1, VL.oInt2, VL.oLen, VL.oToInt, VL.oAdd, VL.oEq, VL.oNe, VL.oIsN, VL.oIn, VL.itemD, VL.isN, VL.der, VL.ders, VL.dats, VL.ioA, VL.endsV, VL.retE, VL.keepC, Option.map, List.range_succ, List.range_zero, List.map_cons, List.map_nil, List.map_append, List.nil_append, List.cons_append, List.append_nil, List.replicate_zero, List.replicate_succ, List.length_cons, List.length_nil, Nat.sub_self, List.getElem?_cons_zero, List.getElem?_cons_succ, List.set_cons_zero, List.set_cons_succ, Option.some.injEq, exists_eq_left', exists_eq_left, exists_eq_right, exists_and_left, exists_and_right, and_true, true_and, CV.d.injEq, CV.loc.injEq, Cell.lst.injEq, Cell.dat.injEq, Cell.dic.injEq, PyData.int.injEq, PyData.bool.injEq, PyData.list.injEq, PyData.tuple.injEq, PyData.str.injEq, reduceCtorEq, false_and, and_false, exists_false, false_or, or_false, if_true, if_false, reduceIte, Bool.false_eq_true, Nat.reduceAdd, Nat.reduceSub, Nat.succ_sub_succ, Nat.zero_add, VL.gP, List.filterMap_cons, List.filterMap_nil, List.cons.injEq, VL.wDisp0, VL.wDisp, VL.wPairs, VL.oLcm, VL.wPop, VL.wRevM, VL.wClearM, VL.wTupRg, VL.wListRg, VL.wR1, VL.wR2, VL.wRevN, VL.oRepT, VL.oRepL]
  refine ⟨⟨by omega, by omega⟩, fun i ρ => ∃ c, ρ = [.dat (.tuple [.int M.n, M.b.d, .tuple (M.rs.map rwD)]), .dat (.int n), .dat (dttD (kvK (cnts M i))), c, .dat (.int M.n), .dat M.b.d, .dat (.tuple (M.rs.map rwD)), .un], ⟨_, rfl⟩, ?_, ?_⟩
  · rintro i ρ d ⟨c, rfl⟩ hx
    obtain ⟨rfl, hi⟩ := rng_at hx
    simp only [VL.wSeq, VL.wNext, VL.wNever, VL.wAsg, VL.wSet, VL.wVar, VL.wFrz, VL.wC, VL.wOp, VL.wTest, VL.wNotT, VL.wAndT, VL.wOrT, VL.wAnd, VL.wOr, VL.wNot, VL.wIf, VL.wNil, VL.wCons, VL.wTup, VL.wLst, VL.wStay, VL.wNew, VL.wPar, VL.wAug, VL.wDrop, VL.wRet, VL.wRetN, VL.wRet0, VL.wIfS, VL.wBrk, VL.wCnt, VL.wGt, VL.wGs, VL.wCB, VL.wCBN, VL.wCall, VL.wCallN, VL.wCallIo, VL.wCallIoN, VL.wCallK, VL.wIsi, VL.wIsi2, VL.wApp, VL.wExt, VL.wIns, VL.wSetIt, VL.wNoPart, VL.wPart, VL.wSl, VL.wSlN, VL.wChain, VL.wNeg, VL.wDnew, VL.wDput, VL.wDget, VL.wDin, VL.wDnin, VL.wIndex, VL.wRev, VL.wParNE, VL.wParEN, VL.wPar3, VL.wYes, VL.wSeqOf, VL.wRng1, VL.wRng2, VL.oI, VL.oI0, VL.oLt, VL.oLe, VL.oGt, VL.oGe, VL.oSub, VL.oMul, VL.oFdiv, VL.oMod, VL.oPow, VL.oShl', VL.oAbs, VL.oMax2, VL.oMin2, VL.oGcd, VL.atI_0, VL.atI_1, VL.atI_2, VL.ixN_20, VL.ixN_21, and_assoc, VL.shp_int, VL.shp_bool, VL.shp_none, VL.eqv_int, VL.eqv_bool, VL.isiD, VL.tyD, String.reduceBEq, Bool.not_true, Bool.not_false, Bool.and_true, Bool.and_false, Bool.true_and, Bool.false_and, Bool.or_true, Bool.or_false, Bool.true_or, Bool.false_or, decide_true, decide_false, Bool.not_eq_true', Bool.not_eq_eq_eq_not, decide_eq_true_eq, decide_eq_false_iff_not, VL.oInt1, VL.oInt2, VL.oLen, VL.oToInt, VL.oAdd, VL.oEq, VL.oNe, VL.oIsN, VL.oIn, VL.itemD, VL.isN, VL.der, VL.ders, VL.dats, VL.ioA, VL.endsV, VL.retE, VL.keepC, Option.map, List.range_succ, List.range_zero, List.map_cons, List.map_nil, List.map_append, List.nil_append, List.cons_append, List.append_nil, List.replicate_zero, List.replicate_succ, List.length_cons, List.length_nil, Nat.sub_self, List.getElem?_cons_zero, List.getElem?_cons_succ, List.set_cons_zero, List.set_cons_succ, Option.some.injEq, exists_eq_left', exists_eq_left, exists_eq_right, exists_and_left, exists_and_right, and_true, true_and, CV.d.injEq, CV.loc.injEq, Cell.lst.injEq, Cell.dat.injEq, Cell.dic.injEq, PyData.int.injEq, PyData.bool.injEq, PyData.list.injEq, PyData.tuple.injEq, PyData.str.injEq, reduceCtorEq, false_and, and_false, exists_false, false_or, or_false, if_true, if_false, reduceIte, Bool.false_eq_true, Nat.reduceAdd, Nat.reduceSub, Nat.succ_sub_succ, Nat.zero_add, VL.gP, List.filterMap_cons, List.filterMap_nil, List.cons.injEq, VL.wDisp0, VL.wDisp, VL.wPairs, VL.oLcm, VL.wPop, VL.wRevM, VL.wClearM, VL.wTupRg, VL.wListRg, VL.wR1, VL.wR2, VL.wRevN, VL.oRepT, VL.oRepL]
    rw [hB]
    simp only [VL.wSeq, VL.wNext, VL.wNever, VL.wAsg, VL.wSet, VL.wVar, VL.wFrz, VL.wC, VL.wOp, VL.wTest, VL.wNotT, VL.wAndT, VL.wOrT, VL.wAnd, VL.wOr, VL.wNot, VL.wIf, VL.wNil, VL.wCons, VL.wTup, VL.wLst, VL.wStay, VL.wNew, VL.wPar, VL.wAug, VL.wDrop, VL.wRet, VL.wRetN, VL.wRet0, VL.wIfS, VL.wBrk, VL.wCnt, VL.wGt, VL.wGs, VL.wCB, VL.wCBN, VL.wCall, VL.wCallN, VL.wCallIo, VL.wCallIoN, VL.wCallK, VL.wIsi, VL.wIsi2, VL.wApp, VL.wExt, VL.wIns, VL.wSetIt, VL.wNoPart, VL.wPart, VL.wSl, VL.wSlN, VL.wChain, VL.wNeg, VL.wDnew, VL.wDput, VL.wDget, VL.wDin, VL.wDnin, VL.wIndex, VL.wRev, VL.wParNE, VL.wParEN, VL.wPar3, VL.wYes, VL.wSeqOf, VL.wRng1, VL.wRng2, VL.oI, VL.oI0, VL.oLt, VL.oLe, VL.oGt, VL.oGe, VL.oSub, VL.oMul, VL.oFdiv, VL.oMod, VL.oPow, VL.oShl', VL.oAbs, VL.oMax2, VL.oMin2, VL.oGcd, VL.atI_0, VL.atI_1, VL.atI_2, VL.ixN_20, VL.ixN_21, and_assoc, VL.shp_int, VL.shp_bool, VL.shp_none, VL.eqv_int, VL.eqv_bool, VL.isiD, VL.tyD, String.reduceBEq, Bool.not_true, Bool.not_false, Bool.and_true, Bool.and_false, Bool.true_and, Bool.false_and, Bool.or_true, Bool.or_false, Bool.true_or, Bool.false_or, decide_true, decide_false, Bool.not_eq_true', Bool.not_eq_eq_eq_not, decide_eq_true_eq, decide_eq_false_iff_not, VL.oInt1, VL.oInt2, VL.oLen, VL.oToInt, VL.oAdd, VL.oEq, VL.oNe, VL.oIsN, VL.oIn, VL.itemD, VL.isN, VL.der, VL.ders, VL.dats, VL.ioA, VL.endsV, VL.retE, VL.keepC, Option.map, List.range_succ, List.range_zero, List.map_cons, List.map_nil, List.map_append, List.nil_append, List.cons_append, List.append_nil, List.replicate_zero, List.replicate_succ, List.length_cons, List.length_nil, Nat.sub_self, List.getElem?_cons_zero, List.getElem?_cons_succ, List.set_cons_zero, List.set_cons_succ, Option.some.injEq, exists_eq_left', exists_eq_left, exists_eq_right, exists_and_left, exists_and_right, and_true, true_and, CV.d.injEq, CV.loc.injEq, Cell.lst.injEq, Cell.dat.injEq, Cell.dic.injEq, PyData.int.injEq, PyData.bool.injEq, PyData.list.injEq, PyData.tuple.injEq, PyData.str.injEq, reduceCtorEq, false_and, and_false, exists_false, false_or, or_false, if_true, if_false, reduceIte, Bool.false_eq_true, Nat.reduceAdd, Nat.reduceSub, Nat.succ_sub_succ, Nat.zero_add, VL.gP, List.filterMap_cons, List.filterMap_nil, List.cons.injEq, VL.wDisp0, VL.wDisp, VL.wPairs, VL.oLcm, VL.wPop, VL.wRevM, VL.wClearM, VL.wTupRg, VL.wListRg, VL.wR1, VL.wR2, VL.wRevN, VL.oRepT, VL.oRepL, S_counts_below]
    exact ⟨M, rfl, _, rfl, ok, cnts_ok ok i, rfl, _, rfl⟩
  · rintro ρ ⟨c, rfl⟩
    rw [rng_len, hk]
    simp only [VL.wSeq, VL.wNext, VL.wNever, VL.wAsg, VL.wSet, VL.wVar, VL.wFrz, VL.wC, VL.wOp, VL.wTest, VL.wNotT, VL.wAndT, VL.wOrT, VL.wAnd, VL.wOr, VL.wNot, VL.wIf, VL.wNil, VL.wCons, VL.wTup, VL.wLst, VL.wStay, VL.wNew, VL.wPar, VL.wAug, VL.wDrop, VL.wRet, VL.wRetN, VL.wRet0, VL.wIfS, VL.wBrk, VL.wCnt, VL.wGt, VL.wGs, VL.wCB, VL.wCBN, VL.wCall, VL.wCallN, VL.wCallIo, VL.wCallIoN, VL.wCallK, VL.wIsi, VL.wIsi2, VL.wApp, VL.wExt, VL.wIns, VL.wSetIt, VL.wNoPart, VL.wPart, VL.wSl, VL.wSlN, VL.wChain, VL.wNeg, VL.wDnew, VL.wDput, VL.wDget, VL.wDin, VL.wDnin, VL.wIndex, VL.wRev, VL.wParNE, VL.wParEN, VL.wPar3, VL.wYes, VL.wSeqOf, VL.wRng1, VL.wRng2, VL.oI, VL.oI0, VL.oLt, VL.oLe, VL.oGt, VL.oGe, VL.oSub, VL.oMul, VL.oFdiv, VL.oMod, VL.oPow, VL.oShl', VL.oAbs, VL.oMax2, VL.oMin2, VL.oGcd, VL.atI_0, VL.atI_1, VL.atI_2, VL.ixN_20, VL.ixN_21, and_assoc, VL.shp_int, VL.shp_bool, VL.shp_none, VL.eqv_int, VL.eqv_bool, VL.isiD, VL.tyD, String.reduceBEq, Bool.not_true, Bool.not_false, Bool.and_true, Bool.and_false, Bool.true_and, Bool.false_and, Bool.or_true, Bool.or_false, Bool.true_or, Bool.false_or, decide_true, decide_false, Bool.not_eq_true', Bool.not_eq_eq_eq_not, decide_eq_true_eq, decide_eq_false_iff_not, VL.oInt1, VL.oInt2, VL.oLen, VL.oToInt, VL.oAdd, VL.oEq, VL.oNe, VL.oIsN, VL.oIn, VL.itemD, VL.isN, VL.der, VL.ders, VL.dats, VL.ioA, VL.endsV, VL.retE, VL.keepC, Option.map, List.range_succ, List.range_zero, List.map_cons, List.map_nil, List.map_append, List.nil_append, List.cons_append, List.append_nil, List.replicate_zero, List.replicate_succ, List.length_cons, List.length_nil, Nat.sub_self, List.getElem?_cons_zero, List.getElem?_cons_succ, List.set_cons_zero, List.set_cons_succ, Option.some.injEq, exists_eq_left', exists_eq_left, exists_eq_right, exists_and_left, exists_and_right, and_true, true_and, CV.d.injEq, CV.loc.injEq, Cell.lst.injEq, Cell.dat.injEq, Cell.dic.injEq, PyData.int.injEq, PyData.bool.injEq, PyData.list.injEq, PyData.tuple.injEq, PyData.str.injEq, reduceCtorEq, false_and, and_false, exists_false, false_or, or_false, if_true, if_false, reduceIte, Bool.false_eq_true, Nat.reduceAdd, Nat.reduceSub, Nat.succ_sub_succ, Nat.zero_add, VL.gP, List.filterMap_cons, List.filterMap_nil, List.cons.injEq, VL.wDisp0, VL.wDisp, VL.wPairs, VL.oLcm, VL.wPop, VL.wRevM, VL.wClearM, VL.wTupRg, VL.wListRg, VL.wR1, VL.wR2, VL.wRevN, VL.oRepT, VL.oRepL, wGTup, wGx, wipeE, okLd]
    have n6 := ok.n6
    refine ⟨⟨by omega, by omega⟩, fun i acc ρ => acc = (List.range i).map (fun i => PyData.int (getK (cnts M n) ⟨false, i⟩ : Nat)) ∧ ρ = [.dat (.tuple [.int M.n, M.b.d, .tuple (M.rs.map rwD)]), .dat (.int n), .dat (dttD (kvK (cnts M n))), c, .dat (.int M.n), .dat M.b.d, .dat (.tuple (M.rs.map rwD)), .un], ⟨rfl, rfl⟩, ?_, ?_⟩
    · rintro i acc ρ d ⟨rfl, rfl⟩ hx
      obtain ⟨rfl, hi⟩ := rng_at hx
      refine gget_is (kvs := cnts M n) (i := i) rfl (fun P h => var_dat rfl h) ?_
      refine ⟨_, rfl, small_size (by rw [List.length_map, List.length_range]; omega), ?_, rfl⟩
      rw [List.range_succ, List.map_append]
      rfl
    · rintro acc ρ ⟨rfl, rfl⟩
      refine ⟨Nat.le_of_lt (small_size (by rw [List.length_map, List.length_range, rng_len]; omega)), ?_⟩
      rw [rng_len]
      exact h
theorem gkey_at {ρ : En} {a b c : Nat} {kvs : Kv} {kv : Pl × Nat} {P : CV → En → Prop} (h1 : ρ[a]? = some (.dat (dttD (kvK kvs)))) (h2 : ρ[b]? = some (.dat (.str kv.1.w))) (h3 : ρ[c]? = some (.dat (.int (kv.1.i : Nat)))) (vl : valD (kvK kvs) kv.1.key = some (.int (kv.2 : Nat))) (h : P (.d (.int (kv.2 : Nat))) ρ) : wGKey (wVar a) (wTup (wCons (wVar b) (wCons (wVar c) wNil))) ρ P := by
  unfold wGKey
  refine var_dat h1 ⟨kvK kvs, rfl, ?_⟩
  refine tup2 ?_
  refine var_dat h2 (var_dat h3 ⟨_, rfl, (by show 2 ≤ sizeLine; decide), kv.1.key, _, rfl, vl, h⟩)
theorem h__law_counts (ρ : En) (Q : RV → En → Prop) (h : S__law_counts ρ Q) : t__law_counts (endsV 2 Q) (ρ ++ List.replicate (8 - 2) .un) := by
  obtain ⟨M, n, rfl, ok, hn, h⟩ := h
  unfold t__law_counts mcD rsD
  refine seq_gen fun k hk => ?_
  simp only [VL.wSeq, VL.wNext, VL.wNever, VL.wAsg, VL.wSet, VL.wVar, VL.wFrz, VL.wC, VL.wOp, VL.wTest, VL.wNotT, VL.wAndT, VL.wOrT, VL.wAnd, VL.wOr, VL.wNot, VL.wIf, VL.wNil, VL.wCons, VL.wTup, VL.wLst, VL.wStay, VL.wNew, VL.wPar, VL.wAug, VL.wDrop, VL.wRet, VL.wRetN, VL.wRet0, VL.wIfS, VL.wBrk, VL.wCnt, VL.wGt, VL.wGs, VL.wCB, VL.wCBN, VL.wCall, VL.wCallN, VL.wCallIo, VL.wCallIoN, VL.wCallK, VL.wIsi, VL.wIsi2, VL.wApp, VL.wExt, VL.wIns, VL.wSetIt, VL.wNoPart, VL.wPart, VL.wSl, VL.wSlN, VL.wChain, VL.wNeg, VL.wDnew, VL.wDput, VL.wDget, VL.wDin, VL.wDnin, VL.wIndex, VL.wRev, VL.wParNE, VL.wParEN, VL.wPar3, VL.wYes, VL.wSeqOf, VL.wRng1, VL.wRng2, VL.oI, VL.oI0, VL.oLt, VL.oLe, VL.oGt, VL.oGe, VL.oSub, VL.oMul, VL.oFdiv, VL.oMod, VL.oPow, VL.oShl', VL.oAbs, VL.oMax2, VL.oMin2, VL.oGcd, VL.atI_0, VL.atI_1, VL.atI_2, VL.ixN_20, VL.ixN_21, and_assoc, VL.shp_int, VL.shp_bool, VL.shp_none, VL.eqv_int, VL.eqv_bool, VL.isiD, VL.tyD, String.reduceBEq, Bool.not_true, Bool.not_false, Bool.and_true, Bool.and_false, Bool.true_and, Bool.false_and, Bool.or_true, Bool.or_false, Bool.true_or, Bool.false_or, decide_true, decide_false, Bool.not_eq_true', Bool.not_eq_eq_eq_not, decide_eq_true_eq, decide_eq_false_iff_not, VL.oInt1, VL.oInt2, VL.oLen, VL.oToInt, VL.oAdd, VL.oEq, VL.oNe, VL.oIsN, VL.oIn, VL.itemD, VL.isN, VL.der, VL.ders, VL.dats, VL.ioA, VL.endsV, VL.retE, VL.keepC, Option.map, List.range_succ, List.range_zero, List.map_cons, List.map_nil, List.map_append, List.nil_append, List.cons_append, List.append_nil, List.replicate_zero, List.replicate_succ, List.length_cons, List.length_nil, Nat.sub_self, List.getElem?_cons_zero, List.getElem?_cons_succ, List.set_cons_zero, List.set_cons_succ, Option.some.injEq, exists_eq_left', exists_eq_left, exists_eq_right, exists_and_left, exists_and_right, and_true, true_and, CV.d.injEq, CV.loc.injEq, Cell.lst.injEq, Cell.dat.injEq, Cell.dic.injEq, PyData.int.injEq, PyData.bool.injEq, PyData.list.injEq, PyData.tuple.injEq, PyData.str.injEq, reduceCtorEq, false_and, and_false, exists_false, false_or, or_false, if_true, if_false, reduceIte, Bool.false_eq_true, Nat.reduceAdd, Nat.reduceSub, Nat.succ_sub_succ, Nat.zero_add, VL.gP, List.filterMap_cons, List.filterMap_nil, List.cons.injEq, VL.wDisp0, VL.wDisp, VL.wPairs, VL.oLcm, VL.wPop, VL.wRevM, VL.wClearM, VL.wTupRg, VL.wListRg, VL.wR1, VL.wR2, VL.wRevN, VL.oRepT, VL.oRepL, wDispT]
  refine ⟨M.b.key, rfl, ?_⟩
  show k [.dat (.tuple [.int M.n, M.b.d, .tuple (M.rs.map rwD)]), .dat (.int n), .dat (dttD (kvK (cnts M 0))), .un, .un, .un, .un, .un]
  rw [hk]
  clear hk k
  refine seq_gen fun k hk => ?_
  refine for_body fun B hB => ?_
  unfold wFor
  simp only [VL.wSeq, VL.wNext, VL.wNever, VL.wAsg, VL.wSet, VL.wVar, VL.wFrz, VL.wC, VL.wOp, VL.wTest, VL.wNotT, VL.wAndT, VL.wOrT, VL.wAnd, VL.wOr, VL.wNot, VL.wIf, VL.wNil, VL.wCons, VL.wTup, VL.wLst, VL.wStay, VL.wNew, VL.wPar, VL.wAug, VL.wDrop, VL.wRet, VL.wRetN, VL.wRet0, VL.wIfS, VL.wBrk, VL.wCnt, VL.wGt, VL.wGs, VL.wCB, VL.wCBN, VL.wCall, VL.wCallN, VL.wCallIo, VL.wCallIoN, VL.wCallK, VL.wIsi, VL.wIsi2, VL.wApp, VL.wExt, VL.wIns, VL.wSetIt, VL.wNoPart, VL.wPart, VL.wSl, VL.wSlN, VL.wChain, VL.wNeg, VL.wDnew, VL.wDput, VL.wDget, VL.wDin, VL.wDnin, VL.wIndex, VL.wRev, VL.wParNE, VL.wParEN, VL.wPar3, VL.wYes, VL.wSeqOf, VL.wRng1, VL.wRng2, VL.oI, VL.oI0, VL.oLt, VL.oLe, VL.oGt, VL.oGe, VL.oSub, VL.oMul, VL.oFdiv, VL.oMod, VL.oPow, VL.oShl', VL.oAbs, VL.oMax2, VL.oMin2, VL.oGcd, VL.atI_0, VL.atI_1, VL.atI_2, VL.ixN_20, VL.ixN_21, and_assoc, VL.shp_int, VL.shp_bool, VL.shp_none, VL.eqv_int, VL.eqv_bool, VL.isiD, VL.tyD, String.reduceBEq, Bool.not_true, Bool.not_false, Bool.and_true, Bool.and_false, Bool.true_and, Bool.false_and, Bool.or_true, Bool.or_false, Bool.true_or, Bool.false_or, decide_true, decide_false, Bool.not_eq_true', Bool.not_eq_eq_eq_not, decide_eq_true_eq, decide_eq_false_iff_not, VL.oInt1, VL.oInt2, VL.oLen, VL.oToInt, VL.oAdd, VL.oEq, VL.oNe, VL.oIsN, VL.oIn, VL.itemD, VL.isN, VL.der, VL.ders, VL.dats, VL.ioA, VL.endsV, VL.retE, VL.keepC, Option.map, List.range_succ, List.range_zero, List.map_cons, List.map_nil, List.map_append, List.nil_append, List.cons_append, List.append_nil, List.replicate_zero, List.replicate_succ, List.length_cons, List.length_nil, Nat.sub_self, List.getElem?_cons_zero, List.getElem?_cons_succ, List.set_cons_zero, List.set_cons_succ, Option.some.injEq, exists_eq_left', exists_eq_left, exists_eq_right, exists_and_left, exists_and_right, and_true, true_and, CV.d.injEq, CV.loc.injEq, Cell.lst.injEq, Cell.dat.injEq, Cell.dic.injEq, PyData.int.injEq, PyData.bool.injEq, PyData.list.injEq, PyData.tuple.injEq, PyData.str.injEq, reduceCtorEq, false_and, and_false, exists_false, false_or, or_false, if_true, if_false, reduceIte, Bool.false_eq_true, Nat.reduceAdd, Nat.reduceSub, Nat.succ_sub_succ, Nat.zero_add, VL.gP, List.filterMap_cons, List.filterMap_nil, List.cons.injEq, VL.wDisp0, VL.wDisp, VL.wPairs, VL.oLcm, VL.wPop, VL.wRevM, VL.wClearM, VL.wTupRg, VL.wListRg, VL.wR1, VL.wR2, VL.wRevN, VL.oRepT, VL.oRepL]
  refine ⟨⟨by omega, by omega⟩, fun i ρ => ∃ c3 c4 c5 c6 c7, ρ = [.dat (.tuple [.int M.n, M.b.d, .tuple (M.rs.map rwD)]), .dat (.int n), .dat (dttD (kvK (cnts M i))), c3, c4, c5, c6, c7], ⟨_, _, _, _, _, rfl⟩, ?_, ?_⟩
  · rintro i ρ d ⟨c3, c4, c5, c6, c7, rfl⟩ hx
    obtain ⟨rfl, hi⟩ := rng_at hx
    have kok := cnts_ok ok i
    have nl : cnts M (i + 1) = (cnts M i).foldl (add2 M) [] := rfl
    generalize cnts M i = kvs at *
    simp only [VL.wSeq, VL.wNext, VL.wNever, VL.wAsg, VL.wSet, VL.wVar, VL.wFrz, VL.wC, VL.wOp, VL.wTest, VL.wNotT, VL.wAndT, VL.wOrT, VL.wAnd, VL.wOr, VL.wNot, VL.wIf, VL.wNil, VL.wCons, VL.wTup, VL.wLst, VL.wStay, VL.wNew, VL.wPar, VL.wAug, VL.wDrop, VL.wRet, VL.wRetN, VL.wRet0, VL.wIfS, VL.wBrk, VL.wCnt, VL.wGt, VL.wGs, VL.wCB, VL.wCBN, VL.wCall, VL.wCallN, VL.wCallIo, VL.wCallIoN, VL.wCallK, VL.wIsi, VL.wIsi2, VL.wApp, VL.wExt, VL.wIns, VL.wSetIt, VL.wNoPart, VL.wPart, VL.wSl, VL.wSlN, VL.wChain, VL.wNeg, VL.wDnew, VL.wDput, VL.wDget, VL.wDin, VL.wDnin, VL.wIndex, VL.wRev, VL.wParNE, VL.wParEN, VL.wPar3, VL.wYes, VL.wSeqOf, VL.wRng1, VL.wRng2, VL.oI, VL.oI0, VL.oLt, VL.oLe, VL.oGt, VL.oGe, VL.oSub, VL.oMul, VL.oFdiv, VL.oMod, VL.oPow, VL.oShl', VL.oAbs, VL.oMax2, VL.oMin2, VL.oGcd, VL.atI_0, VL.atI_1, VL.atI_2, VL.ixN_20, VL.ixN_21, and_assoc, VL.shp_int, VL.shp_bool, VL.shp_none, VL.eqv_int, VL.eqv_bool, VL.isiD, VL.tyD, String.reduceBEq, Bool.not_true, Bool.not_false, Bool.and_true, Bool.and_false, Bool.true_and, Bool.false_and, Bool.or_true, Bool.or_false, Bool.true_or, Bool.false_or, decide_true, decide_false, Bool.not_eq_true', Bool.not_eq_eq_eq_not, decide_eq_true_eq, decide_eq_false_iff_not, VL.oInt1, VL.oInt2, VL.oLen, VL.oToInt, VL.oAdd, VL.oEq, VL.oNe, VL.oIsN, VL.oIn, VL.itemD, VL.isN, VL.der, VL.ders, VL.dats, VL.ioA, VL.endsV, VL.retE, VL.keepC, Option.map, List.range_succ, List.range_zero, List.map_cons, List.map_nil, List.map_append, List.nil_append, List.cons_append, List.append_nil, List.replicate_zero, List.replicate_succ, List.length_cons, List.length_nil, Nat.sub_self, List.getElem?_cons_zero, List.getElem?_cons_succ, List.set_cons_zero, List.set_cons_succ, Option.some.injEq, exists_eq_left', exists_eq_left, exists_eq_right, exists_and_left, exists_and_right, and_true, true_and, CV.d.injEq, CV.loc.injEq, Cell.lst.injEq, Cell.dat.injEq, Cell.dic.injEq, PyData.int.injEq, PyData.bool.injEq, PyData.list.injEq, PyData.tuple.injEq, PyData.str.injEq, reduceCtorEq, false_and, and_false, exists_false, false_or, or_false, if_true, if_false, reduceIte, Bool.false_eq_true, Nat.reduceAdd, Nat.reduceSub, Nat.succ_sub_succ, Nat.zero_add, VL.gP, List.filterMap_cons, List.filterMap_nil, List.cons.injEq, VL.wDisp0, VL.wDisp, VL.wPairs, VL.oLcm, VL.wPop, VL.wRevM, VL.wClearM, VL.wTupRg, VL.wListRg, VL.wR1, VL.wR2, VL.wRevN, VL.oRepT, VL.oRepL]
    rw [hB]
    clear hB B
    refine seq_gen fun k2 hk2 => ?_
    simp only [VL.wSeq, VL.wNext, VL.wNever, VL.wAsg, VL.wSet, VL.wVar, VL.wFrz, VL.wC, VL.wOp, VL.wTest, VL.wNotT, VL.wAndT, VL.wOrT, VL.wAnd, VL.wOr, VL.wNot, VL.wIf, VL.wNil, VL.wCons, VL.wTup, VL.wLst, VL.wStay, VL.wNew, VL.wPar, VL.wAug, VL.wDrop, VL.wRet, VL.wRetN, VL.wRet0, VL.wIfS, VL.wBrk, VL.wCnt, VL.wGt, VL.wGs, VL.wCB, VL.wCBN, VL.wCall, VL.wCallN, VL.wCallIo, VL.wCallIoN, VL.wCallK, VL.wIsi, VL.wIsi2, VL.wApp, VL.wExt, VL.wIns, VL.wSetIt, VL.wNoPart, VL.wPart, VL.wSl, VL.wSlN, VL.wChain, VL.wNeg, VL.wDnew, VL.wDput, VL.wDget, VL.wDin, VL.wDnin, VL.wIndex, VL.wRev, VL.wParNE, VL.wParEN, VL.wPar3, VL.wYes, VL.wSeqOf, VL.wRng1, VL.wRng2, VL.oI, VL.oI0, VL.oLt, VL.oLe, VL.oGt, VL.oGe, VL.oSub, VL.oMul, VL.oFdiv, VL.oMod, VL.oPow, VL.oShl', VL.oAbs, VL.oMax2, VL.oMin2, VL.oGcd, VL.atI_0, VL.atI_1, VL.atI_2, VL.ixN_20, VL.ixN_21, and_assoc, VL.shp_int, VL.shp_bool, VL.shp_none, VL.eqv_int, VL.eqv_bool, VL.isiD, VL.tyD, String.reduceBEq, Bool.not_true, Bool.not_false, Bool.and_true, Bool.and_false, Bool.true_and, Bool.false_and, Bool.or_true, Bool.or_false, Bool.true_or, Bool.false_or, decide_true, decide_false, Bool.not_eq_true', Bool.not_eq_eq_eq_not, decide_eq_true_eq, decide_eq_false_iff_not, VL.oInt1, VL.oInt2, VL.oLen, VL.oToInt, VL.oAdd, VL.oEq, VL.oNe, VL.oIsN, VL.oIn, VL.itemD, VL.isN, VL.der, VL.ders, VL.dats, VL.ioA, VL.endsV, VL.retE, VL.keepC, Option.map, List.range_succ, List.range_zero, List.map_cons, List.map_nil, List.map_append, List.nil_append, List.cons_append, List.append_nil, List.replicate_zero, List.replicate_succ, List.length_cons, List.length_nil, Nat.sub_self, List.getElem?_cons_zero, List.getElem?_cons_succ, List.set_cons_zero, List.set_cons_succ, Option.some.injEq, exists_eq_left', exists_eq_left, exists_eq_right, exists_and_left, exists_and_right, and_true, true_and, CV.d.injEq, CV.loc.injEq, Cell.lst.injEq, Cell.dat.injEq, Cell.dic.injEq, PyData.int.injEq, PyData.bool.injEq, PyData.list.injEq, PyData.tuple.injEq, PyData.str.injEq, reduceCtorEq, false_and, and_false, exists_false, false_or, or_false, if_true, if_false, reduceIte, Bool.false_eq_true, Nat.reduceAdd, Nat.reduceSub, Nat.succ_sub_succ, Nat.zero_add, VL.gP, List.filterMap_cons, List.filterMap_nil, List.cons.injEq, VL.wDisp0, VL.wDisp, VL.wPairs, VL.oLcm, VL.wPop, VL.wRevM, VL.wClearM, VL.wTupRg, VL.wListRg, VL.wR1, VL.wR2, VL.wRevN, VL.oRepT, VL.oRepL, wTnew]
    refine ⟨by decide, ?_⟩
    rw [hk2]
    clear hk2 k2
    refine seq_gen fun k2 hk2 => ?_
    refine for_body fun B hB => ?_
    unfold wFor wKeysT
    refine var_dat rfl ⟨kvK kvs, rfl, ?_⟩
    refine ⟨fun j ρ => ∃ c5 c6 c7, KvOk M ((kvs.take j).foldl (add2 M) []) ∧ ρ = [.dat (.tuple [.int M.n, M.b.d, .tuple (M.rs.map rwD)]), .dat (.int n), .dat (dttD (kvK kvs)), .dat (.int i), .dit (kvK ((kvs.take j).foldl (add2 M) [])), c5, c6, c7], ⟨_, _, _, nil_ok M, rfl⟩, ?_, ?_⟩
    · rintro j ρ d ⟨c5, c6, c7, fo, rfl⟩ hd
      obtain ⟨kv, rfl, hj, m⟩ := k_at hd
      have o := kok.ok kv m
      have vl := val_some (q := kv.1) (x := kv.2) kok.nd m
      have nx : (kvs.take (j + 1)).foldl (add2 M) [] = add2 M ((kvs.take j).foldl (add2 M) []) kv := by
        rw [take_at hj, List.foldl_append]
        rfl
      have fo2 := add2_ok ok fo o
      generalize (kvs.take j).foldl (add2 M) [] = f at *
      clear hd
      simp only [VL.wSeq, VL.wNext, VL.wNever, VL.wAsg, VL.wSet, VL.wVar, VL.wFrz, VL.wC, VL.wOp, VL.wTest, VL.wNotT, VL.wAndT, VL.wOrT, VL.wAnd, VL.wOr, VL.wNot, VL.wIf, VL.wNil, VL.wCons, VL.wTup, VL.wLst, VL.wStay, VL.wNew, VL.wPar, VL.wAug, VL.wDrop, VL.wRet, VL.wRetN, VL.wRet0, VL.wIfS, VL.wBrk, VL.wCnt, VL.wGt, VL.wGs, VL.wCB, VL.wCBN, VL.wCall, VL.wCallN, VL.wCallIo, VL.wCallIoN, VL.wCallK, VL.wIsi, VL.wIsi2, VL.wApp, VL.wExt, VL.wIns, VL.wSetIt, VL.wNoPart, VL.wPart, VL.wSl, VL.wSlN, VL.wChain, VL.wNeg, VL.wDnew, VL.wDput, VL.wDget, VL.wDin, VL.wDnin, VL.wIndex, VL.wRev, VL.wParNE, VL.wParEN, VL.wPar3, VL.wYes, VL.wSeqOf, VL.wRng1, VL.wRng2, VL.oI, VL.oI0, VL.oLt, VL.oLe, VL.oGt, VL.oGe, VL.oSub, VL.oMul, VL.oFdiv, VL.oMod, VL.oPow, VL.oShl', VL.oAbs, VL.oMax2, VL.oMin2, VL.oGcd, VL.atI_0, VL.atI_1, VL.atI_2, VL.ixN_20, VL.ixN_21, and_assoc, VL.shp_int, VL.shp_bool, VL.shp_none, VL.eqv_int, VL.eqv_bool, VL.isiD, VL.tyD, String.reduceBEq, Bool.not_true, Bool.not_false, Bool.and_true, Bool.and_false, Bool.true_and, Bool.false_and, Bool.or_true, Bool.or_false, Bool.true_or, Bool.false_or, decide_true, decide_false, Bool.not_eq_true', Bool.not_eq_eq_eq_not, decide_eq_true_eq, decide_eq_false_iff_not, VL.oInt1, VL.oInt2, VL.oLen, VL.oToInt, VL.oAdd, VL.oEq, VL.oNe, VL.oIsN, VL.oIn, VL.itemD, VL.isN, VL.der, VL.ders, VL.dats, VL.ioA, VL.endsV, VL.retE, VL.keepC, Option.map, List.range_succ, List.range_zero, List.map_cons, List.map_nil, List.map_append, List.nil_append, List.cons_append, List.append_nil, List.replicate_zero, List.replicate_succ, List.length_cons, List.length_nil, Nat.sub_self, List.getElem?_cons_zero, List.getElem?_cons_succ, List.set_cons_zero, List.set_cons_succ, Option.some.injEq, exists_eq_left', exists_eq_left, exists_eq_right, exists_and_left, exists_and_right, and_true, true_and, CV.d.injEq, CV.loc.injEq, Cell.lst.injEq, Cell.dat.injEq, Cell.dic.injEq, PyData.int.injEq, PyData.bool.injEq, PyData.list.injEq, PyData.tuple.injEq, PyData.str.injEq, reduceCtorEq, false_and, and_false, exists_false, false_or, or_false, if_true, if_false, reduceIte, Bool.false_eq_true, Nat.reduceAdd, Nat.reduceSub, Nat.succ_sub_succ, Nat.zero_add, VL.gP, List.filterMap_cons, List.filterMap_nil, List.cons.injEq, VL.wDisp0, VL.wDisp, VL.wPairs, VL.oLcm, VL.wPop, VL.wRevM, VL.wClearM, VL.wTupRg, VL.wListRg, VL.wR1, VL.wR2, VL.wRevN, VL.oRepT, VL.oRepL, Pl.d]
      rw [hB]
      clear hB B
      refine for_body fun B2 hB2 => ?_
      unfold wFor
      simp only [VL.wSeq, VL.wNext, VL.wNever, VL.wAsg, VL.wSet, VL.wVar, VL.wFrz, VL.wC, VL.wOp, VL.wTest, VL.wNotT, VL.wAndT, VL.wOrT, VL.wAnd, VL.wOr, VL.wNot, VL.wIf, VL.wNil, VL.wCons, VL.wTup, VL.wLst, VL.wStay, VL.wNew, VL.wPar, VL.wAug, VL.wDrop, VL.wRet, VL.wRetN, VL.wRet0, VL.wIfS, VL.wBrk, VL.wCnt, VL.wGt, VL.wGs, VL.wCB, VL.wCBN, VL.wCall, VL.wCallN, VL.wCallIo, VL.wCallIoN, VL.wCallK, VL.wIsi, VL.wIsi2, VL.wApp, VL.wExt, VL.wIns, VL.wSetIt, VL.wNoPart, VL.wPart, VL.wSl, VL.wSlN, VL.wChain, VL.wNeg, VL.wDnew, VL.wDput, VL.wDget, VL.wDin, VL.wDnin, VL.wIndex, VL.wRev, VL.wParNE, VL.wParEN, VL.wPar3, VL.wYes, VL.wSeqOf, VL.wRng1, VL.wRng2, VL.oI, VL.oI0, VL.oLt, VL.oLe, VL.oGt, VL.oGe, VL.oSub, VL.oMul, VL.oFdiv, VL.oMod, VL.oPow, VL.oShl', VL.oAbs, VL.oMax2, VL.oMin2, VL.oGcd, VL.atI_0, VL.atI_1, VL.atI_2, VL.ixN_20, VL.ixN_21, and_assoc, VL.shp_int, VL.shp_bool, VL.shp_none, VL.eqv_int, VL.eqv_bool, VL.isiD, VL.tyD, String.reduceBEq, Bool.not_true, Bool.not_false, Bool.and_true, Bool.and_false, Bool.true_and, Bool.false_and, Bool.or_true, Bool.or_false, Bool.true_or, Bool.false_or, decide_true, decide_false, Bool.not_eq_true', Bool.not_eq_eq_eq_not, decide_eq_true_eq, decide_eq_false_iff_not, VL.oInt1, VL.oInt2, VL.oLen, VL.oToInt, VL.oAdd, VL.oEq, VL.oNe, VL.oIsN, VL.oIn, VL.itemD, VL.isN, VL.der, VL.ders, VL.dats, VL.ioA, VL.endsV, VL.retE, VL.keepC, Option.map, List.range_succ, List.range_zero, List.map_cons, List.map_nil, List.map_append, List.nil_append, List.cons_append, List.append_nil, List.replicate_zero, List.replicate_succ, List.length_cons, List.length_nil, Nat.sub_self, List.getElem?_cons_zero, List.getElem?_cons_succ, List.set_cons_zero, List.set_cons_succ, Option.some.injEq, exists_eq_left', exists_eq_left, exists_eq_right, exists_and_left, exists_and_right, and_true, true_and, CV.d.injEq, CV.loc.injEq, Cell.lst.injEq, Cell.dat.injEq, Cell.dic.injEq, PyData.int.injEq, PyData.bool.injEq, PyData.list.injEq, PyData.tuple.injEq, PyData.str.injEq, reduceCtorEq, false_and, and_false, exists_false, false_or, or_false, if_true, if_false, reduceIte, Bool.false_eq_true, Nat.reduceAdd, Nat.reduceSub, Nat.succ_sub_succ, Nat.zero_add, VL.gP, List.filterMap_cons, List.filterMap_nil, List.cons.injEq, VL.wDisp0, VL.wDisp, VL.wPairs, VL.oLcm, VL.wPop, VL.wRevM, VL.wClearM, VL.wTupRg, VL.wListRg, VL.wR1, VL.wR2, VL.wRevN, VL.oRepT, VL.oRepL, w_to]
      refine ⟨shp_w _, shp_to, ?_⟩
      cases e : kv.1.to
      · have e2 : add2 M f kv = f := by
          unfold add2
          rw [e, if_neg (by decide)]
        simp only [if_false, Bool.false_eq_true]
        refine ⟨by decide, fun _ ρ => ρ = [.dat (.tuple [.int M.n, M.b.d, .tuple (M.rs.map rwD)]), .dat (.int n), .dat (dttD (kvK kvs)), .dat (.int i), .dit (kvK f), .dat (.str kv.1.w), .dat (.int (kv.1.i : Nat)), c7], rfl, (fun _ _ _ _ h => by cases h), ?_⟩
        rintro ρ rfl
        refine ⟨?_, .dat (.str kv.1.w), .dat (.int (kv.1.i : Nat)), c7, ?_⟩
        · rw [nx, e2]
          exact fo
        · rw [nx, e2] <;> rfl
      · have e2 : add2 M f kv = tw M f kv.1 kv.2 2 := by
          unfold add2
          rw [e, if_pos rfl]
          rfl
        simp only [if_true]
        refine ⟨_, nx_at M e o, ?_⟩
        simp only [VL.wSeq, VL.wNext, VL.wNever, VL.wAsg, VL.wSet, VL.wVar, VL.wFrz, VL.wC, VL.wOp, VL.wTest, VL.wNotT, VL.wAndT, VL.wOrT, VL.wAnd, VL.wOr, VL.wNot, VL.wIf, VL.wNil, VL.wCons, VL.wTup, VL.wLst, VL.wStay, VL.wNew, VL.wPar, VL.wAug, VL.wDrop, VL.wRet, VL.wRetN, VL.wRet0, VL.wIfS, VL.wBrk, VL.wCnt, VL.wGt, VL.wGs, VL.wCB, VL.wCBN, VL.wCall, VL.wCallN, VL.wCallIo, VL.wCallIoN, VL.wCallK, VL.wIsi, VL.wIsi2, VL.wApp, VL.wExt, VL.wIns, VL.wSetIt, VL.wNoPart, VL.wPart, VL.wSl, VL.wSlN, VL.wChain, VL.wNeg, VL.wDnew, VL.wDput, VL.wDget, VL.wDin, VL.wDnin, VL.wIndex, VL.wRev, VL.wParNE, VL.wParEN, VL.wPar3, VL.wYes, VL.wSeqOf, VL.wRng1, VL.wRng2, VL.oI, VL.oI0, VL.oLt, VL.oLe, VL.oGt, VL.oGe, VL.oSub, VL.oMul, VL.oFdiv, VL.oMod, VL.oPow, VL.oShl', VL.oAbs, VL.oMax2, VL.oMin2, VL.oGcd, VL.atI_0, VL.atI_1, VL.atI_2, VL.ixN_20, VL.ixN_21, and_assoc, VL.shp_int, VL.shp_bool, VL.shp_none, VL.eqv_int, VL.eqv_bool, VL.isiD, VL.tyD, String.reduceBEq, Bool.not_true, Bool.not_false, Bool.and_true, Bool.and_false, Bool.true_and, Bool.false_and, Bool.or_true, Bool.or_false, Bool.true_or, Bool.false_or, decide_true, decide_false, Bool.not_eq_true', Bool.not_eq_eq_eq_not, decide_eq_true_eq, decide_eq_false_iff_not, VL.oInt1, VL.oInt2, VL.oLen, VL.oToInt, VL.oAdd, VL.oEq, VL.oNe, VL.oIsN, VL.oIn, VL.itemD, VL.isN, VL.der, VL.ders, VL.dats, VL.ioA, VL.endsV, VL.retE, VL.keepC, Option.map, List.range_succ, List.range_zero, List.map_cons, List.map_nil, List.map_append, List.nil_append, List.cons_append, List.append_nil, List.replicate_zero, List.replicate_succ, List.length_cons, List.length_nil, Nat.sub_self, List.getElem?_cons_zero, List.getElem?_cons_succ, List.set_cons_zero, List.set_cons_succ, Option.some.injEq, exists_eq_left', exists_eq_left, exists_eq_right, exists_and_left, exists_and_right, and_true, true_and, CV.d.injEq, CV.loc.injEq, Cell.lst.injEq, Cell.dat.injEq, Cell.dic.injEq, PyData.int.injEq, PyData.bool.injEq, PyData.list.injEq, PyData.tuple.injEq, PyData.str.injEq, reduceCtorEq, false_and, and_false, exists_false, false_or, or_false, if_true, if_false, reduceIte, Bool.false_eq_true, Nat.reduceAdd, Nat.reduceSub, Nat.succ_sub_succ, Nat.zero_add, VL.gP, List.filterMap_cons, List.filterMap_nil, List.cons.injEq, VL.wDisp0, VL.wDisp, VL.wPairs, VL.oLcm, VL.wPop, VL.wRevM, VL.wClearM, VL.wTupRg, VL.wListRg, VL.wR1, VL.wR2, VL.wRevN, VL.oRepT, VL.oRepL, rwD]
        refine ⟨fun t ρ => ∃ c7, ρ = [.dat (.tuple [.int M.n, M.b.d, .tuple (M.rs.map rwD)]), .dat (.int n), .dat (dttD (kvK kvs)), .dat (.int i), .dit (kvK (tw M f kv.1 kv.2 t)), .dat (.str kv.1.w), .dat (.int (kv.1.i : Nat)), c7], ⟨_, rfl⟩, ?_, ?_⟩
        · rintro t ρ d ⟨c7, rfl⟩ hd
          obtain ⟨q, rfl, et⟩ := two_at hd f kv.2
          simp only [VL.wSeq, VL.wNext, VL.wNever, VL.wAsg, VL.wSet, VL.wVar, VL.wFrz, VL.wC, VL.wOp, VL.wTest, VL.wNotT, VL.wAndT, VL.wOrT, VL.wAnd, VL.wOr, VL.wNot, VL.wIf, VL.wNil, VL.wCons, VL.wTup, VL.wLst, VL.wStay, VL.wNew, VL.wPar, VL.wAug, VL.wDrop, VL.wRet, VL.wRetN, VL.wRet0, VL.wIfS, VL.wBrk, VL.wCnt, VL.wGt, VL.wGs, VL.wCB, VL.wCBN, VL.wCall, VL.wCallN, VL.wCallIo, VL.wCallIoN, VL.wCallK, VL.wIsi, VL.wIsi2, VL.wApp, VL.wExt, VL.wIns, VL.wSetIt, VL.wNoPart, VL.wPart, VL.wSl, VL.wSlN, VL.wChain, VL.wNeg, VL.wDnew, VL.wDput, VL.wDget, VL.wDin, VL.wDnin, VL.wIndex, VL.wRev, VL.wParNE, VL.wParEN, VL.wPar3, VL.wYes, VL.wSeqOf, VL.wRng1, VL.wRng2, VL.oI, VL.oI0, VL.oLt, VL.oLe, VL.oGt, VL.oGe, VL.oSub, VL.oMul, VL.oFdiv, VL.oMod, VL.oPow, VL.oShl', VL.oAbs, VL.oMax2, VL.oMin2, VL.oGcd, VL.atI_0, VL.atI_1, VL.atI_2, VL.ixN_20, VL.ixN_21, and_assoc, VL.shp_int, VL.shp_bool, VL.shp_none, VL.eqv_int, VL.eqv_bool, VL.isiD, VL.tyD, String.reduceBEq, Bool.not_true, Bool.not_false, Bool.and_true, Bool.and_false, Bool.true_and, Bool.false_and, Bool.or_true, Bool.or_false, Bool.true_or, Bool.false_or, decide_true, decide_false, Bool.not_eq_true', Bool.not_eq_eq_eq_not, decide_eq_true_eq, decide_eq_false_iff_not, VL.oInt1, VL.oInt2, VL.oLen, VL.oToInt, VL.oAdd, VL.oEq, VL.oNe, VL.oIsN, VL.oIn, VL.itemD, VL.isN, VL.der, VL.ders, VL.dats, VL.ioA, VL.endsV, VL.retE, VL.keepC, Option.map, List.range_succ, List.range_zero, List.map_cons, List.map_nil, List.map_append, List.nil_append, List.cons_append, List.append_nil, List.replicate_zero, List.replicate_succ, List.length_cons, List.length_nil, Nat.sub_self, List.getElem?_cons_zero, List.getElem?_cons_succ, List.set_cons_zero, List.set_cons_succ, Option.some.injEq, exists_eq_left', exists_eq_left, exists_eq_right, exists_and_left, exists_and_right, and_true, true_and, CV.d.injEq, CV.loc.injEq, Cell.lst.injEq, Cell.dat.injEq, Cell.dic.injEq, PyData.int.injEq, PyData.bool.injEq, PyData.list.injEq, PyData.tuple.injEq, PyData.str.injEq, reduceCtorEq, false_and, and_false, exists_false, false_or, or_false, if_true, if_false, reduceIte, Bool.false_eq_true, Nat.reduceAdd, Nat.reduceSub, Nat.succ_sub_succ, Nat.zero_add, VL.gP, List.filterMap_cons, List.filterMap_nil, List.cons.injEq, VL.wDisp0, VL.wDisp, VL.wPairs, VL.oLcm, VL.wPop, VL.wRevM, VL.wClearM, VL.wTupRg, VL.wListRg, VL.wR1, VL.wR2, VL.wRevN, VL.oRepT, VL.oRepL]
          rw [hB2]
          refine put_step (f := tw M f kv.1 kv.2 t) (q := q) (c := kv.2) rfl rfl (fun P h => gkey_at rfl rfl rfl vl h) (kv_size ok (tw_ok ok fo e o _ _)) ?_
          rw [← et]
          exact ⟨_, rfl⟩
        · rintro ρ ⟨c7, rfl⟩
          refine ⟨?_, .dat (.str kv.1.w), .dat (.int (kv.1.i : Nat)), c7, ?_⟩
          · rw [nx]
            exact fo2
          · rw [nx, e2] <;> rfl
    · rintro ρ ⟨c5, c6, c7, fo, rfl⟩
      rw [List.length_map, kvK_len, List.take_length]
      show k2 _
      rw [hk2]
      simp only [VL.wSeq, VL.wNext, VL.wNever, VL.wAsg, VL.wSet, VL.wVar, VL.wFrz, VL.wC, VL.wOp, VL.wTest, VL.wNotT, VL.wAndT, VL.wOrT, VL.wAnd, VL.wOr, VL.wNot, VL.wIf, VL.wNil, VL.wCons, VL.wTup, VL.wLst, VL.wStay, VL.wNew, VL.wPar, VL.wAug, VL.wDrop, VL.wRet, VL.wRetN, VL.wRet0, VL.wIfS, VL.wBrk, VL.wCnt, VL.wGt, VL.wGs, VL.wCB, VL.wCBN, VL.wCall, VL.wCallN, VL.wCallIo, VL.wCallIoN, VL.wCallK, VL.wIsi, VL.wIsi2, VL.wApp, VL.wExt, VL.wIns, VL.wSetIt, VL.wNoPart, VL.wPart, VL.wSl, VL.wSlN, VL.wChain, VL.wNeg, VL.wDnew, VL.wDput, VL.wDget, VL.wDin, VL.wDnin, VL.wIndex, VL.wRev, VL.wParNE, VL.wParEN, VL.wPar3, VL.wYes, VL.wSeqOf, VL.wRng1, VL.wRng2, VL.oI, VL.oI0, VL.oLt, VL.oLe, VL.oGt, VL.oGe, VL.oSub, VL.oMul, VL.oFdiv, VL.oMod, VL.oPow, VL.oShl', VL.oAbs, VL.oMax2, VL.oMin2, VL.oGcd, VL.atI_0, VL.atI_1, VL.atI_2, VL.ixN_20, VL.ixN_21, and_assoc, VL.shp_int, VL.shp_bool, VL.shp_none, VL.eqv_int, VL.eqv_bool, VL.isiD, VL.tyD, String.reduceBEq, Bool.not_true, Bool.not_false, Bool.and_true, Bool.and_false, Bool.true_and, Bool.false_and, Bool.or_true, Bool.or_false, Bool.true_or, Bool.false_or, decide_true, decide_false, Bool.not_eq_true', Bool.not_eq_eq_eq_not, decide_eq_true_eq, decide_eq_false_iff_not, VL.oInt1, VL.oInt2, VL.oLen, VL.oToInt, VL.oAdd, VL.oEq, VL.oNe, VL.oIsN, VL.oIn, VL.itemD, VL.isN, VL.der, VL.ders, VL.dats, VL.ioA, VL.endsV, VL.retE, VL.keepC, Option.map, List.range_succ, List.range_zero, List.map_cons, List.map_nil, List.map_append, List.nil_append, List.cons_append, List.append_nil, List.replicate_zero, List.replicate_succ, List.length_cons, List.length_nil, Nat.sub_self, List.getElem?_cons_zero, List.getElem?_cons_succ, List.set_cons_zero, List.set_cons_succ, Option.some.injEq, exists_eq_left', exists_eq_left, exists_eq_right, exists_and_left, exists_and_right, and_true, true_and, CV.d.injEq, CV.loc.injEq, Cell.lst.injEq, Cell.dat.injEq, Cell.dic.injEq, PyData.int.injEq, PyData.bool.injEq, PyData.list.injEq, PyData.tuple.injEq, PyData.str.injEq, reduceCtorEq, false_and, and_false, exists_false, false_or, or_false, if_true, if_false, reduceIte, Bool.false_eq_true, Nat.reduceAdd, Nat.reduceSub, Nat.succ_sub_succ, Nat.zero_add, VL.gP, List.filterMap_cons, List.filterMap_nil, List.cons.injEq, VL.wDisp0, VL.wDisp, VL.wPairs, VL.oLcm, VL.wPop, VL.wRevM, VL.wClearM, VL.wTupRg, VL.wListRg, VL.wR1, VL.wR2, VL.wRevN, VL.oRepT, VL.oRepL, wFrzT]
      exact ⟨_, rfl, by rw [nl], _, rfl⟩
  · rintro ρ ⟨c3, c4, c5, c6, c7, rfl⟩
    rw [rng_len, hk]
    simp only [VL.wSeq, VL.wNext, VL.wNever, VL.wAsg, VL.wSet, VL.wVar, VL.wFrz, VL.wC, VL.wOp, VL.wTest, VL.wNotT, VL.wAndT, VL.wOrT, VL.wAnd, VL.wOr, VL.wNot, VL.wIf, VL.wNil, VL.wCons, VL.wTup, VL.wLst, VL.wStay, VL.wNew, VL.wPar, VL.wAug, VL.wDrop, VL.wRet, VL.wRetN, VL.wRet0, VL.wIfS, VL.wBrk, VL.wCnt, VL.wGt, VL.wGs, VL.wCB, VL.wCBN, VL.wCall, VL.wCallN, VL.wCallIo, VL.wCallIoN, VL.wCallK, VL.wIsi, VL.wIsi2, VL.wApp, VL.wExt, VL.wIns, VL.wSetIt, VL.wNoPart, VL.wPart, VL.wSl, VL.wSlN, VL.wChain, VL.wNeg, VL.wDnew, VL.wDput, VL.wDget, VL.wDin, VL.wDnin, VL.wIndex, VL.wRev, VL.wParNE, VL.wParEN, VL.wPar3, VL.wYes, VL.wSeqOf, VL.wRng1, VL.wRng2, VL.oI, VL.oI0, VL.oLt, VL.oLe, VL.oGt, VL.oGe, VL.oSub, VL.oMul, VL.oFdiv, VL.oMod, VL.oPow, VL.oShl', VL.oAbs, VL.oMax2, VL.oMin2, VL.oGcd, VL.atI_0, VL.atI_1, VL.atI_2, VL.ixN_20, VL.ixN_21, and_assoc, VL.shp_int, VL.shp_bool, VL.shp_none, VL.eqv_int, VL.eqv_bool, VL.isiD, VL.tyD, String.reduceBEq, Bool.not_true, Bool.not_false, Bool.and_true, Bool.and_false, Bool.true_and, Bool.false_and, Bool.or_true, Bool.or_false, Bool.true_or, Bool.false_or, decide_true, decide_false, Bool.not_eq_true', Bool.not_eq_eq_eq_not, decide_eq_true_eq, decide_eq_false_iff_not, VL.oInt1, VL.oInt2, VL.oLen, VL.oToInt, VL.oAdd, VL.oEq, VL.oNe, VL.oIsN, VL.oIn, VL.itemD, VL.isN, VL.der, VL.ders, VL.dats, VL.ioA, VL.endsV, VL.retE, VL.keepC, Option.map, List.range_succ, List.range_zero, List.map_cons, List.map_nil, List.map_append, List.nil_append, List.cons_append, List.append_nil, List.replicate_zero, List.replicate_succ, List.length_cons, List.length_nil, Nat.sub_self, List.getElem?_cons_zero, List.getElem?_cons_succ, List.set_cons_zero, List.set_cons_succ, Option.some.injEq, exists_eq_left', exists_eq_left, exists_eq_right, exists_and_left, exists_and_right, and_true, true_and, CV.d.injEq, CV.loc.injEq, Cell.lst.injEq, Cell.dat.injEq, Cell.dic.injEq, PyData.int.injEq, PyData.bool.injEq, PyData.list.injEq, PyData.tuple.injEq, PyData.str.injEq, reduceCtorEq, false_and, and_false, exists_false, false_or, or_false, if_true, if_false, reduceIte, Bool.false_eq_true, Nat.reduceAdd, Nat.reduceSub, Nat.succ_sub_succ, Nat.zero_add, VL.gP, List.filterMap_cons, List.filterMap_nil, List.cons.injEq, VL.wDisp0, VL.wDisp, VL.wPairs, VL.oLcm, VL.wPop, VL.wRevM, VL.wClearM, VL.wTupRg, VL.wListRg, VL.wR1, VL.wR2, VL.wRevN, VL.oRepT, VL.oRepL]
    exact h
end K13
end
section
set_option autoImplicit false
set_option maxRecDepth 100000
set_option maxHeartbeats 4000000
namespace K13
open PySem PySem.Spec PyProof.Rows L2 VL
theorem rows_len : ∀ k : Nat, (rowsN k).length = 2 ^ k
  | 0 => rfl
  | k + 1 => by
    rw [rowsN, List.length_append, List.length_map, List.length_map, rows_len k, Nat.pow_succ]
    omega
theorem rows_lt : ∀ (k : Nat) (r : List Nat), r ∈ rowsN k → r.length = k ∧ ∀ t ∈ r, t < 2
  | 0, r, h => by
    rw [rowsN, List.mem_singleton] at h
    subst h
    exact ⟨rfl, fun t m => by cases m⟩
  | k + 1, r, h => by
    rw [rowsN] at h
    rcases List.mem_append.mp h with h | h
    · obtain ⟨s, m, rfl⟩ := List.mem_map.mp h
      obtain ⟨h1, h2⟩ := rows_lt k s m
      refine ⟨by rw [List.length_append, h1]; rfl, fun t m => ?_⟩
      rcases List.mem_append.mp m with m | m
      · exact h2 t m
      · rw [List.mem_singleton] at m
        omega
    · obtain ⟨s, m, rfl⟩ := List.mem_map.mp h
      obtain ⟨h1, h2⟩ := rows_lt k s m
      refine ⟨by rw [List.length_append, h1]; rfl, fun t m => ?_⟩
      rcases List.mem_append.mp m with m | m
      · exact h2 t m
      · rw [List.mem_singleton] at m
        omega
def rwsD (rs : List (List Nat)) : List D := rs.map fun r => .tuple (nsD r)
theorem rws_at {rs : List (List Nat)} {i : Nat} {d : D} (h : (rwsD rs)[i]? = some d) : ∃ r, d = .tuple (nsD r) ∧ rs[i]? = some r ∧ r ∈ rs := by
  unfold rwsD at h
  rw [List.getElem?_map] at h
  cases e : rs[i]? with
  | none =>
    rw [e] at h
    cases h
  | some t =>
    rw [e] at h
    cases h
    exact ⟨t, rfl, rfl, List.mem_of_getElem? e⟩
theorem rws_len (rs : List (List Nat)) : (rwsD rs).length = rs.length := List.length_map ..
theorem com_eqv (o : Option Pl) (i : Nat) : PyData.eqv (comD o) (.tuple [.str "is", .int (i : Nat)]) = decide (o = some ⟨false, i⟩) := by
  cases o with
  | none => rfl
  | some p =>
    obtain ⟨a, j⟩ := p
    show PyData.eqv (.tuple [.str (Pl.w ⟨a, j⟩), .int (j : Nat)]) _ = _
    simp only [PyData.eqv, PyData.eqvAll, Bool.and_true]
    have e := w_is ⟨a, j⟩
    rw [eqv_str] at e
    cases a
    · by_cases h : j = i
      · subst h
        simp [Pl.w]
      · have : ¬ ((j : Int) = (i : Int)) := by omega
        simp [Pl.w, h, this]
    · have e : (Str.ofString "to" == Str.ofString "is") = false := by decide
      show ((Str.ofString "to" == Str.ofString "is") && _) = _
      rw [e, Bool.false_and, decide_eq_false (by simp)]
theorem com_lay (o : Option Pl) : PyData.canLay0 (comD o) = true ∧ PyData.depth (comD o) ≤ 3 := by
  cases o with
  | none => exact ⟨rfl, by decide⟩
  | some p =>
    have h : PyData.strOk p.w = true := by
      unfold Pl.w
      cases p.to <;> decide +kernel
    unfold comD Pl.d
    refine ⟨?_, ?_⟩
    · simp [PyData.canLay0, PyData.canLayAll0, h]
    · simp [PyData.depth, PyData.depthAll]
theorem coms_lay : ∀ os : List (Option Pl), PyData.canLayAll0 (os.map comD) = true ∧ PyData.depthAll (os.map comD) ≤ 3
  | [] => by simp [PyData.canLayAll0, PyData.depthAll]
  | o :: os => by
    obtain ⟨a, b⟩ := com_lay o
    obtain ⟨c, d⟩ := coms_lay os
    refine ⟨?_, ?_⟩
    · simp only [List.map_cons, PyData.canLayAll0, a, c, Bool.and_self]
    · simp only [List.map_cons, PyData.depthAll]
      omega
theorem coms_shp (os : List (Option Pl)) : shp (.list (os.map comD)) = true := by
  obtain ⟨a, b⟩ := coms_lay os
  unfold shp SeqAt.shaped
  rw [Bool.and_eq_true]
  refine ⟨by simp only [PyData.canLay0, a], decide_eq_true ?_⟩
  simp only [PyData.depth]
  omega
theorem is_shp (i : Nat) : shp (.tuple [.str "is", .int (i : Nat)]) = true := by
  have h := com_lay (some ⟨false, i⟩)
  have e : PyData.depth (.tuple [.str "is", .int (i : Nat)]) ≤ 3 := h.2
  unfold shp SeqAt.shaped
  rw [Bool.and_eq_true]
  exact ⟨h.1, decide_eq_true (by omega)⟩
/-- each row by one longer -/
theorem lc_more {ρ : En} {P : List D → En → Prop} {rs : List (List Nat)} {x : Nat} {m a b c : Cell} (hx : x < 2) (h1 : ρ = [m, a, .dat (.list (rwsD rs)), b, .un, .un, c]) (hl : ∀ r ∈ rs, r.length ≤ 10) (hn : rs.length ≤ 200) (h : P (rwsD (rs.map (· ++ [x]))) ρ) : wLc (wSeqOf (wVar 2)) (wSet 5) wYes (wOp oAdd (wVar 5) (wTup (wCons (wC (.int (x : Nat))) wNil))) [5] ρ P := by
  subst h1
  unfold wLc
  simp only [VL.wSeq, VL.wNext, VL.wNever, VL.wAsg, VL.wSet, VL.wVar, VL.wFrz, VL.wC, VL.wOp, VL.wTest, VL.wNotT, VL.wAndT, VL.wOrT, VL.wAnd, VL.wOr, VL.wNot, VL.wIf, VL.wNil, VL.wCons, VL.wTup, VL.wLst, VL.wStay, VL.wNew, VL.wPar, VL.wAug, VL.wDrop, VL.wRet, VL.wRetN, VL.wRet0, VL.wIfS, VL.wBrk, VL.wCnt, VL.wGt, VL.wGs, VL.wCB, VL.wCBN, VL.wCall, VL.wCallN, VL.wCallIo, VL.wCallIoN, VL.wCallK, VL.wIsi, VL.wIsi2, VL.wApp, VL.wExt, VL.wIns, VL.wSetIt, VL.wNoPart, VL.wPart, VL.wSl, VL.wSlN, VL.wChain, VL.wNeg, VL.wDnew, VL.wDput, VL.wDget, VL.wDin, VL.wDnin, VL.wIndex, VL.wRev, VL.wParNE, VL.wParEN, VL.wPar3, VL.wYes, VL.wSeqOf, VL.wRng1, VL.wRng2, VL.oI, VL.oI0, VL.oLt, VL.oLe, VL.oGt, VL.oGe, VL.oSub, VL.oMul, VL.oFdiv, VL.oMod, VL.oPow, VL.oShl', VL.oAbs, VL.oMax2, VL.oMin2, VL.oGcd, VL.atI_0, VL.atI_1, VL.atI_2, VL.ixN_20, VL.ixN_21, and_assoc, VL.shp_int, VL.shp_bool, VL.shp_none, VL.eqv_int, VL.eqv_bool, VL.isiD, VL.tyD, String.reduceBEq, Bool.not_true, Bool.not_false, Bool.and_true, Bool.and_false, Bool.true_and, Bool.false_and, Bool.or_true, Bool.or_false, Bool.true_or, Bool.false_or, decide_true, decide_false, Bool.not_eq_true', Bool.not_eq_eq_eq_not, decide_eq_true_eq, decide_eq_false_iff_not, VL.oInt1, VL.oInt2, VL.oLen, VL.oToInt, VL.oAdd, VL.oEq, VL.oNe, VL.oIsN, VL.oIn, VL.itemD, VL.isN, VL.der, VL.ders, VL.dats, VL.ioA, VL.endsV, VL.retE, VL.keepC, Option.map, List.range_succ, List.range_zero, List.map_cons, List.map_nil, List.map_append, List.nil_append, List.cons_append, List.append_nil, List.replicate_zero, List.replicate_succ, List.length_cons, List.length_nil, Nat.sub_self, List.getElem?_cons_zero, List.getElem?_cons_succ, List.set_cons_zero, List.set_cons_succ, Option.some.injEq, exists_eq_left', exists_eq_left, exists_eq_right, exists_and_left, exists_and_right, and_true, true_and, CV.d.injEq, CV.loc.injEq, Cell.lst.injEq, Cell.dat.injEq, Cell.dic.injEq, PyData.int.injEq, PyData.bool.injEq, PyData.list.injEq, PyData.tuple.injEq, PyData.str.injEq, reduceCtorEq, false_and, and_false, exists_false, false_or, or_false, if_true, if_false, reduceIte, Bool.false_eq_true, Nat.reduceAdd, Nat.reduceSub, Nat.succ_sub_succ, Nat.zero_add, VL.gP, List.filterMap_cons, List.filterMap_nil, List.cons.injEq, VL.wDisp0, VL.wDisp, VL.wPairs, VL.oLcm, VL.wPop, VL.wRevM, VL.wClearM, VL.wTupRg, VL.wListRg, VL.wR1, VL.wR2, VL.wRevN, VL.oRepT, VL.oRepL, wipeE]
  refine ⟨fun i acc ρ => acc = rwsD ((rs.take i).map (· ++ [x])) ∧ ρ = [m, a, .dat (.list (rwsD rs)), b, .un, .un, c], ⟨rfl, rfl⟩, ?_, ?_⟩
  · rintro i acc ρ d ⟨rfl, rfl⟩ hd
    obtain ⟨r, rfl, hi, mr⟩ := rws_at hd
    have l := hl r mr
    simp only [VL.wSeq, VL.wNext, VL.wNever, VL.wAsg, VL.wSet, VL.wVar, VL.wFrz, VL.wC, VL.wOp, VL.wTest, VL.wNotT, VL.wAndT, VL.wOrT, VL.wAnd, VL.wOr, VL.wNot, VL.wIf, VL.wNil, VL.wCons, VL.wTup, VL.wLst, VL.wStay, VL.wNew, VL.wPar, VL.wAug, VL.wDrop, VL.wRet, VL.wRetN, VL.wRet0, VL.wIfS, VL.wBrk, VL.wCnt, VL.wGt, VL.wGs, VL.wCB, VL.wCBN, VL.wCall, VL.wCallN, VL.wCallIo, VL.wCallIoN, VL.wCallK, VL.wIsi, VL.wIsi2, VL.wApp, VL.wExt, VL.wIns, VL.wSetIt, VL.wNoPart, VL.wPart, VL.wSl, VL.wSlN, VL.wChain, VL.wNeg, VL.wDnew, VL.wDput, VL.wDget, VL.wDin, VL.wDnin, VL.wIndex, VL.wRev, VL.wParNE, VL.wParEN, VL.wPar3, VL.wYes, VL.wSeqOf, VL.wRng1, VL.wRng2, VL.oI, VL.oI0, VL.oLt, VL.oLe, VL.oGt, VL.oGe, VL.oSub, VL.oMul, VL.oFdiv, VL.oMod, VL.oPow, VL.oShl', VL.oAbs, VL.oMax2, VL.oMin2, VL.oGcd, VL.atI_0, VL.atI_1, VL.atI_2, VL.ixN_20, VL.ixN_21, and_assoc, VL.shp_int, VL.shp_bool, VL.shp_none, VL.eqv_int, VL.eqv_bool, VL.isiD, VL.tyD, String.reduceBEq, Bool.not_true, Bool.not_false, Bool.and_true, Bool.and_false, Bool.true_and, Bool.false_and, Bool.or_true, Bool.or_false, Bool.true_or, Bool.false_or, decide_true, decide_false, Bool.not_eq_true', Bool.not_eq_eq_eq_not, decide_eq_true_eq, decide_eq_false_iff_not, VL.oInt1, VL.oInt2, VL.oLen, VL.oToInt, VL.oAdd, VL.oEq, VL.oNe, VL.oIsN, VL.oIn, VL.itemD, VL.isN, VL.der, VL.ders, VL.dats, VL.ioA, VL.endsV, VL.retE, VL.keepC, Option.map, List.range_succ, List.range_zero, List.map_cons, List.map_nil, List.map_append, List.nil_append, List.cons_append, List.append_nil, List.replicate_zero, List.replicate_succ, List.length_cons, List.length_nil, Nat.sub_self, List.getElem?_cons_zero, List.getElem?_cons_succ, List.set_cons_zero, List.set_cons_succ, Option.some.injEq, exists_eq_left', exists_eq_left, exists_eq_right, exists_and_left, exists_and_right, and_true, true_and, CV.d.injEq, CV.loc.injEq, Cell.lst.injEq, Cell.dat.injEq, Cell.dic.injEq, PyData.int.injEq, PyData.bool.injEq, PyData.list.injEq, PyData.tuple.injEq, PyData.str.injEq, reduceCtorEq, false_and, and_false, exists_false, false_or, or_false, if_true, if_false, reduceIte, Bool.false_eq_true, Nat.reduceAdd, Nat.reduceSub, Nat.succ_sub_succ, Nat.zero_add, VL.gP, List.filterMap_cons, List.filterMap_nil, List.cons.injEq, VL.wDisp0, VL.wDisp, VL.wPairs, VL.oLcm, VL.wPop, VL.wRevM, VL.wClearM, VL.wTupRg, VL.wListRg, VL.wR1, VL.wR2, VL.wRevN, VL.oRepT, VL.oRepL]
    refine ⟨by decide, Nat.le_of_lt (small_size (by rw [nsD_len]; omega)), small_size (by rw [rws_len, List.length_map, List.length_take]; omega), ?_⟩
    rw [take_at hi, List.map_append]
    unfold rwsD
    rw [List.map_append, ← nsD_snoc]
    rfl
  · rintro acc ρ ⟨rfl, rfl⟩
    rw [rws_len, List.take_length]
    exact h
theorem c_io {d : D} {ρ : En} {P : CV → En → Prop} (h : P (.d d) ρ) : wC d ρ P := h
theorem count_is {ρ : En} {a b : Nat} {os : List (Option Pl)} {i : Nat} {P : CV → En → Prop} (h1 : ρ[a]? = some (.dat (.list (os.map comD)))) (h2 : ρ[b]? = some (.dat (.int i))) (h : P (.d (.int (os.countP (fun o => decide (o = some ⟨false, i⟩)) : Nat))) ρ) : wCount (wVar a) (wTup (wCons (wC (.str "is")) (wCons (wVar b) wNil))) ρ P := by
  unfold wCount
  refine var_dat h1 ⟨⟨_, rfl⟩, ?_⟩
  refine tup2 ?_
  refine c_io ?_
  refine var_dat h2 ⟨_, rfl, (by show 2 ≤ sizeLine; decide), _, _, rfl, rfl, coms_shp _, is_shp _, ?_⟩
  have e : (os.map comD).countP (fun z => PyData.eqv z (.tuple [.str "is", .int (i : Nat)])) = os.countP (fun o => decide (o = some ⟨false, i⟩)) := by
    rw [List.countP_map]
    congr 1
    funext o
    exact com_eqv o i
  rw [e]
  exact h
theorem leaf_count' {M : Mc} (ok : M.Ok) (k : Nat) (q : Pl) : ((rowsN k).map (com M)).countP (fun o => decide (o = some q)) = getK (cnts M k) q := by
  rw [leaf_count ok k q, List.countP_map]
  rfl
theorem h__law_by_rows (ρ : En) (Q : RV → En → Prop) (h : S__law_by_rows ρ Q) : t__law_by_rows (endsV 2 Q) (ρ ++ List.replicate (7 - 2) .un) := by
  obtain ⟨M, n, rfl, ok, hn, h⟩ := h
  unfold t__law_by_rows
  refine seq_gen fun k hk => ?_
  simp only [VL.wSeq, VL.wNext, VL.wNever, VL.wAsg, VL.wSet, VL.wVar, VL.wFrz, VL.wC, VL.wOp, VL.wTest, VL.wNotT, VL.wAndT, VL.wOrT, VL.wAnd, VL.wOr, VL.wNot, VL.wIf, VL.wNil, VL.wCons, VL.wTup, VL.wLst, VL.wStay, VL.wNew, VL.wPar, VL.wAug, VL.wDrop, VL.wRet, VL.wRetN, VL.wRet0, VL.wIfS, VL.wBrk, VL.wCnt, VL.wGt, VL.wGs, VL.wCB, VL.wCBN, VL.wCall, VL.wCallN, VL.wCallIo, VL.wCallIoN, VL.wCallK, VL.wIsi, VL.wIsi2, VL.wApp, VL.wExt, VL.wIns, VL.wSetIt, VL.wNoPart, VL.wPart, VL.wSl, VL.wSlN, VL.wChain, VL.wNeg, VL.wDnew, VL.wDput, VL.wDget, VL.wDin, VL.wDnin, VL.wIndex, VL.wRev, VL.wParNE, VL.wParEN, VL.wPar3, VL.wYes, VL.wSeqOf, VL.wRng1, VL.wRng2, VL.oI, VL.oI0, VL.oLt, VL.oLe, VL.oGt, VL.oGe, VL.oSub, VL.oMul, VL.oFdiv, VL.oMod, VL.oPow, VL.oShl', VL.oAbs, VL.oMax2, VL.oMin2, VL.oGcd, VL.atI_0, VL.atI_1, VL.atI_2, VL.ixN_20, VL.ixN_21, and_assoc, VL.shp_int, VL.shp_bool, VL.shp_none, VL.eqv_int, VL.eqv_bool, VL.isiD, VL.tyD, String.reduceBEq, Bool.not_true, Bool.not_false, Bool.and_true, Bool.and_false, Bool.true_and, Bool.false_and, Bool.or_true, Bool.or_false, Bool.true_or, Bool.false_or, decide_true, decide_false, Bool.not_eq_true', Bool.not_eq_eq_eq_not, decide_eq_true_eq, decide_eq_false_iff_not, VL.oInt1, VL.oInt2, VL.oLen, VL.oToInt, VL.oAdd, VL.oEq, VL.oNe, VL.oIsN, VL.oIn, VL.itemD, VL.isN, VL.der, VL.ders, VL.dats, VL.ioA, VL.endsV, VL.retE, VL.keepC, Option.map, List.range_succ, List.range_zero, List.map_cons, List.map_nil, List.map_append, List.nil_append, List.cons_append, List.append_nil, List.replicate_zero, List.replicate_succ, List.length_cons, List.length_nil, Nat.sub_self, List.getElem?_cons_zero, List.getElem?_cons_succ, List.set_cons_zero, List.set_cons_succ, Option.some.injEq, exists_eq_left', exists_eq_left, exists_eq_right, exists_and_left, exists_and_right, and_true, true_and, CV.d.injEq, CV.loc.injEq, Cell.lst.injEq, Cell.dat.injEq, Cell.dic.injEq, PyData.int.injEq, PyData.bool.injEq, PyData.list.injEq, PyData.tuple.injEq, PyData.str.injEq, reduceCtorEq, false_and, and_false, exists_false, false_or, or_false, if_true, if_false, reduceIte, Bool.false_eq_true, Nat.reduceAdd, Nat.reduceSub, Nat.succ_sub_succ, Nat.zero_add, VL.gP, List.filterMap_cons, List.filterMap_nil, List.cons.injEq, VL.wDisp0, VL.wDisp, VL.wPairs, VL.oLcm, VL.wPop, VL.wRevM, VL.wClearM, VL.wTupRg, VL.wListRg, VL.wR1, VL.wR2, VL.wRevN, VL.oRepT, VL.oRepL]
  refine ⟨by decide, by decide, ?_⟩
  show k [.dat (mcD M), .dat (.int n), .dat (.list (rwsD (rowsN 0))), .un, .un, .un, .un]
  rw [hk]
  clear hk k
  refine seq_gen fun k hk => ?_
  refine for_body fun B hB => ?_
  unfold wFor
  simp only [VL.wSeq, VL.wNext, VL.wNever, VL.wAsg, VL.wSet, VL.wVar, VL.wFrz, VL.wC, VL.wOp, VL.wTest, VL.wNotT, VL.wAndT, VL.wOrT, VL.wAnd, VL.wOr, VL.wNot, VL.wIf, VL.wNil, VL.wCons, VL.wTup, VL.wLst, VL.wStay, VL.wNew, VL.wPar, VL.wAug, VL.wDrop, VL.wRet, VL.wRetN, VL.wRet0, VL.wIfS, VL.wBrk, VL.wCnt, VL.wGt, VL.wGs, VL.wCB, VL.wCBN, VL.wCall, VL.wCallN, VL.wCallIo, VL.wCallIoN, VL.wCallK, VL.wIsi, VL.wIsi2, VL.wApp, VL.wExt, VL.wIns, VL.wSetIt, VL.wNoPart, VL.wPart, VL.wSl, VL.wSlN, VL.wChain, VL.wNeg, VL.wDnew, VL.wDput, VL.wDget, VL.wDin, VL.wDnin, VL.wIndex, VL.wRev, VL.wParNE, VL.wParEN, VL.wPar3, VL.wYes, VL.wSeqOf, VL.wRng1, VL.wRng2, VL.oI, VL.oI0, VL.oLt, VL.oLe, VL.oGt, VL.oGe, VL.oSub, VL.oMul, VL.oFdiv, VL.oMod, VL.oPow, VL.oShl', VL.oAbs, VL.oMax2, VL.oMin2, VL.oGcd, VL.atI_0, VL.atI_1, VL.atI_2, VL.ixN_20, VL.ixN_21, and_assoc, VL.shp_int, VL.shp_bool, VL.shp_none, VL.eqv_int, VL.eqv_bool, VL.isiD, VL.tyD, String.reduceBEq, Bool.not_true, Bool.not_false, Bool.and_true, Bool.and_false, Bool.true_and, Bool.false_and, Bool.or_true, Bool.or_false, Bool.true_or, Bool.false_or, decide_true, decide_false, Bool.not_eq_true', Bool.not_eq_eq_eq_not, decide_eq_true_eq, decide_eq_false_iff_not, VL.oInt1, VL.oInt2, VL.oLen, VL.oToInt, VL.oAdd, VL.oEq, VL.oNe, VL.oIsN, VL.oIn, VL.itemD, VL.isN, VL.der, VL.ders, VL.dats, VL.ioA, VL.endsV, VL.retE, VL.keepC, Option.map, List.range_succ, List.range_zero, List.map_cons, List.map_nil, List.map_append, List.nil_append, List.cons_append, List.append_nil, List.replicate_zero, List.replicate_succ, List.length_cons, List.length_nil, Nat.sub_self, List.getElem?_cons_zero, List.getElem?_cons_succ, List.set_cons_zero, List.set_cons_succ, Option.some.injEq, exists_eq_left', exists_eq_left, exists_eq_right, exists_and_left, exists_and_right, and_true, true_and, CV.d.injEq, CV.loc.injEq, Cell.lst.injEq, Cell.dat.injEq, Cell.dic.injEq, PyData.int.injEq, PyData.bool.injEq, PyData.list.injEq, PyData.tuple.injEq, PyData.str.injEq, reduceCtorEq, false_and, and_false, exists_false, false_or, or_false, if_true, if_false, reduceIte, Bool.false_eq_true, Nat.reduceAdd, Nat.reduceSub, Nat.succ_sub_succ, Nat.zero_add, VL.gP, List.filterMap_cons, List.filterMap_nil, List.cons.injEq, VL.wDisp0, VL.wDisp, VL.wPairs, VL.oLcm, VL.wPop, VL.wRevM, VL.wClearM, VL.wTupRg, VL.wListRg, VL.wR1, VL.wR2, VL.wRevN, VL.oRepT, VL.oRepL]
  refine ⟨⟨by omega, by omega⟩, fun i ρ => ∃ c, ρ = [.dat (mcD M), .dat (.int n), .dat (.list (rwsD (rowsN i))), c, .un, .un, .un], ⟨_, rfl⟩, ?_, ?_⟩
  · rintro i ρ d ⟨c, rfl⟩ hx
    obtain ⟨rfl, hi⟩ := rng_at hx
    have hl : ∀ r ∈ rowsN i, r.length ≤ 10 := fun r m => by
      have := (rows_lt i r m).1
      omega
    have hp : (rowsN i).length ≤ 128 := by
      rw [rows_len]
      exact Nat.le_trans (Nat.pow_le_pow_right (by decide) (show i ≤ 7 by omega)) (by decide)
    simp only [VL.wSeq, VL.wNext, VL.wNever, VL.wAsg, VL.wSet, VL.wVar, VL.wFrz, VL.wC, VL.wOp, VL.wTest, VL.wNotT, VL.wAndT, VL.wOrT, VL.wAnd, VL.wOr, VL.wNot, VL.wIf, VL.wNil, VL.wCons, VL.wTup, VL.wLst, VL.wStay, VL.wNew, VL.wPar, VL.wAug, VL.wDrop, VL.wRet, VL.wRetN, VL.wRet0, VL.wIfS, VL.wBrk, VL.wCnt, VL.wGt, VL.wGs, VL.wCB, VL.wCBN, VL.wCall, VL.wCallN, VL.wCallIo, VL.wCallIoN, VL.wCallK, VL.wIsi, VL.wIsi2, VL.wApp, VL.wExt, VL.wIns, VL.wSetIt, VL.wNoPart, VL.wPart, VL.wSl, VL.wSlN, VL.wChain, VL.wNeg, VL.wDnew, VL.wDput, VL.wDget, VL.wDin, VL.wDnin, VL.wIndex, VL.wRev, VL.wParNE, VL.wParEN, VL.wPar3, VL.wYes, VL.wSeqOf, VL.wRng1, VL.wRng2, VL.oI, VL.oI0, VL.oLt, VL.oLe, VL.oGt, VL.oGe, VL.oSub, VL.oMul, VL.oFdiv, VL.oMod, VL.oPow, VL.oShl', VL.oAbs, VL.oMax2, VL.oMin2, VL.oGcd, VL.atI_0, VL.atI_1, VL.atI_2, VL.ixN_20, VL.ixN_21, and_assoc, VL.shp_int, VL.shp_bool, VL.shp_none, VL.eqv_int, VL.eqv_bool, VL.isiD, VL.tyD, String.reduceBEq, Bool.not_true, Bool.not_false, Bool.and_true, Bool.and_false, Bool.true_and, Bool.false_and, Bool.or_true, Bool.or_false, Bool.true_or, Bool.false_or, decide_true, decide_false, Bool.not_eq_true', Bool.not_eq_eq_eq_not, decide_eq_true_eq, decide_eq_false_iff_not, VL.oInt1, VL.oInt2, VL.oLen, VL.oToInt, VL.oAdd, VL.oEq, VL.oNe, VL.oIsN, VL.oIn, VL.itemD, VL.isN, VL.der, VL.ders, VL.dats, VL.ioA, VL.endsV, VL.retE, VL.keepC, Option.map, List.range_succ, List.range_zero, List.map_cons, List.map_nil, List.map_append, List.nil_append, List.cons_append, List.append_nil, List.replicate_zero, List.replicate_succ, List.length_cons, List.length_nil, Nat.sub_self, List.getElem?_cons_zero, List.getElem?_cons_succ, List.set_cons_zero, List.set_cons_succ, Option.some.injEq, exists_eq_left', exists_eq_left, exists_eq_right, exists_and_left, exists_and_right, and_true, true_and, CV.d.injEq, CV.loc.injEq, Cell.lst.injEq, Cell.dat.injEq, Cell.dic.injEq, PyData.int.injEq, PyData.bool.injEq, PyData.list.injEq, PyData.tuple.injEq, PyData.str.injEq, reduceCtorEq, false_and, and_false, exists_false, false_or, or_false, if_true, if_false, reduceIte, Bool.false_eq_true, Nat.reduceAdd, Nat.reduceSub, Nat.succ_sub_succ, Nat.zero_add, VL.gP, List.filterMap_cons, List.filterMap_nil, List.cons.injEq, VL.wDisp0, VL.wDisp, VL.wPairs, VL.oLcm, VL.wPop, VL.wRevM, VL.wClearM, VL.wTupRg, VL.wListRg, VL.wR1, VL.wR2, VL.wRevN, VL.oRepT, VL.oRepL]
    rw [hB]
    unfold wAsg wOp wStay
    refine lc_more (x := 0) (by decide) rfl hl (by omega) ?_
    refine lc_more (x := 1) (by decide) rfl hl (by omega) ?_
    refine ⟨_, _, rfl, rfl, ?_⟩
    refine ⟨Nat.le_of_lt (small_size (by rw [rws_len, rws_len, List.length_map, List.length_map]; omega)), ?_⟩
    have e : rwsD ((rowsN i).map (· ++ [0])) ++ rwsD ((rowsN i).map (· ++ [1])) = rwsD (rowsN (i + 1)) := by
      rw [rowsN]
      unfold rwsD
      rw [List.map_append]
    rw [e]
    simp only [VL.wSeq, VL.wNext, VL.wNever, VL.wAsg, VL.wSet, VL.wVar, VL.wFrz, VL.wC, VL.wOp, VL.wTest, VL.wNotT, VL.wAndT, VL.wOrT, VL.wAnd, VL.wOr, VL.wNot, VL.wIf, VL.wNil, VL.wCons, VL.wTup, VL.wLst, VL.wStay, VL.wNew, VL.wPar, VL.wAug, VL.wDrop, VL.wRet, VL.wRetN, VL.wRet0, VL.wIfS, VL.wBrk, VL.wCnt, VL.wGt, VL.wGs, VL.wCB, VL.wCBN, VL.wCall, VL.wCallN, VL.wCallIo, VL.wCallIoN, VL.wCallK, VL.wIsi, VL.wIsi2, VL.wApp, VL.wExt, VL.wIns, VL.wSetIt, VL.wNoPart, VL.wPart, VL.wSl, VL.wSlN, VL.wChain, VL.wNeg, VL.wDnew, VL.wDput, VL.wDget, VL.wDin, VL.wDnin, VL.wIndex, VL.wRev, VL.wParNE, VL.wParEN, VL.wPar3, VL.wYes, VL.wSeqOf, VL.wRng1, VL.wRng2, VL.oI, VL.oI0, VL.oLt, VL.oLe, VL.oGt, VL.oGe, VL.oSub, VL.oMul, VL.oFdiv, VL.oMod, VL.oPow, VL.oShl', VL.oAbs, VL.oMax2, VL.oMin2, VL.oGcd, VL.atI_0, VL.atI_1, VL.atI_2, VL.ixN_20, VL.ixN_21, and_assoc, VL.shp_int, VL.shp_bool, VL.shp_none, VL.eqv_int, VL.eqv_bool, VL.isiD, VL.tyD, String.reduceBEq, Bool.not_true, Bool.not_false, Bool.and_true, Bool.and_false, Bool.true_and, Bool.false_and, Bool.or_true, Bool.or_false, Bool.true_or, Bool.false_or, decide_true, decide_false, Bool.not_eq_true', Bool.not_eq_eq_eq_not, decide_eq_true_eq, decide_eq_false_iff_not, VL.oInt1, VL.oInt2, VL.oLen, VL.oToInt, VL.oAdd, VL.oEq, VL.oNe, VL.oIsN, VL.oIn, VL.itemD, VL.isN, VL.der, VL.ders, VL.dats, VL.ioA, VL.endsV, VL.retE, VL.keepC, Option.map, List.range_succ, List.range_zero, List.map_cons, List.map_nil, List.map_append, List.nil_append, List.cons_append, List.append_nil, List.replicate_zero, List.replicate_succ, List.length_cons, List.length_nil, Nat.sub_self, List.getElem?_cons_zero, List.getElem?_cons_succ, List.set_cons_zero, List.set_cons_succ, Option.some.injEq, exists_eq_left', exists_eq_left, exists_eq_right, exists_and_left, exists_and_right, and_true, true_and, CV.d.injEq, CV.loc.injEq, Cell.lst.injEq, Cell.dat.injEq, Cell.dic.injEq, PyData.int.injEq, PyData.bool.injEq, PyData.list.injEq, PyData.tuple.injEq, PyData.str.injEq, reduceCtorEq, false_and, and_false, exists_false, false_or, or_false, if_true, if_false, reduceIte, Bool.false_eq_true, Nat.reduceAdd, Nat.reduceSub, Nat.succ_sub_succ, Nat.zero_add, VL.gP, List.filterMap_cons, List.filterMap_nil, List.cons.injEq, VL.wDisp0, VL.wDisp, VL.wPairs, VL.oLcm, VL.wPop, VL.wRevM, VL.wClearM, VL.wTupRg, VL.wListRg, VL.wR1, VL.wR2, VL.wRevN, VL.oRepT, VL.oRepL]
    exact ⟨_, rfl⟩
  · rintro ρ ⟨c, rfl⟩
    rw [rng_len, hk]
    clear hk k hB B
    have hp : (rowsN n).length ≤ 128 := by
      rw [rows_len]
      exact Nat.le_trans (Nat.pow_le_pow_right (by decide) (show n ≤ 7 by omega)) (by decide)
    refine seq_gen fun k hk => ?_
    simp only [VL.wSeq, VL.wNext, VL.wNever, VL.wAsg, VL.wSet, VL.wVar, VL.wFrz, VL.wC, VL.wOp, VL.wTest, VL.wNotT, VL.wAndT, VL.wOrT, VL.wAnd, VL.wOr, VL.wNot, VL.wIf, VL.wNil, VL.wCons, VL.wTup, VL.wLst, VL.wStay, VL.wNew, VL.wPar, VL.wAug, VL.wDrop, VL.wRet, VL.wRetN, VL.wRet0, VL.wIfS, VL.wBrk, VL.wCnt, VL.wGt, VL.wGs, VL.wCB, VL.wCBN, VL.wCall, VL.wCallN, VL.wCallIo, VL.wCallIoN, VL.wCallK, VL.wIsi, VL.wIsi2, VL.wApp, VL.wExt, VL.wIns, VL.wSetIt, VL.wNoPart, VL.wPart, VL.wSl, VL.wSlN, VL.wChain, VL.wNeg, VL.wDnew, VL.wDput, VL.wDget, VL.wDin, VL.wDnin, VL.wIndex, VL.wRev, VL.wParNE, VL.wParEN, VL.wPar3, VL.wYes, VL.wSeqOf, VL.wRng1, VL.wRng2, VL.oI, VL.oI0, VL.oLt, VL.oLe, VL.oGt, VL.oGe, VL.oSub, VL.oMul, VL.oFdiv, VL.oMod, VL.oPow, VL.oShl', VL.oAbs, VL.oMax2, VL.oMin2, VL.oGcd, VL.atI_0, VL.atI_1, VL.atI_2, VL.ixN_20, VL.ixN_21, and_assoc, VL.shp_int, VL.shp_bool, VL.shp_none, VL.eqv_int, VL.eqv_bool, VL.isiD, VL.tyD, String.reduceBEq, Bool.not_true, Bool.not_false, Bool.and_true, Bool.and_false, Bool.true_and, Bool.false_and, Bool.or_true, Bool.or_false, Bool.true_or, Bool.false_or, decide_true, decide_false, Bool.not_eq_true', Bool.not_eq_eq_eq_not, decide_eq_true_eq, decide_eq_false_iff_not, VL.oInt1, VL.oInt2, VL.oLen, VL.oToInt, VL.oAdd, VL.oEq, VL.oNe, VL.oIsN, VL.oIn, VL.itemD, VL.isN, VL.der, VL.ders, VL.dats, VL.ioA, VL.endsV, VL.retE, VL.keepC, Option.map, List.range_succ, List.range_zero, List.map_cons, List.map_nil, List.map_append, List.nil_append, List.cons_append, List.append_nil, List.replicate_zero, List.replicate_succ, List.length_cons, List.length_nil, Nat.sub_self, List.getElem?_cons_zero, List.getElem?_cons_succ, List.set_cons_zero, List.set_cons_succ, Option.some.injEq, exists_eq_left', exists_eq_left, exists_eq_right, exists_and_left, exists_and_right, and_true, true_and, CV.d.injEq, CV.loc.injEq, Cell.lst.injEq, Cell.dat.injEq, Cell.dic.injEq, PyData.int.injEq, PyData.bool.injEq, PyData.list.injEq, PyData.tuple.injEq, PyData.str.injEq, reduceCtorEq, false_and, and_false, exists_false, false_or, or_false, if_true, if_false, reduceIte, Bool.false_eq_true, Nat.reduceAdd, Nat.reduceSub, Nat.succ_sub_succ, Nat.zero_add, VL.gP, List.filterMap_cons, List.filterMap_nil, List.cons.injEq, VL.wDisp0, VL.wDisp, VL.wPairs, VL.oLcm, VL.wPop, VL.wRevM, VL.wClearM, VL.wTupRg, VL.wListRg, VL.wR1, VL.wR2, VL.wRevN, VL.oRepT, VL.oRepL]
    unfold wLc
    simp only [VL.wSeq, VL.wNext, VL.wNever, VL.wAsg, VL.wSet, VL.wVar, VL.wFrz, VL.wC, VL.wOp, VL.wTest, VL.wNotT, VL.wAndT, VL.wOrT, VL.wAnd, VL.wOr, VL.wNot, VL.wIf, VL.wNil, VL.wCons, VL.wTup, VL.wLst, VL.wStay, VL.wNew, VL.wPar, VL.wAug, VL.wDrop, VL.wRet, VL.wRetN, VL.wRet0, VL.wIfS, VL.wBrk, VL.wCnt, VL.wGt, VL.wGs, VL.wCB, VL.wCBN, VL.wCall, VL.wCallN, VL.wCallIo, VL.wCallIoN, VL.wCallK, VL.wIsi, VL.wIsi2, VL.wApp, VL.wExt, VL.wIns, VL.wSetIt, VL.wNoPart, VL.wPart, VL.wSl, VL.wSlN, VL.wChain, VL.wNeg, VL.wDnew, VL.wDput, VL.wDget, VL.wDin, VL.wDnin, VL.wIndex, VL.wRev, VL.wParNE, VL.wParEN, VL.wPar3, VL.wYes, VL.wSeqOf, VL.wRng1, VL.wRng2, VL.oI, VL.oI0, VL.oLt, VL.oLe, VL.oGt, VL.oGe, VL.oSub, VL.oMul, VL.oFdiv, VL.oMod, VL.oPow, VL.oShl', VL.oAbs, VL.oMax2, VL.oMin2, VL.oGcd, VL.atI_0, VL.atI_1, VL.atI_2, VL.ixN_20, VL.ixN_21, and_assoc, VL.shp_int, VL.shp_bool, VL.shp_none, VL.eqv_int, VL.eqv_bool, VL.isiD, VL.tyD, String.reduceBEq, Bool.not_true, Bool.not_false, Bool.and_true, Bool.and_false, Bool.true_and, Bool.false_and, Bool.or_true, Bool.or_false, Bool.true_or, Bool.false_or, decide_true, decide_false, Bool.not_eq_true', Bool.not_eq_eq_eq_not, decide_eq_true_eq, decide_eq_false_iff_not, VL.oInt1, VL.oInt2, VL.oLen, VL.oToInt, VL.oAdd, VL.oEq, VL.oNe, VL.oIsN, VL.oIn, VL.itemD, VL.isN, VL.der, VL.ders, VL.dats, VL.ioA, VL.endsV, VL.retE, VL.keepC, Option.map, List.range_succ, List.range_zero, List.map_cons, List.map_nil, List.map_append, List.nil_append, List.cons_append, List.append_nil, List.replicate_zero, List.replicate_succ, List.length_cons, List.length_nil, Nat.sub_self, List.getElem?_cons_zero, List.getElem?_cons_succ, List.set_cons_zero, List.set_cons_succ, Option.some.injEq, exists_eq_left', exists_eq_left, exists_eq_right, exists_and_left, exists_and_right, and_true, true_and, CV.d.injEq, CV.loc.injEq, Cell.lst.injEq, Cell.dat.injEq, Cell.dic.injEq, PyData.int.injEq, PyData.bool.injEq, PyData.list.injEq, PyData.tuple.injEq, PyData.str.injEq, reduceCtorEq, false_and, and_false, exists_false, false_or, or_false, if_true, if_false, reduceIte, Bool.false_eq_true, Nat.reduceAdd, Nat.reduceSub, Nat.succ_sub_succ, Nat.zero_add, VL.gP, List.filterMap_cons, List.filterMap_nil, List.cons.injEq, VL.wDisp0, VL.wDisp, VL.wPairs, VL.oLcm, VL.wPop, VL.wRevM, VL.wClearM, VL.wTupRg, VL.wListRg, VL.wR1, VL.wR2, VL.wRevN, VL.oRepT, VL.oRepL, wipeE]
    refine ⟨fun i acc ρ => acc = ((rowsN n).take i).map (fun r => comD (com M r)) ∧ ρ = [.dat (mcD M), .dat (.int n), .dat (.list (rwsD (rowsN n))), c, .un, .un, .un], ⟨rfl, rfl⟩, ?_, ?_⟩
    · rintro i acc ρ d ⟨rfl, rfl⟩ hd
      obtain ⟨r, rfl, hi, mr⟩ := rws_at hd
      simp only [VL.wSeq, VL.wNext, VL.wNever, VL.wAsg, VL.wSet, VL.wVar, VL.wFrz, VL.wC, VL.wOp, VL.wTest, VL.wNotT, VL.wAndT, VL.wOrT, VL.wAnd, VL.wOr, VL.wNot, VL.wIf, VL.wNil, VL.wCons, VL.wTup, VL.wLst, VL.wStay, VL.wNew, VL.wPar, VL.wAug, VL.wDrop, VL.wRet, VL.wRetN, VL.wRet0, VL.wIfS, VL.wBrk, VL.wCnt, VL.wGt, VL.wGs, VL.wCB, VL.wCBN, VL.wCall, VL.wCallN, VL.wCallIo, VL.wCallIoN, VL.wCallK, VL.wIsi, VL.wIsi2, VL.wApp, VL.wExt, VL.wIns, VL.wSetIt, VL.wNoPart, VL.wPart, VL.wSl, VL.wSlN, VL.wChain, VL.wNeg, VL.wDnew, VL.wDput, VL.wDget, VL.wDin, VL.wDnin, VL.wIndex, VL.wRev, VL.wParNE, VL.wParEN, VL.wPar3, VL.wYes, VL.wSeqOf, VL.wRng1, VL.wRng2, VL.oI, VL.oI0, VL.oLt, VL.oLe, VL.oGt, VL.oGe, VL.oSub, VL.oMul, VL.oFdiv, VL.oMod, VL.oPow, VL.oShl', VL.oAbs, VL.oMax2, VL.oMin2, VL.oGcd, VL.atI_0, VL.atI_1, VL.atI_2, VL.ixN_20, VL.ixN_21, and_assoc, VL.shp_int, VL.shp_bool, VL.shp_none, VL.eqv_int, VL.eqv_bool, VL.isiD, VL.tyD, String.reduceBEq, Bool.not_true, Bool.not_false, Bool.and_true, Bool.and_false, Bool.true_and, Bool.false_and, Bool.or_true, Bool.or_false, Bool.true_or, Bool.false_or, decide_true, decide_false, Bool.not_eq_true', Bool.not_eq_eq_eq_not, decide_eq_true_eq, decide_eq_false_iff_not, VL.oInt1, VL.oInt2, VL.oLen, VL.oToInt, VL.oAdd, VL.oEq, VL.oNe, VL.oIsN, VL.oIn, VL.itemD, VL.isN, VL.der, VL.ders, VL.dats, VL.ioA, VL.endsV, VL.retE, VL.keepC, Option.map, List.range_succ, List.range_zero, List.map_cons, List.map_nil, List.map_append, List.nil_append, List.cons_append, List.append_nil, List.replicate_zero, List.replicate_succ, List.length_cons, List.length_nil, Nat.sub_self, List.getElem?_cons_zero, List.getElem?_cons_succ, List.set_cons_zero, List.set_cons_succ, Option.some.injEq, exists_eq_left', exists_eq_left, exists_eq_right, exists_and_left, exists_and_right, and_true, true_and, CV.d.injEq, CV.loc.injEq, Cell.lst.injEq, Cell.dat.injEq, Cell.dic.injEq, PyData.int.injEq, PyData.bool.injEq, PyData.list.injEq, PyData.tuple.injEq, PyData.str.injEq, reduceCtorEq, false_and, and_false, exists_false, false_or, or_false, if_true, if_false, reduceIte, Bool.false_eq_true, Nat.reduceAdd, Nat.reduceSub, Nat.succ_sub_succ, Nat.zero_add, VL.gP, List.filterMap_cons, List.filterMap_nil, List.cons.injEq, VL.wDisp0, VL.wDisp, VL.wPairs, VL.oLcm, VL.wPop, VL.wRevM, VL.wClearM, VL.wTupRg, VL.wListRg, VL.wR1, VL.wR2, VL.wRevN, VL.oRepT, VL.oRepL, S__law_come]
      refine ⟨M, rfl, r, rfl, ok, (rows_lt n r mr).2, small_size (by rw [List.length_map, List.length_take]; omega), ?_⟩
      rw [take_at hi, List.map_append]
      rfl
    · rintro acc ρ ⟨rfl, rfl⟩
      rw [rws_len, List.take_length, hk]
      clear hk k
      have e : (rowsN n).map (fun r => comD (com M r)) = ((rowsN n).map (com M)).map comD := by
        rw [List.map_map]
        rfl
      rw [e]
      unfold mcD
      simp only [VL.wSeq, VL.wNext, VL.wNever, VL.wAsg, VL.wSet, VL.wVar, VL.wFrz, VL.wC, VL.wOp, VL.wTest, VL.wNotT, VL.wAndT, VL.wOrT, VL.wAnd, VL.wOr, VL.wNot, VL.wIf, VL.wNil, VL.wCons, VL.wTup, VL.wLst, VL.wStay, VL.wNew, VL.wPar, VL.wAug, VL.wDrop, VL.wRet, VL.wRetN, VL.wRet0, VL.wIfS, VL.wBrk, VL.wCnt, VL.wGt, VL.wGs, VL.wCB, VL.wCBN, VL.wCall, VL.wCallN, VL.wCallIo, VL.wCallIoN, VL.wCallK, VL.wIsi, VL.wIsi2, VL.wApp, VL.wExt, VL.wIns, VL.wSetIt, VL.wNoPart, VL.wPart, VL.wSl, VL.wSlN, VL.wChain, VL.wNeg, VL.wDnew, VL.wDput, VL.wDget, VL.wDin, VL.wDnin, VL.wIndex, VL.wRev, VL.wParNE, VL.wParEN, VL.wPar3, VL.wYes, VL.wSeqOf, VL.wRng1, VL.wRng2, VL.oI, VL.oI0, VL.oLt, VL.oLe, VL.oGt, VL.oGe, VL.oSub, VL.oMul, VL.oFdiv, VL.oMod, VL.oPow, VL.oShl', VL.oAbs, VL.oMax2, VL.oMin2, VL.oGcd, VL.atI_0, VL.atI_1, VL.atI_2, VL.ixN_20, VL.ixN_21, and_assoc, VL.shp_int, VL.shp_bool, VL.shp_none, VL.eqv_int, VL.eqv_bool, VL.isiD, VL.tyD, String.reduceBEq, Bool.not_true, Bool.not_false, Bool.and_true, Bool.and_false, Bool.true_and, Bool.false_and, Bool.or_true, Bool.or_false, Bool.true_or, Bool.false_or, decide_true, decide_false, Bool.not_eq_true', Bool.not_eq_eq_eq_not, decide_eq_true_eq, decide_eq_false_iff_not, VL.oInt1, VL.oInt2, VL.oLen, VL.oToInt, VL.oAdd, VL.oEq, VL.oNe, VL.oIsN, VL.oIn, VL.itemD, VL.isN, VL.der, VL.ders, VL.dats, VL.ioA, VL.endsV, VL.retE, VL.keepC, Option.map, List.range_succ, List.range_zero, List.map_cons, List.map_nil, List.map_append, List.nil_append, List.cons_append, List.append_nil, List.replicate_zero, List.replicate_succ, List.length_cons, List.length_nil, Nat.sub_self, List.getElem?_cons_zero, List.getElem?_cons_succ, List.set_cons_zero, List.set_cons_succ, Option.some.injEq, exists_eq_left', exists_eq_left, exists_eq_right, exists_and_left, exists_and_right, and_true, true_and, CV.d.injEq, CV.loc.injEq, Cell.lst.injEq, Cell.dat.injEq, Cell.dic.injEq, PyData.int.injEq, PyData.bool.injEq, PyData.list.injEq, PyData.tuple.injEq, PyData.str.injEq, reduceCtorEq, false_and, and_false, exists_false, false_or, or_false, if_true, if_false, reduceIte, Bool.false_eq_true, Nat.reduceAdd, Nat.reduceSub, Nat.succ_sub_succ, Nat.zero_add, VL.gP, List.filterMap_cons, List.filterMap_nil, List.cons.injEq, VL.wDisp0, VL.wDisp, VL.wPairs, VL.oLcm, VL.wPop, VL.wRevM, VL.wClearM, VL.wTupRg, VL.wListRg, VL.wR1, VL.wR2, VL.wRevN, VL.oRepT, VL.oRepL]
      unfold wLc
      simp only [VL.wSeq, VL.wNext, VL.wNever, VL.wAsg, VL.wSet, VL.wVar, VL.wFrz, VL.wC, VL.wOp, VL.wTest, VL.wNotT, VL.wAndT, VL.wOrT, VL.wAnd, VL.wOr, VL.wNot, VL.wIf, VL.wNil, VL.wCons, VL.wTup, VL.wLst, VL.wStay, VL.wNew, VL.wPar, VL.wAug, VL.wDrop, VL.wRet, VL.wRetN, VL.wRet0, VL.wIfS, VL.wBrk, VL.wCnt, VL.wGt, VL.wGs, VL.wCB, VL.wCBN, VL.wCall, VL.wCallN, VL.wCallIo, VL.wCallIoN, VL.wCallK, VL.wIsi, VL.wIsi2, VL.wApp, VL.wExt, VL.wIns, VL.wSetIt, VL.wNoPart, VL.wPart, VL.wSl, VL.wSlN, VL.wChain, VL.wNeg, VL.wDnew, VL.wDput, VL.wDget, VL.wDin, VL.wDnin, VL.wIndex, VL.wRev, VL.wParNE, VL.wParEN, VL.wPar3, VL.wYes, VL.wSeqOf, VL.wRng1, VL.wRng2, VL.oI, VL.oI0, VL.oLt, VL.oLe, VL.oGt, VL.oGe, VL.oSub, VL.oMul, VL.oFdiv, VL.oMod, VL.oPow, VL.oShl', VL.oAbs, VL.oMax2, VL.oMin2, VL.oGcd, VL.atI_0, VL.atI_1, VL.atI_2, VL.ixN_20, VL.ixN_21, and_assoc, VL.shp_int, VL.shp_bool, VL.shp_none, VL.eqv_int, VL.eqv_bool, VL.isiD, VL.tyD, String.reduceBEq, Bool.not_true, Bool.not_false, Bool.and_true, Bool.and_false, Bool.true_and, Bool.false_and, Bool.or_true, Bool.or_false, Bool.true_or, Bool.false_or, decide_true, decide_false, Bool.not_eq_true', Bool.not_eq_eq_eq_not, decide_eq_true_eq, decide_eq_false_iff_not, VL.oInt1, VL.oInt2, VL.oLen, VL.oToInt, VL.oAdd, VL.oEq, VL.oNe, VL.oIsN, VL.oIn, VL.itemD, VL.isN, VL.der, VL.ders, VL.dats, VL.ioA, VL.endsV, VL.retE, VL.keepC, Option.map, List.range_succ, List.range_zero, List.map_cons, List.map_nil, List.map_append, List.nil_append, List.cons_append, List.append_nil, List.replicate_zero, List.replicate_succ, List.length_cons, List.length_nil, Nat.sub_self, List.getElem?_cons_zero, List.getElem?_cons_succ, List.set_cons_zero, List.set_cons_succ, Option.some.injEq, exists_eq_left', exists_eq_left, exists_eq_right, exists_and_left, exists_and_right, and_true, true_and, CV.d.injEq, CV.loc.injEq, Cell.lst.injEq, Cell.dat.injEq, Cell.dic.injEq, PyData.int.injEq, PyData.bool.injEq, PyData.list.injEq, PyData.tuple.injEq, PyData.str.injEq, reduceCtorEq, false_and, and_false, exists_false, false_or, or_false, if_true, if_false, reduceIte, Bool.false_eq_true, Nat.reduceAdd, Nat.reduceSub, Nat.succ_sub_succ, Nat.zero_add, VL.gP, List.filterMap_cons, List.filterMap_nil, List.cons.injEq, VL.wDisp0, VL.wDisp, VL.wPairs, VL.oLcm, VL.wPop, VL.wRevM, VL.wClearM, VL.wTupRg, VL.wListRg, VL.wR1, VL.wR2, VL.wRevN, VL.oRepT, VL.oRepL, wipeE]
      have n6 := ok.n6
      refine ⟨⟨by omega, by omega⟩, fun i acc ρ => acc = (List.range i).map (fun i => PyData.int (getK (cnts M n) ⟨false, i⟩ : Nat)) ∧ ρ = [.dat (.tuple [.int M.n, M.b.d, rsD M.rs]), .dat (.int n), .dat (.list (rwsD (rowsN n))), c, .dat (.list (((rowsN n).map (com M)).map comD)), .un, .un], ⟨rfl, rfl⟩, ?_, ?_⟩
      · rintro i acc ρ d ⟨rfl, rfl⟩ hx
        obtain ⟨rfl, hi⟩ := rng_at hx
        refine count_is (i := i) rfl rfl ?_
        refine ⟨_, rfl, small_size (by rw [List.length_map, List.length_range]; omega), ?_, rfl⟩
        rw [List.range_succ, List.map_append, leaf_count' ok n ⟨false, i⟩]
        rfl
      · rintro acc ρ ⟨rfl, rfl⟩
        rw [rng_len]
        exact h
end K13
end
section
set_option autoImplicit false
set_option maxRecDepth 100000
set_option maxHeartbeats 4000000
namespace K13
open PySem PySem.Spec PyProof.Rows L2 VL
theorem w_ok (p : Pl) : PyData.strOk p.w = true := by
  unfold Pl.w
  cases p.to <;> decide +kernel
theorem two_mem {α : Type} {P : α → Prop} {a b : α} (h1 : P a) (h2 : P b) : ∀ d ∈ [a, b], P d := by
  intro d hd
  rcases List.mem_cons.mp hd with rfl | hd
  · exact h1
  · rw [List.mem_singleton] at hd
    rw [hd]
    exact h2
theorem ok_pl (p : Pl) (j : Nat) : Ok (j + 2) p.d := .tup _ _ (by simp) (two_mem (.str _ _ (w_ok p)) (.int _ _))
theorem ok_rw (r : Pl × Pl) (j : Nat) : Ok (j + 3) (rwD r) := .tup _ _ (by simp) (two_mem (ok_pl _ _) (ok_pl _ _))
theorem ok_rs (rs : List (Pl × Pl)) (j : Nat) (h : rs.length ≤ 12) : Ok (j + 4) (rsD rs) := by
  refine .tup _ _ (by rw [List.length_map]; omega) fun d hd => ?_
  obtain ⟨r, _, rfl⟩ := List.mem_map.mp hd
  exact ok_rw r j
theorem ok_mc {M : Mc} (ok : M.Ok) (j : Nat) : Ok (j + 5) (mcD M) := by
  refine .tup _ _ (by simp) fun d hd => ?_
  rcases List.mem_cons.mp hd with rfl | hd
  · exact .int _ _
  exact two_mem (P := Ok (j + 4)) (ok_pl _ _) (ok_rs _ _ ok.m) d hd
theorem ok_ns (a : List Nat) (j : Nat) (h : a.length ≤ 300) : Ok (j + 2) (.tuple (nsD a)) := by
  refine .tup _ _ (by rw [nsD_len]; exact h) fun d hd => ?_
  obtain ⟨r, _, rfl⟩ := List.mem_map.mp hd
  exact .int _ _
theorem ok_wlk (M : Mc) {ts : List Nat} (T : Ts ts) (j : Nat) : Ok (j + 3) (wlkD (wlk M ts)) := by
  have l := wlk_len M ts
  have := T.len
  exact .tup _ _ (by simp) (two_mem (ok_ns _ _ (by omega)) (ok_pl _ _))
theorem ok_told {M : Mc} (ok : M.Ok) {ts : List Nat} (T : Ts ts) (j : Nat) : Ok (j + 6) (toldD M ts) := by
  unfold toldD
  split
  · exact .tup _ _ (by simp) (two_mem (.str _ _ (by decide +kernel)) (ok_mc ok _))
  · exact .tup _ _ (by simp) (two_mem (.str _ _ (by decide +kernel)) (ok_wlk M T _))
theorem ok_leaf {M : Mc} (ok : M.Ok) (k j : Nat) : Ok (j + 2) (leafD M k) := by
  have := ok.n6
  refine .tup _ _ (by rw [List.length_map, List.length_range]; omega) fun d hd => ?_
  obtain ⟨r, _, rfl⟩ := List.mem_map.mp hd
  exact .int _ _
theorem ok_two {j : Nat} {d : D} (h : Ok j d) : Ok (j + 1) (.list [d, d]) := .lst _ _ (by simp) (two_mem h h)
theorem ns_lay : ∀ ts : List Nat, PyData.canLayAll0 (nsD ts) = true ∧ PyData.depthAll (nsD ts) ≤ 1 ∧ PyData.eqvAll (nsD ts) (nsD ts) = true
  | [] => by simp [nsD, PyData.canLayAll0, PyData.depthAll, PyData.eqvAll]
  | t :: ts => by
    obtain ⟨a, b, c⟩ := ns_lay ts
    refine ⟨?_, ?_, ?_⟩
    · show PyData.canLayAll0 (.int t :: nsD ts) = true
      simp only [PyData.canLayAll0, a, PyData.canLay0, Bool.and_self]
    · show PyData.depthAll (.int t :: nsD ts) ≤ 1
      simp only [PyData.depthAll, PyData.depth]
      omega
    · show PyData.eqvAll (.int t :: nsD ts) (.int t :: nsD ts) = true
      simp [PyData.eqvAll, PyData.eqv, c]
theorem ns_shp (ts : List Nat) : shp (.list (nsD ts)) = true := by
  obtain ⟨a, b, _⟩ := ns_lay ts
  unfold shp SeqAt.shaped
  rw [Bool.and_eq_true]
  refine ⟨by simp only [PyData.canLay0, a], decide_eq_true ?_⟩
  simp only [PyData.depth]
  omega
theorem ns_eqv (ts : List Nat) : PyData.eqv (.list (nsD ts)) (.list (nsD ts)) = true := by
  simp only [PyData.eqv, (ns_lay ts).2.2]
theorem pot_start {ns : List Int} (h : ns.length ≤ 63) : Pot ([0, 7, 3] ++ ns) := pot_of (a := 0) (b := 7) (c := 3) (r := ns) (by decide) (by decide) (by decide) (by decide) h
theorem machine_io {ρ : En} {i : Nat} {io : Bool} {pot : List Int} {P : CV → En → Prop} (h0 : ρ[i]? = some (.lst io (pot.map .int))) (p : Pot pot)
    (h : ∀ (M : Mc) (pot' : List Int), Pot pot' → M.Ok → P (.d (mcD M)) (ρ.set i (.lst io (pot'.map .int)))) : wCallIo 3 S__law_machine (wCons (wVar i) (wCons (wC (.int 6)) (wCons (wC (.int 12)) wNil))) ρ P := by
  unfold wCallIo
  show wVar i ρ _
  refine var_loc h0 ?_
  exact ⟨i, [.int 6, .int 12], io, _, rfl, rfl, h0, pot, rfl, p, fun M pot' p' ok => ⟨_, rfl, h M pot' p' ok⟩⟩
theorem same_io {ρ : En} {t u : WE} {d : D} {P : CV → En → Prop} (ht : ∀ P : CV → En → Prop, P (.d d) ρ → t ρ P) (hu : ∀ P : CV → En → Prop, P (.d d) ρ → u ρ P) (ok : Ok 8 d) (h : P (.d (.bool true)) ρ) : wCall 2 (S__law_same 8) (wCons t (wCons u wNil)) ρ P := by
  unfold wCall
  show t ρ _
  refine ht _ ?_
  show u ρ _
  refine hu _ ?_
  exact ⟨[d, d], rfl, rfl, d, rfl, ok, h⟩
theorem tosses_io {s c2 c3 c4 c5 c6 c7 c8 c9 c10 : Cell} {pot : List Int} {t : WE} {P : List D → En → Prop}
    (ht : ∀ P : CV → En → Prop, (∀ (m : Nat) (pot' : List Int), m ≤ 40 → Pot pot' → P (.d (.int m)) [s, .lst false (pot'.map .int), c2, c3, c4, c5, c6, c7, c8, c9, c10, .un]) → t [s, .lst false (pot.map .int), c2, c3, c4, c5, c6, c7, c8, c9, c10, .un] P)
    (h : ∀ (ts : List Nat) (pot' : List Int), Ts ts → Pot pot' → P (nsD ts) [s, .lst false (pot'.map .int), c2, c3, c4, .un, c6, c7, c8, c9, c10, .un]) :
    wLc (wRng1 (wCons t wNil)) (wSet 5) wYes (wCallIo 2 S__law_take (wCons (wVar 1) (wCons (wC (.int 2)) wNil))) [5] [s, .lst false (pot.map .int), c2, c3, c4, c5, c6, c7, c8, c9, c10, .un] P := by
  refine lc_body fun E hE => ?_
  unfold wLc wRng1
  refine ht _ fun m pot m40 p => ?_
  simp only [VL.wSeq, VL.wNext, VL.wNever, VL.wAsg, VL.wSet, VL.wVar, VL.wFrz, VL.wC, VL.wOp, VL.wTest, VL.wNotT, VL.wAndT, VL.wOrT, VL.wAnd, VL.wOr, VL.wNot, VL.wIf, VL.wNil, VL.wCons, VL.wTup, VL.wLst, VL.wStay, VL.wNew, VL.wPar, VL.wAug, VL.wDrop, VL.wRet, VL.wRetN, VL.wRet0, VL.wIfS, VL.wBrk, VL.wCnt, VL.wGt, VL.wGs, VL.wCB, VL.wCBN, VL.wCall, VL.wCallN, VL.wCallIo, VL.wCallIoN, VL.wCallK, VL.wIsi, VL.wIsi2, VL.wApp, VL.wExt, VL.wIns, VL.wSetIt, VL.wNoPart, VL.wPart, VL.wSl, VL.wSlN, VL.wChain, VL.wNeg, VL.wDnew, VL.wDput, VL.wDget, VL.wDin, VL.wDnin, VL.wIndex, VL.wRev, VL.wParNE, VL.wParEN, VL.wPar3, VL.wYes, VL.wSeqOf, VL.wRng1, VL.wRng2, VL.oI, VL.oI0, VL.oLt, VL.oLe, VL.oGt, VL.oGe, VL.oSub, VL.oMul, VL.oFdiv, VL.oMod, VL.oPow, VL.oShl', VL.oAbs, VL.oMax2, VL.oMin2, VL.oGcd, VL.atI_0, VL.atI_1, VL.atI_2, VL.ixN_20, VL.ixN_21, and_assoc, VL.shp_int, VL.shp_bool, VL.shp_none, VL.eqv_int, VL.eqv_bool, VL.isiD, VL.tyD, String.reduceBEq, Bool.not_true, Bool.not_false, Bool.and_true, Bool.and_false, Bool.true_and, Bool.false_and, Bool.or_true, Bool.or_false, Bool.true_or, Bool.false_or, decide_true, decide_false, Bool.not_eq_true', Bool.not_eq_eq_eq_not, decide_eq_true_eq, decide_eq_false_iff_not, VL.oInt1, VL.oInt2, VL.oLen, VL.oToInt, VL.oAdd, VL.oEq, VL.oNe, VL.oIsN, VL.oIn, VL.itemD, VL.isN, VL.der, VL.ders, VL.dats, VL.ioA, VL.endsV, VL.retE, VL.keepC, Option.map, List.range_succ, List.range_zero, List.map_cons, List.map_nil, List.map_append, List.nil_append, List.cons_append, List.append_nil, List.replicate_zero, List.replicate_succ, List.length_cons, List.length_nil, Nat.sub_self, List.getElem?_cons_zero, List.getElem?_cons_succ, List.set_cons_zero, List.set_cons_succ, Option.some.injEq, exists_eq_left', exists_eq_left, exists_eq_right, exists_and_left, exists_and_right, and_true, true_and, CV.d.injEq, CV.loc.injEq, Cell.lst.injEq, Cell.dat.injEq, Cell.dic.injEq, PyData.int.injEq, PyData.bool.injEq, PyData.list.injEq, PyData.tuple.injEq, PyData.str.injEq, reduceCtorEq, false_and, and_false, exists_false, false_or, or_false, if_true, if_false, reduceIte, Bool.false_eq_true, Nat.reduceAdd, Nat.reduceSub, Nat.succ_sub_succ, Nat.zero_add, VL.gP, List.filterMap_cons, List.filterMap_nil, List.cons.injEq, VL.wDisp0, VL.wDisp, VL.wPairs, VL.oLcm, VL.wPop, VL.wRevM, VL.wClearM, VL.wTupRg, VL.wListRg, VL.wR1, VL.wR2, VL.wRevN, VL.oRepT, VL.oRepL, wipeE]
  refine ⟨⟨by omega, by omega⟩, fun i acc ρ => ∃ (ts : List Nat) (pot : List Int), acc = nsD ts ∧ ts.length = i ∧ (∀ t ∈ ts, t < 2) ∧ Pot pot ∧ ρ = [s, .lst false (pot.map .int), c2, c3, c4, .un, c6, c7, c8, c9, c10, .un], ⟨[], pot, rfl, rfl, (fun r m => by cases m), p, rfl⟩, ?_, ?_⟩
  · rintro i acc ρ d ⟨ts, pot, rfl, lt, tb, p, rfl⟩ hx
    obtain ⟨rfl, hi⟩ := rng_at hx
    simp only [VL.wSeq, VL.wNext, VL.wNever, VL.wAsg, VL.wSet, VL.wVar, VL.wFrz, VL.wC, VL.wOp, VL.wTest, VL.wNotT, VL.wAndT, VL.wOrT, VL.wAnd, VL.wOr, VL.wNot, VL.wIf, VL.wNil, VL.wCons, VL.wTup, VL.wLst, VL.wStay, VL.wNew, VL.wPar, VL.wAug, VL.wDrop, VL.wRet, VL.wRetN, VL.wRet0, VL.wIfS, VL.wBrk, VL.wCnt, VL.wGt, VL.wGs, VL.wCB, VL.wCBN, VL.wCall, VL.wCallN, VL.wCallIo, VL.wCallIoN, VL.wCallK, VL.wIsi, VL.wIsi2, VL.wApp, VL.wExt, VL.wIns, VL.wSetIt, VL.wNoPart, VL.wPart, VL.wSl, VL.wSlN, VL.wChain, VL.wNeg, VL.wDnew, VL.wDput, VL.wDget, VL.wDin, VL.wDnin, VL.wIndex, VL.wRev, VL.wParNE, VL.wParEN, VL.wPar3, VL.wYes, VL.wSeqOf, VL.wRng1, VL.wRng2, VL.oI, VL.oI0, VL.oLt, VL.oLe, VL.oGt, VL.oGe, VL.oSub, VL.oMul, VL.oFdiv, VL.oMod, VL.oPow, VL.oShl', VL.oAbs, VL.oMax2, VL.oMin2, VL.oGcd, VL.atI_0, VL.atI_1, VL.atI_2, VL.ixN_20, VL.ixN_21, and_assoc, VL.shp_int, VL.shp_bool, VL.shp_none, VL.eqv_int, VL.eqv_bool, VL.isiD, VL.tyD, String.reduceBEq, Bool.not_true, Bool.not_false, Bool.and_true, Bool.and_false, Bool.true_and, Bool.false_and, Bool.or_true, Bool.or_false, Bool.true_or, Bool.false_or, decide_true, decide_false, Bool.not_eq_true', Bool.not_eq_eq_eq_not, decide_eq_true_eq, decide_eq_false_iff_not, VL.oInt1, VL.oInt2, VL.oLen, VL.oToInt, VL.oAdd, VL.oEq, VL.oNe, VL.oIsN, VL.oIn, VL.itemD, VL.isN, VL.der, VL.ders, VL.dats, VL.ioA, VL.endsV, VL.retE, VL.keepC, Option.map, List.range_succ, List.range_zero, List.map_cons, List.map_nil, List.map_append, List.nil_append, List.cons_append, List.append_nil, List.replicate_zero, List.replicate_succ, List.length_cons, List.length_nil, Nat.sub_self, List.getElem?_cons_zero, List.getElem?_cons_succ, List.set_cons_zero, List.set_cons_succ, Option.some.injEq, exists_eq_left', exists_eq_left, exists_eq_right, exists_and_left, exists_and_right, and_true, true_and, CV.d.injEq, CV.loc.injEq, Cell.lst.injEq, Cell.dat.injEq, Cell.dic.injEq, PyData.int.injEq, PyData.bool.injEq, PyData.list.injEq, PyData.tuple.injEq, PyData.str.injEq, reduceCtorEq, false_and, and_false, exists_false, false_or, or_false, if_true, if_false, reduceIte, Bool.false_eq_true, Nat.reduceAdd, Nat.reduceSub, Nat.succ_sub_succ, Nat.zero_add, VL.gP, List.filterMap_cons, List.filterMap_nil, List.cons.injEq, VL.wDisp0, VL.wDisp, VL.wPairs, VL.oLcm, VL.wPop, VL.wRevM, VL.wClearM, VL.wTupRg, VL.wListRg, VL.wR1, VL.wR2, VL.wRevN, VL.oRepT, VL.oRepL]
    rw [hE]
    refine take_io (pot := pot) (m := 2) rfl (fun P h => h) p (by decide) (by decide) fun r pot p hr => ?_
    dsimp only [List.set]
    refine ⟨_, rfl, small_size (by rw [nsD_len]; omega), ts ++ [r], (nsD_snoc _ _).symm, (by rw [List.length_append, lt]; rfl), fun t m => ?_, pot, p, rfl⟩
    rcases List.mem_append.mp m with m | m
    · exact tb t m
    · rw [List.mem_singleton] at m
      omega
  · rintro acc ρ ⟨ts, pot, rfl, lt, tb, p, rfl⟩
    rw [rng_len] at lt
    exact h ts pot ⟨by omega, tb⟩ p
theorem h_law (ρ : En) (Q : RV → En → Prop) (h : S_law ρ Q) : t_law (endsV 1 Q) (ρ ++ List.replicate (12 - 1) .un) := by
  obtain ⟨ns, rfl, hn, h⟩ := h
  unfold t_law intL
  refine seq_gen fun k hk => ?_
  simp only [VL.wSeq, VL.wNext, VL.wNever, VL.wAsg, VL.wSet, VL.wVar, VL.wFrz, VL.wC, VL.wOp, VL.wTest, VL.wNotT, VL.wAndT, VL.wOrT, VL.wAnd, VL.wOr, VL.wNot, VL.wIf, VL.wNil, VL.wCons, VL.wTup, VL.wLst, VL.wStay, VL.wNew, VL.wPar, VL.wAug, VL.wDrop, VL.wRet, VL.wRetN, VL.wRet0, VL.wIfS, VL.wBrk, VL.wCnt, VL.wGt, VL.wGs, VL.wCB, VL.wCBN, VL.wCall, VL.wCallN, VL.wCallIo, VL.wCallIoN, VL.wCallK, VL.wIsi, VL.wIsi2, VL.wApp, VL.wExt, VL.wIns, VL.wSetIt, VL.wNoPart, VL.wPart, VL.wSl, VL.wSlN, VL.wChain, VL.wNeg, VL.wDnew, VL.wDput, VL.wDget, VL.wDin, VL.wDnin, VL.wIndex, VL.wRev, VL.wParNE, VL.wParEN, VL.wPar3, VL.wYes, VL.wSeqOf, VL.wRng1, VL.wRng2, VL.oI, VL.oI0, VL.oLt, VL.oLe, VL.oGt, VL.oGe, VL.oSub, VL.oMul, VL.oFdiv, VL.oMod, VL.oPow, VL.oShl', VL.oAbs, VL.oMax2, VL.oMin2, VL.oGcd, VL.atI_0, VL.atI_1, VL.atI_2, VL.ixN_20, VL.ixN_21, and_assoc, VL.shp_int, VL.shp_bool, VL.shp_none, VL.eqv_int, VL.eqv_bool, VL.isiD, VL.tyD, String.reduceBEq, Bool.not_true, Bool.not_false, Bool.and_true, Bool.and_false, Bool.true_and, Bool.false_and, Bool.or_true, Bool.or_false, Bool.true_or, Bool.false_or, decide_true, decide_false, Bool.not_eq_true', Bool.not_eq_eq_eq_not, decide_eq_true_eq, decide_eq_false_iff_not, VL.oInt1, VL.oInt2, VL.oLen, VL.oToInt, VL.oAdd, VL.oEq, VL.oNe, VL.oIsN, VL.oIn, VL.itemD, VL.isN, VL.der, VL.ders, VL.dats, VL.ioA, VL.endsV, VL.retE, VL.keepC, Option.map, List.range_succ, List.range_zero, List.map_cons, List.map_nil, List.map_append, List.nil_append, List.cons_append, List.append_nil, List.replicate_zero, List.replicate_succ, List.length_cons, List.length_nil, Nat.sub_self, List.getElem?_cons_zero, List.getElem?_cons_succ, List.set_cons_zero, List.set_cons_succ, Option.some.injEq, exists_eq_left', exists_eq_left, exists_eq_right, exists_and_left, exists_and_right, and_true, true_and, CV.d.injEq, CV.loc.injEq, Cell.lst.injEq, Cell.dat.injEq, Cell.dic.injEq, PyData.int.injEq, PyData.bool.injEq, PyData.list.injEq, PyData.tuple.injEq, PyData.str.injEq, reduceCtorEq, false_and, and_false, exists_false, false_or, or_false, if_true, if_false, reduceIte, Bool.false_eq_true, Nat.reduceAdd, Nat.reduceSub, Nat.succ_sub_succ, Nat.zero_add, VL.gP, List.filterMap_cons, List.filterMap_nil, List.cons.injEq, VL.wDisp0, VL.wDisp, VL.wPairs, VL.oLcm, VL.wPop, VL.wRevM, VL.wClearM, VL.wTupRg, VL.wListRg, VL.wR1, VL.wR2, VL.wRevN, VL.oRepT, VL.oRepL, wOpN, oCatN, oSeqN]
  have e0 : PyData.int 0 :: PyData.int 7 :: PyData.int 3 :: ns.map PyData.int = ([0, 7, 3] ++ ns).map PyData.int := rfl
  refine ⟨by decide, Nat.le_of_lt (small_size (by rw [List.length_map]; omega)), by decide, ?_⟩
  rw [e0, hk]
  clear hk k
  refine seq_gen fun k hk => ?_
  refine for_body fun B hB => ?_
  unfold wFor
  simp only [VL.wSeq, VL.wNext, VL.wNever, VL.wAsg, VL.wSet, VL.wVar, VL.wFrz, VL.wC, VL.wOp, VL.wTest, VL.wNotT, VL.wAndT, VL.wOrT, VL.wAnd, VL.wOr, VL.wNot, VL.wIf, VL.wNil, VL.wCons, VL.wTup, VL.wLst, VL.wStay, VL.wNew, VL.wPar, VL.wAug, VL.wDrop, VL.wRet, VL.wRetN, VL.wRet0, VL.wIfS, VL.wBrk, VL.wCnt, VL.wGt, VL.wGs, VL.wCB, VL.wCBN, VL.wCall, VL.wCallN, VL.wCallIo, VL.wCallIoN, VL.wCallK, VL.wIsi, VL.wIsi2, VL.wApp, VL.wExt, VL.wIns, VL.wSetIt, VL.wNoPart, VL.wPart, VL.wSl, VL.wSlN, VL.wChain, VL.wNeg, VL.wDnew, VL.wDput, VL.wDget, VL.wDin, VL.wDnin, VL.wIndex, VL.wRev, VL.wParNE, VL.wParEN, VL.wPar3, VL.wYes, VL.wSeqOf, VL.wRng1, VL.wRng2, VL.oI, VL.oI0, VL.oLt, VL.oLe, VL.oGt, VL.oGe, VL.oSub, VL.oMul, VL.oFdiv, VL.oMod, VL.oPow, VL.oShl', VL.oAbs, VL.oMax2, VL.oMin2, VL.oGcd, VL.atI_0, VL.atI_1, VL.atI_2, VL.ixN_20, VL.ixN_21, and_assoc, VL.shp_int, VL.shp_bool, VL.shp_none, VL.eqv_int, VL.eqv_bool, VL.isiD, VL.tyD, String.reduceBEq, Bool.not_true, Bool.not_false, Bool.and_true, Bool.and_false, Bool.true_and, Bool.false_and, Bool.or_true, Bool.or_false, Bool.true_or, Bool.false_or, decide_true, decide_false, Bool.not_eq_true', Bool.not_eq_eq_eq_not, decide_eq_true_eq, decide_eq_false_iff_not, VL.oInt1, VL.oInt2, VL.oLen, VL.oToInt, VL.oAdd, VL.oEq, VL.oNe, VL.oIsN, VL.oIn, VL.itemD, VL.isN, VL.der, VL.ders, VL.dats, VL.ioA, VL.endsV, VL.retE, VL.keepC, Option.map, List.range_succ, List.range_zero, List.map_cons, List.map_nil, List.map_append, List.nil_append, List.cons_append, List.append_nil, List.replicate_zero, List.replicate_succ, List.length_cons, List.length_nil, Nat.sub_self, List.getElem?_cons_zero, List.getElem?_cons_succ, List.set_cons_zero, List.set_cons_succ, Option.some.injEq, exists_eq_left', exists_eq_left, exists_eq_right, exists_and_left, exists_and_right, and_true, true_and, CV.d.injEq, CV.loc.injEq, Cell.lst.injEq, Cell.dat.injEq, Cell.dic.injEq, PyData.int.injEq, PyData.bool.injEq, PyData.list.injEq, PyData.tuple.injEq, PyData.str.injEq, reduceCtorEq, false_and, and_false, exists_false, false_or, or_false, if_true, if_false, reduceIte, Bool.false_eq_true, Nat.reduceAdd, Nat.reduceSub, Nat.succ_sub_succ, Nat.zero_add, VL.gP, List.filterMap_cons, List.filterMap_nil, List.cons.injEq, VL.wDisp0, VL.wDisp, VL.wPairs, VL.oLcm, VL.wPop, VL.wRevM, VL.wClearM, VL.wTupRg, VL.wListRg, VL.wR1, VL.wR2, VL.wRevN, VL.oRepT, VL.oRepL]
  refine ⟨⟨by decide, by decide⟩, fun i ρ => ∃ (pot : List Int) (c2 c3 c4 c5 c6 c7 c8 c9 c10 : Cell), Pot pot ∧ ρ = [.dat (.list (ns.map .int)), .lst false (pot.map .int), c2, c3, c4, c5, c6, c7, c8, c9, c10, .un], ⟨[0, 7, 3] ++ ns, _, _, _, _, _, _, _, _, _, pot_start hn, rfl⟩, ?_, ?_⟩
  · rintro turn ρ d ⟨pot, c2, c3, c4, c5, c6, c7, c8, c9, c10, P, rfl⟩ hx
    obtain ⟨rfl, hi⟩ := rng_at (n := 6) hx
    simp only [VL.wSeq, VL.wNext, VL.wNever, VL.wAsg, VL.wSet, VL.wVar, VL.wFrz, VL.wC, VL.wOp, VL.wTest, VL.wNotT, VL.wAndT, VL.wOrT, VL.wAnd, VL.wOr, VL.wNot, VL.wIf, VL.wNil, VL.wCons, VL.wTup, VL.wLst, VL.wStay, VL.wNew, VL.wPar, VL.wAug, VL.wDrop, VL.wRet, VL.wRetN, VL.wRet0, VL.wIfS, VL.wBrk, VL.wCnt, VL.wGt, VL.wGs, VL.wCB, VL.wCBN, VL.wCall, VL.wCallN, VL.wCallIo, VL.wCallIoN, VL.wCallK, VL.wIsi, VL.wIsi2, VL.wApp, VL.wExt, VL.wIns, VL.wSetIt, VL.wNoPart, VL.wPart, VL.wSl, VL.wSlN, VL.wChain, VL.wNeg, VL.wDnew, VL.wDput, VL.wDget, VL.wDin, VL.wDnin, VL.wIndex, VL.wRev, VL.wParNE, VL.wParEN, VL.wPar3, VL.wYes, VL.wSeqOf, VL.wRng1, VL.wRng2, VL.oI, VL.oI0, VL.oLt, VL.oLe, VL.oGt, VL.oGe, VL.oSub, VL.oMul, VL.oFdiv, VL.oMod, VL.oPow, VL.oShl', VL.oAbs, VL.oMax2, VL.oMin2, VL.oGcd, VL.atI_0, VL.atI_1, VL.atI_2, VL.ixN_20, VL.ixN_21, and_assoc, VL.shp_int, VL.shp_bool, VL.shp_none, VL.eqv_int, VL.eqv_bool, VL.isiD, VL.tyD, String.reduceBEq, Bool.not_true, Bool.not_false, Bool.and_true, Bool.and_false, Bool.true_and, Bool.false_and, Bool.or_true, Bool.or_false, Bool.true_or, Bool.false_or, decide_true, decide_false, Bool.not_eq_true', Bool.not_eq_eq_eq_not, decide_eq_true_eq, decide_eq_false_iff_not, VL.oInt1, VL.oInt2, VL.oLen, VL.oToInt, VL.oAdd, VL.oEq, VL.oNe, VL.oIsN, VL.oIn, VL.itemD, VL.isN, VL.der, VL.ders, VL.dats, VL.ioA, VL.endsV, VL.retE, VL.keepC, Option.map, List.range_succ, List.range_zero, List.map_cons, List.map_nil, List.map_append, List.nil_append, List.cons_append, List.append_nil, List.replicate_zero, List.replicate_succ, List.length_cons, List.length_nil, Nat.sub_self, List.getElem?_cons_zero, List.getElem?_cons_succ, List.set_cons_zero, List.set_cons_succ, Option.some.injEq, exists_eq_left', exists_eq_left, exists_eq_right, exists_and_left, exists_and_right, and_true, true_and, CV.d.injEq, CV.loc.injEq, Cell.lst.injEq, Cell.dat.injEq, Cell.dic.injEq, PyData.int.injEq, PyData.bool.injEq, PyData.list.injEq, PyData.tuple.injEq, PyData.str.injEq, reduceCtorEq, false_and, and_false, exists_false, false_or, or_false, if_true, if_false, reduceIte, Bool.false_eq_true, Nat.reduceAdd, Nat.reduceSub, Nat.succ_sub_succ, Nat.zero_add, VL.gP, List.filterMap_cons, List.filterMap_nil, List.cons.injEq, VL.wDisp0, VL.wDisp, VL.wPairs, VL.oLcm, VL.wPop, VL.wRevM, VL.wClearM, VL.wTupRg, VL.wListRg, VL.wR1, VL.wR2, VL.wRevN, VL.oRepT, VL.oRepL]
    rw [hB]
    clear hB B
    refine seq_gen fun k1 hk1 => ?_
    unfold wAsg
    refine machine_io (pot := pot) rfl P fun M pot P ok => ?_
    dsimp only [List.set]
    simp only [VL.wSeq, VL.wNext, VL.wNever, VL.wAsg, VL.wSet, VL.wVar, VL.wFrz, VL.wC, VL.wOp, VL.wTest, VL.wNotT, VL.wAndT, VL.wOrT, VL.wAnd, VL.wOr, VL.wNot, VL.wIf, VL.wNil, VL.wCons, VL.wTup, VL.wLst, VL.wStay, VL.wNew, VL.wPar, VL.wAug, VL.wDrop, VL.wRet, VL.wRetN, VL.wRet0, VL.wIfS, VL.wBrk, VL.wCnt, VL.wGt, VL.wGs, VL.wCB, VL.wCBN, VL.wCall, VL.wCallN, VL.wCallIo, VL.wCallIoN, VL.wCallK, VL.wIsi, VL.wIsi2, VL.wApp, VL.wExt, VL.wIns, VL.wSetIt, VL.wNoPart, VL.wPart, VL.wSl, VL.wSlN, VL.wChain, VL.wNeg, VL.wDnew, VL.wDput, VL.wDget, VL.wDin, VL.wDnin, VL.wIndex, VL.wRev, VL.wParNE, VL.wParEN, VL.wPar3, VL.wYes, VL.wSeqOf, VL.wRng1, VL.wRng2, VL.oI, VL.oI0, VL.oLt, VL.oLe, VL.oGt, VL.oGe, VL.oSub, VL.oMul, VL.oFdiv, VL.oMod, VL.oPow, VL.oShl', VL.oAbs, VL.oMax2, VL.oMin2, VL.oGcd, VL.atI_0, VL.atI_1, VL.atI_2, VL.ixN_20, VL.ixN_21, and_assoc, VL.shp_int, VL.shp_bool, VL.shp_none, VL.eqv_int, VL.eqv_bool, VL.isiD, VL.tyD, String.reduceBEq, Bool.not_true, Bool.not_false, Bool.and_true, Bool.and_false, Bool.true_and, Bool.false_and, Bool.or_true, Bool.or_false, Bool.true_or, Bool.false_or, decide_true, decide_false, Bool.not_eq_true', Bool.not_eq_eq_eq_not, decide_eq_true_eq, decide_eq_false_iff_not, VL.oInt1, VL.oInt2, VL.oLen, VL.oToInt, VL.oAdd, VL.oEq, VL.oNe, VL.oIsN, VL.oIn, VL.itemD, VL.isN, VL.der, VL.ders, VL.dats, VL.ioA, VL.endsV, VL.retE, VL.keepC, Option.map, List.range_succ, List.range_zero, List.map_cons, List.map_nil, List.map_append, List.nil_append, List.cons_append, List.append_nil, List.replicate_zero, List.replicate_succ, List.length_cons, List.length_nil, Nat.sub_self, List.getElem?_cons_zero, List.getElem?_cons_succ, List.set_cons_zero, List.set_cons_succ, Option.some.injEq, exists_eq_left', exists_eq_left, exists_eq_right, exists_and_left, exists_and_right, and_true, true_and, CV.d.injEq, CV.loc.injEq, Cell.lst.injEq, Cell.dat.injEq, Cell.dic.injEq, PyData.int.injEq, PyData.bool.injEq, PyData.list.injEq, PyData.tuple.injEq, PyData.str.injEq, reduceCtorEq, false_and, and_false, exists_false, false_or, or_false, if_true, if_false, reduceIte, Bool.false_eq_true, Nat.reduceAdd, Nat.reduceSub, Nat.succ_sub_succ, Nat.zero_add, VL.gP, List.filterMap_cons, List.filterMap_nil, List.cons.injEq, VL.wDisp0, VL.wDisp, VL.wPairs, VL.oLcm, VL.wPop, VL.wRevM, VL.wClearM, VL.wTupRg, VL.wListRg, VL.wR1, VL.wR2, VL.wRevN, VL.oRepT, VL.oRepL]
    rw [hk1]
    clear hk1 k1
    refine seq_gen fun k1 hk1 => ?_
    refine for_body fun B hB => ?_
    unfold wFor
    simp only [VL.wSeq, VL.wNext, VL.wNever, VL.wAsg, VL.wSet, VL.wVar, VL.wFrz, VL.wC, VL.wOp, VL.wTest, VL.wNotT, VL.wAndT, VL.wOrT, VL.wAnd, VL.wOr, VL.wNot, VL.wIf, VL.wNil, VL.wCons, VL.wTup, VL.wLst, VL.wStay, VL.wNew, VL.wPar, VL.wAug, VL.wDrop, VL.wRet, VL.wRetN, VL.wRet0, VL.wIfS, VL.wBrk, VL.wCnt, VL.wGt, VL.wGs, VL.wCB, VL.wCBN, VL.wCall, VL.wCallN, VL.wCallIo, VL.wCallIoN, VL.wCallK, VL.wIsi, VL.wIsi2, VL.wApp, VL.wExt, VL.wIns, VL.wSetIt, VL.wNoPart, VL.wPart, VL.wSl, VL.wSlN, VL.wChain, VL.wNeg, VL.wDnew, VL.wDput, VL.wDget, VL.wDin, VL.wDnin, VL.wIndex, VL.wRev, VL.wParNE, VL.wParEN, VL.wPar3, VL.wYes, VL.wSeqOf, VL.wRng1, VL.wRng2, VL.oI, VL.oI0, VL.oLt, VL.oLe, VL.oGt, VL.oGe, VL.oSub, VL.oMul, VL.oFdiv, VL.oMod, VL.oPow, VL.oShl', VL.oAbs, VL.oMax2, VL.oMin2, VL.oGcd, VL.atI_0, VL.atI_1, VL.atI_2, VL.ixN_20, VL.ixN_21, and_assoc, VL.shp_int, VL.shp_bool, VL.shp_none, VL.eqv_int, VL.eqv_bool, VL.isiD, VL.tyD, String.reduceBEq, Bool.not_true, Bool.not_false, Bool.and_true, Bool.and_false, Bool.true_and, Bool.false_and, Bool.or_true, Bool.or_false, Bool.true_or, Bool.false_or, decide_true, decide_false, Bool.not_eq_true', Bool.not_eq_eq_eq_not, decide_eq_true_eq, decide_eq_false_iff_not, VL.oInt1, VL.oInt2, VL.oLen, VL.oToInt, VL.oAdd, VL.oEq, VL.oNe, VL.oIsN, VL.oIn, VL.itemD, VL.isN, VL.der, VL.ders, VL.dats, VL.ioA, VL.endsV, VL.retE, VL.keepC, Option.map, List.range_succ, List.range_zero, List.map_cons, List.map_nil, List.map_append, List.nil_append, List.cons_append, List.append_nil, List.replicate_zero, List.replicate_succ, List.length_cons, List.length_nil, Nat.sub_self, List.getElem?_cons_zero, List.getElem?_cons_succ, List.set_cons_zero, List.set_cons_succ, Option.some.injEq, exists_eq_left', exists_eq_left, exists_eq_right, exists_and_left, exists_and_right, and_true, true_and, CV.d.injEq, CV.loc.injEq, Cell.lst.injEq, Cell.dat.injEq, Cell.dic.injEq, PyData.int.injEq, PyData.bool.injEq, PyData.list.injEq, PyData.tuple.injEq, PyData.str.injEq, reduceCtorEq, false_and, and_false, exists_false, false_or, or_false, if_true, if_false, reduceIte, Bool.false_eq_true, Nat.reduceAdd, Nat.reduceSub, Nat.succ_sub_succ, Nat.zero_add, VL.gP, List.filterMap_cons, List.filterMap_nil, List.cons.injEq, VL.wDisp0, VL.wDisp, VL.wPairs, VL.oLcm, VL.wPop, VL.wRevM, VL.wClearM, VL.wTupRg, VL.wListRg, VL.wR1, VL.wR2, VL.wRevN, VL.oRepT, VL.oRepL]
    refine ⟨⟨by decide, by decide⟩, fun i ρ => ∃ (pot : List Int) (c4 c5 c6 c7 c8 c9 c10 : Cell), Pot pot ∧ ρ = [.dat (.list (ns.map .int)), .lst false (pot.map .int), .dat (.int turn), .dat (mcD M), c4, c5, c6, c7, c8, c9, c10, .un], ⟨pot, _, _, _, _, _, _, _, P, rfl⟩, ?_, ?_⟩
    · rintro look ρ d ⟨pot, c4, c5, c6, c7, c8, c9, c10, P, rfl⟩ hx
      obtain ⟨rfl, hi⟩ := rng_at (n := 4) hx
      simp only [VL.wSeq, VL.wNext, VL.wNever, VL.wAsg, VL.wSet, VL.wVar, VL.wFrz, VL.wC, VL.wOp, VL.wTest, VL.wNotT, VL.wAndT, VL.wOrT, VL.wAnd, VL.wOr, VL.wNot, VL.wIf, VL.wNil, VL.wCons, VL.wTup, VL.wLst, VL.wStay, VL.wNew, VL.wPar, VL.wAug, VL.wDrop, VL.wRet, VL.wRetN, VL.wRet0, VL.wIfS, VL.wBrk, VL.wCnt, VL.wGt, VL.wGs, VL.wCB, VL.wCBN, VL.wCall, VL.wCallN, VL.wCallIo, VL.wCallIoN, VL.wCallK, VL.wIsi, VL.wIsi2, VL.wApp, VL.wExt, VL.wIns, VL.wSetIt, VL.wNoPart, VL.wPart, VL.wSl, VL.wSlN, VL.wChain, VL.wNeg, VL.wDnew, VL.wDput, VL.wDget, VL.wDin, VL.wDnin, VL.wIndex, VL.wRev, VL.wParNE, VL.wParEN, VL.wPar3, VL.wYes, VL.wSeqOf, VL.wRng1, VL.wRng2, VL.oI, VL.oI0, VL.oLt, VL.oLe, VL.oGt, VL.oGe, VL.oSub, VL.oMul, VL.oFdiv, VL.oMod, VL.oPow, VL.oShl', VL.oAbs, VL.oMax2, VL.oMin2, VL.oGcd, VL.atI_0, VL.atI_1, VL.atI_2, VL.ixN_20, VL.ixN_21, and_assoc, VL.shp_int, VL.shp_bool, VL.shp_none, VL.eqv_int, VL.eqv_bool, VL.isiD, VL.tyD, String.reduceBEq, Bool.not_true, Bool.not_false, Bool.and_true, Bool.and_false, Bool.true_and, Bool.false_and, Bool.or_true, Bool.or_false, Bool.true_or, Bool.false_or, decide_true, decide_false, Bool.not_eq_true', Bool.not_eq_eq_eq_not, decide_eq_true_eq, decide_eq_false_iff_not, VL.oInt1, VL.oInt2, VL.oLen, VL.oToInt, VL.oAdd, VL.oEq, VL.oNe, VL.oIsN, VL.oIn, VL.itemD, VL.isN, VL.der, VL.ders, VL.dats, VL.ioA, VL.endsV, VL.retE, VL.keepC, Option.map, List.range_succ, List.range_zero, List.map_cons, List.map_nil, List.map_append, List.nil_append, List.cons_append, List.append_nil, List.replicate_zero, List.replicate_succ, List.length_cons, List.length_nil, Nat.sub_self, List.getElem?_cons_zero, List.getElem?_cons_succ, List.set_cons_zero, List.set_cons_succ, Option.some.injEq, exists_eq_left', exists_eq_left, exists_eq_right, exists_and_left, exists_and_right, and_true, true_and, CV.d.injEq, CV.loc.injEq, Cell.lst.injEq, Cell.dat.injEq, Cell.dic.injEq, PyData.int.injEq, PyData.bool.injEq, PyData.list.injEq, PyData.tuple.injEq, PyData.str.injEq, reduceCtorEq, false_and, and_false, exists_false, false_or, or_false, if_true, if_false, reduceIte, Bool.false_eq_true, Nat.reduceAdd, Nat.reduceSub, Nat.succ_sub_succ, Nat.zero_add, VL.gP, List.filterMap_cons, List.filterMap_nil, List.cons.injEq, VL.wDisp0, VL.wDisp, VL.wPairs, VL.oLcm, VL.wPop, VL.wRevM, VL.wClearM, VL.wTupRg, VL.wListRg, VL.wR1, VL.wR2, VL.wRevN, VL.oRepT, VL.oRepL]
      rw [hB]
      clear hB B
      refine seq_gen fun k2 hk2 => ?_
      unfold wAsg wStay
      refine tosses_io (pot := pot) (fun P' h' => ?_) fun ts pot T P => ?_
      · simp only [VL.wSeq, VL.wNext, VL.wNever, VL.wAsg, VL.wSet, VL.wVar, VL.wFrz, VL.wC, VL.wOp, VL.wTest, VL.wNotT, VL.wAndT, VL.wOrT, VL.wAnd, VL.wOr, VL.wNot, VL.wIf, VL.wNil, VL.wCons, VL.wTup, VL.wLst, VL.wStay, VL.wNew, VL.wPar, VL.wAug, VL.wDrop, VL.wRet, VL.wRetN, VL.wRet0, VL.wIfS, VL.wBrk, VL.wCnt, VL.wGt, VL.wGs, VL.wCB, VL.wCBN, VL.wCall, VL.wCallN, VL.wCallIo, VL.wCallIoN, VL.wCallK, VL.wIsi, VL.wIsi2, VL.wApp, VL.wExt, VL.wIns, VL.wSetIt, VL.wNoPart, VL.wPart, VL.wSl, VL.wSlN, VL.wChain, VL.wNeg, VL.wDnew, VL.wDput, VL.wDget, VL.wDin, VL.wDnin, VL.wIndex, VL.wRev, VL.wParNE, VL.wParEN, VL.wPar3, VL.wYes, VL.wSeqOf, VL.wRng1, VL.wRng2, VL.oI, VL.oI0, VL.oLt, VL.oLe, VL.oGt, VL.oGe, VL.oSub, VL.oMul, VL.oFdiv, VL.oMod, VL.oPow, VL.oShl', VL.oAbs, VL.oMax2, VL.oMin2, VL.oGcd, VL.atI_0, VL.atI_1, VL.atI_2, VL.ixN_20, VL.ixN_21, and_assoc, VL.shp_int, VL.shp_bool, VL.shp_none, VL.eqv_int, VL.eqv_bool, VL.isiD, VL.tyD, String.reduceBEq, Bool.not_true, Bool.not_false, Bool.and_true, Bool.and_false, Bool.true_and, Bool.false_and, Bool.or_true, Bool.or_false, Bool.true_or, Bool.false_or, decide_true, decide_false, Bool.not_eq_true', Bool.not_eq_eq_eq_not, decide_eq_true_eq, decide_eq_false_iff_not, VL.oInt1, VL.oInt2, VL.oLen, VL.oToInt, VL.oAdd, VL.oEq, VL.oNe, VL.oIsN, VL.oIn, VL.itemD, VL.isN, VL.der, VL.ders, VL.dats, VL.ioA, VL.endsV, VL.retE, VL.keepC, Option.map, List.range_succ, List.range_zero, List.map_cons, List.map_nil, List.map_append, List.nil_append, List.cons_append, List.append_nil, List.replicate_zero, List.replicate_succ, List.length_cons, List.length_nil, Nat.sub_self, List.getElem?_cons_zero, List.getElem?_cons_succ, List.set_cons_zero, List.set_cons_succ, Option.some.injEq, exists_eq_left', exists_eq_left, exists_eq_right, exists_and_left, exists_and_right, and_true, true_and, CV.d.injEq, CV.loc.injEq, Cell.lst.injEq, Cell.dat.injEq, Cell.dic.injEq, PyData.int.injEq, PyData.bool.injEq, PyData.list.injEq, PyData.tuple.injEq, PyData.str.injEq, reduceCtorEq, false_and, and_false, exists_false, false_or, or_false, if_true, if_false, reduceIte, Bool.false_eq_true, Nat.reduceAdd, Nat.reduceSub, Nat.succ_sub_succ, Nat.zero_add, VL.gP, List.filterMap_cons, List.filterMap_nil, List.cons.injEq, VL.wDisp0, VL.wDisp, VL.wPairs, VL.oLcm, VL.wPop, VL.wRevM, VL.wClearM, VL.wTupRg, VL.wListRg, VL.wR1, VL.wR2, VL.wRevN, VL.oRepT, VL.oRepL, S__law_take, potC, Prod.mk.injEq]
        split
        · exact ⟨pot, rfl, P, by decide, by decide, fun r pot' p' l => h' r pot' (by omega) p'⟩
        · exact h' 0 pot (by omega) P
      simp only [VL.wSeq, VL.wNext, VL.wNever, VL.wAsg, VL.wSet, VL.wVar, VL.wFrz, VL.wC, VL.wOp, VL.wTest, VL.wNotT, VL.wAndT, VL.wOrT, VL.wAnd, VL.wOr, VL.wNot, VL.wIf, VL.wNil, VL.wCons, VL.wTup, VL.wLst, VL.wStay, VL.wNew, VL.wPar, VL.wAug, VL.wDrop, VL.wRet, VL.wRetN, VL.wRet0, VL.wIfS, VL.wBrk, VL.wCnt, VL.wGt, VL.wGs, VL.wCB, VL.wCBN, VL.wCall, VL.wCallN, VL.wCallIo, VL.wCallIoN, VL.wCallK, VL.wIsi, VL.wIsi2, VL.wApp, VL.wExt, VL.wIns, VL.wSetIt, VL.wNoPart, VL.wPart, VL.wSl, VL.wSlN, VL.wChain, VL.wNeg, VL.wDnew, VL.wDput, VL.wDget, VL.wDin, VL.wDnin, VL.wIndex, VL.wRev, VL.wParNE, VL.wParEN, VL.wPar3, VL.wYes, VL.wSeqOf, VL.wRng1, VL.wRng2, VL.oI, VL.oI0, VL.oLt, VL.oLe, VL.oGt, VL.oGe, VL.oSub, VL.oMul, VL.oFdiv, VL.oMod, VL.oPow, VL.oShl', VL.oAbs, VL.oMax2, VL.oMin2, VL.oGcd, VL.atI_0, VL.atI_1, VL.atI_2, VL.ixN_20, VL.ixN_21, and_assoc, VL.shp_int, VL.shp_bool, VL.shp_none, VL.eqv_int, VL.eqv_bool, VL.isiD, VL.tyD, String.reduceBEq, Bool.not_true, Bool.not_false, Bool.and_true, Bool.and_false, Bool.true_and, Bool.false_and, Bool.or_true, Bool.or_false, Bool.true_or, Bool.false_or, decide_true, decide_false, Bool.not_eq_true', Bool.not_eq_eq_eq_not, decide_eq_true_eq, decide_eq_false_iff_not, VL.oInt1, VL.oInt2, VL.oLen, VL.oToInt, VL.oAdd, VL.oEq, VL.oNe, VL.oIsN, VL.oIn, VL.itemD, VL.isN, VL.der, VL.ders, VL.dats, VL.ioA, VL.endsV, VL.retE, VL.keepC, Option.map, List.range_succ, List.range_zero, List.map_cons, List.map_nil, List.map_append, List.nil_append, List.cons_append, List.append_nil, List.replicate_zero, List.replicate_succ, List.length_cons, List.length_nil, Nat.sub_self, List.getElem?_cons_zero, List.getElem?_cons_succ, List.set_cons_zero, List.set_cons_succ, Option.some.injEq, exists_eq_left', exists_eq_left, exists_eq_right, exists_and_left, exists_and_right, and_true, true_and, CV.d.injEq, CV.loc.injEq, Cell.lst.injEq, Cell.dat.injEq, Cell.dic.injEq, PyData.int.injEq, PyData.bool.injEq, PyData.list.injEq, PyData.tuple.injEq, PyData.str.injEq, reduceCtorEq, false_and, and_false, exists_false, false_or, or_false, if_true, if_false, reduceIte, Bool.false_eq_true, Nat.reduceAdd, Nat.reduceSub, Nat.succ_sub_succ, Nat.zero_add, VL.gP, List.filterMap_cons, List.filterMap_nil, List.cons.injEq, VL.wDisp0, VL.wDisp, VL.wPairs, VL.oLcm, VL.wPop, VL.wRevM, VL.wClearM, VL.wTupRg, VL.wListRg, VL.wR1, VL.wR2, VL.wRevN, VL.oRepT, VL.oRepL]
      rw [hk2]
      clear hk2 k2
      refine seq_gen fun k2 hk2 => ?_
      have go : k2 [.dat (.list (ns.map .int)), .lst false (pot.map .int), .dat (.int turn), .dat (mcD M), .dat (.int look), .un, c6, .dat (.list (nsD ts)), .dat (.tuple [.str "walk", wlkD (wlk M (if M.b.to = true then ts else []))]), c9, c10, .un] := by
        rw [hk2]
        clear hk2 k2
        refine seq_gen fun k2 hk2 => ?_
        have go : k2 [.dat (.list (ns.map .int)), .lst false (pot.map .int), .dat (.int turn), .dat (mcD M), .dat (.int look), .un, c6, .dat (.list (nsD ts)), .dat (toldD M ts), c9, c10, .un] := by
          rw [hk2]
          clear hk2 k2
          refine seq_gen fun k2 hk2 => ?_
          simp only [VL.wSeq, VL.wNext, VL.wNever, VL.wAsg, VL.wSet, VL.wVar, VL.wFrz, VL.wC, VL.wOp, VL.wTest, VL.wNotT, VL.wAndT, VL.wOrT, VL.wAnd, VL.wOr, VL.wNot, VL.wIf, VL.wNil, VL.wCons, VL.wTup, VL.wLst, VL.wStay, VL.wNew, VL.wPar, VL.wAug, VL.wDrop, VL.wRet, VL.wRetN, VL.wRet0, VL.wIfS, VL.wBrk, VL.wCnt, VL.wGt, VL.wGs, VL.wCB, VL.wCBN, VL.wCall, VL.wCallN, VL.wCallIo, VL.wCallIoN, VL.wCallK, VL.wIsi, VL.wIsi2, VL.wApp, VL.wExt, VL.wIns, VL.wSetIt, VL.wNoPart, VL.wPart, VL.wSl, VL.wSlN, VL.wChain, VL.wNeg, VL.wDnew, VL.wDput, VL.wDget, VL.wDin, VL.wDnin, VL.wIndex, VL.wRev, VL.wParNE, VL.wParEN, VL.wPar3, VL.wYes, VL.wSeqOf, VL.wRng1, VL.wRng2, VL.oI, VL.oI0, VL.oLt, VL.oLe, VL.oGt, VL.oGe, VL.oSub, VL.oMul, VL.oFdiv, VL.oMod, VL.oPow, VL.oShl', VL.oAbs, VL.oMax2, VL.oMin2, VL.oGcd, VL.atI_0, VL.atI_1, VL.atI_2, VL.ixN_20, VL.ixN_21, and_assoc, VL.shp_int, VL.shp_bool, VL.shp_none, VL.eqv_int, VL.eqv_bool, VL.isiD, VL.tyD, String.reduceBEq, Bool.not_true, Bool.not_false, Bool.and_true, Bool.and_false, Bool.true_and, Bool.false_and, Bool.or_true, Bool.or_false, Bool.true_or, Bool.false_or, decide_true, decide_false, Bool.not_eq_true', Bool.not_eq_eq_eq_not, decide_eq_true_eq, decide_eq_false_iff_not, VL.oInt1, VL.oInt2, VL.oLen, VL.oToInt, VL.oAdd, VL.oEq, VL.oNe, VL.oIsN, VL.oIn, VL.itemD, VL.isN, VL.der, VL.ders, VL.dats, VL.ioA, VL.endsV, VL.retE, VL.keepC, Option.map, List.range_succ, List.range_zero, List.map_cons, List.map_nil, List.map_append, List.nil_append, List.cons_append, List.append_nil, List.replicate_zero, List.replicate_succ, List.length_cons, List.length_nil, Nat.sub_self, List.getElem?_cons_zero, List.getElem?_cons_succ, List.set_cons_zero, List.set_cons_succ, Option.some.injEq, exists_eq_left', exists_eq_left, exists_eq_right, exists_and_left, exists_and_right, and_true, true_and, CV.d.injEq, CV.loc.injEq, Cell.lst.injEq, Cell.dat.injEq, Cell.dic.injEq, PyData.int.injEq, PyData.bool.injEq, PyData.list.injEq, PyData.tuple.injEq, PyData.str.injEq, reduceCtorEq, false_and, and_false, exists_false, false_or, or_false, if_true, if_false, reduceIte, Bool.false_eq_true, Nat.reduceAdd, Nat.reduceSub, Nat.succ_sub_succ, Nat.zero_add, VL.gP, List.filterMap_cons, List.filterMap_nil, List.cons.injEq, VL.wDisp0, VL.wDisp, VL.wPairs, VL.oLcm, VL.wPop, VL.wRevM, VL.wClearM, VL.wTupRg, VL.wListRg, VL.wR1, VL.wR2, VL.wRevN, VL.oRepT, VL.oRepL, oSeqN]
          rw [hk2]
          clear hk2 k2
          refine seq_gen fun k2 hk2 => ?_
          simp only [VL.wSeq, VL.wNext, VL.wNever, VL.wAsg, VL.wSet, VL.wVar, VL.wFrz, VL.wC, VL.wOp, VL.wTest, VL.wNotT, VL.wAndT, VL.wOrT, VL.wAnd, VL.wOr, VL.wNot, VL.wIf, VL.wNil, VL.wCons, VL.wTup, VL.wLst, VL.wStay, VL.wNew, VL.wPar, VL.wAug, VL.wDrop, VL.wRet, VL.wRetN, VL.wRet0, VL.wIfS, VL.wBrk, VL.wCnt, VL.wGt, VL.wGs, VL.wCB, VL.wCBN, VL.wCall, VL.wCallN, VL.wCallIo, VL.wCallIoN, VL.wCallK, VL.wIsi, VL.wIsi2, VL.wApp, VL.wExt, VL.wIns, VL.wSetIt, VL.wNoPart, VL.wPart, VL.wSl, VL.wSlN, VL.wChain, VL.wNeg, VL.wDnew, VL.wDput, VL.wDget, VL.wDin, VL.wDnin, VL.wIndex, VL.wRev, VL.wParNE, VL.wParEN, VL.wPar3, VL.wYes, VL.wSeqOf, VL.wRng1, VL.wRng2, VL.oI, VL.oI0, VL.oLt, VL.oLe, VL.oGt, VL.oGe, VL.oSub, VL.oMul, VL.oFdiv, VL.oMod, VL.oPow, VL.oShl', VL.oAbs, VL.oMax2, VL.oMin2, VL.oGcd, VL.atI_0, VL.atI_1, VL.atI_2, VL.ixN_20, VL.ixN_21, and_assoc, VL.shp_int, VL.shp_bool, VL.shp_none, VL.eqv_int, VL.eqv_bool, VL.isiD, VL.tyD, String.reduceBEq, Bool.not_true, Bool.not_false, Bool.and_true, Bool.and_false, Bool.true_and, Bool.false_and, Bool.or_true, Bool.or_false, Bool.true_or, Bool.false_or, decide_true, decide_false, Bool.not_eq_true', Bool.not_eq_eq_eq_not, decide_eq_true_eq, decide_eq_false_iff_not, VL.oInt1, VL.oInt2, VL.oLen, VL.oToInt, VL.oAdd, VL.oEq, VL.oNe, VL.oIsN, VL.oIn, VL.itemD, VL.isN, VL.der, VL.ders, VL.dats, VL.ioA, VL.endsV, VL.retE, VL.keepC, Option.map, List.range_succ, List.range_zero, List.map_cons, List.map_nil, List.map_append, List.nil_append, List.cons_append, List.append_nil, List.replicate_zero, List.replicate_succ, List.length_cons, List.length_nil, Nat.sub_self, List.getElem?_cons_zero, List.getElem?_cons_succ, List.set_cons_zero, List.set_cons_succ, Option.some.injEq, exists_eq_left', exists_eq_left, exists_eq_right, exists_and_left, exists_and_right, and_true, true_and, CV.d.injEq, CV.loc.injEq, Cell.lst.injEq, Cell.dat.injEq, Cell.dic.injEq, PyData.int.injEq, PyData.bool.injEq, PyData.list.injEq, PyData.tuple.injEq, PyData.str.injEq, reduceCtorEq, false_and, and_false, exists_false, false_or, or_false, if_true, if_false, reduceIte, Bool.false_eq_true, Nat.reduceAdd, Nat.reduceSub, Nat.succ_sub_succ, Nat.zero_add, VL.gP, List.filterMap_cons, List.filterMap_nil, List.cons.injEq, VL.wDisp0, VL.wDisp, VL.wPairs, VL.oLcm, VL.wPop, VL.wRevM, VL.wClearM, VL.wTupRg, VL.wListRg, VL.wR1, VL.wR2, VL.wRevN, VL.oRepT, VL.oRepL, S__law_told]
          refine ⟨M, rfl, true, ts, rfl, ⟨_, rfl⟩, ok, T, ?_⟩
          refine ⟨M, rfl, false, ts, rfl, ⟨_, rfl⟩, ok, T, by decide, ?_⟩
          rw [hk2]
          clear hk2 k2
          have okt := ok_two (ok_told ok T 1)
          generalize toldD M ts = D at *
          simp only [VL.wSeq, VL.wNext, VL.wNever, VL.wAsg, VL.wSet, VL.wVar, VL.wFrz, VL.wC, VL.wOp, VL.wTest, VL.wNotT, VL.wAndT, VL.wOrT, VL.wAnd, VL.wOr, VL.wNot, VL.wIf, VL.wNil, VL.wCons, VL.wTup, VL.wLst, VL.wStay, VL.wNew, VL.wPar, VL.wAug, VL.wDrop, VL.wRet, VL.wRetN, VL.wRet0, VL.wIfS, VL.wBrk, VL.wCnt, VL.wGt, VL.wGs, VL.wCB, VL.wCBN, VL.wCall, VL.wCallN, VL.wCallIo, VL.wCallIoN, VL.wCallK, VL.wIsi, VL.wIsi2, VL.wApp, VL.wExt, VL.wIns, VL.wSetIt, VL.wNoPart, VL.wPart, VL.wSl, VL.wSlN, VL.wChain, VL.wNeg, VL.wDnew, VL.wDput, VL.wDget, VL.wDin, VL.wDnin, VL.wIndex, VL.wRev, VL.wParNE, VL.wParEN, VL.wPar3, VL.wYes, VL.wSeqOf, VL.wRng1, VL.wRng2, VL.oI, VL.oI0, VL.oLt, VL.oLe, VL.oGt, VL.oGe, VL.oSub, VL.oMul, VL.oFdiv, VL.oMod, VL.oPow, VL.oShl', VL.oAbs, VL.oMax2, VL.oMin2, VL.oGcd, VL.atI_0, VL.atI_1, VL.atI_2, VL.ixN_20, VL.ixN_21, and_assoc, VL.shp_int, VL.shp_bool, VL.shp_none, VL.eqv_int, VL.eqv_bool, VL.isiD, VL.tyD, String.reduceBEq, Bool.not_true, Bool.not_false, Bool.and_true, Bool.and_false, Bool.true_and, Bool.false_and, Bool.or_true, Bool.or_false, Bool.true_or, Bool.false_or, decide_true, decide_false, Bool.not_eq_true', Bool.not_eq_eq_eq_not, decide_eq_true_eq, decide_eq_false_iff_not, VL.oInt1, VL.oInt2, VL.oLen, VL.oToInt, VL.oAdd, VL.oEq, VL.oNe, VL.oIsN, VL.oIn, VL.itemD, VL.isN, VL.der, VL.ders, VL.dats, VL.ioA, VL.endsV, VL.retE, VL.keepC, Option.map, List.range_succ, List.range_zero, List.map_cons, List.map_nil, List.map_append, List.nil_append, List.cons_append, List.append_nil, List.replicate_zero, List.replicate_succ, List.length_cons, List.length_nil, Nat.sub_self, List.getElem?_cons_zero, List.getElem?_cons_succ, List.set_cons_zero, List.set_cons_succ, Option.some.injEq, exists_eq_left', exists_eq_left, exists_eq_right, exists_and_left, exists_and_right, and_true, true_and, CV.d.injEq, CV.loc.injEq, Cell.lst.injEq, Cell.dat.injEq, Cell.dic.injEq, PyData.int.injEq, PyData.bool.injEq, PyData.list.injEq, PyData.tuple.injEq, PyData.str.injEq, reduceCtorEq, false_and, and_false, exists_false, false_or, or_false, if_true, if_false, reduceIte, Bool.false_eq_true, Nat.reduceAdd, Nat.reduceSub, Nat.succ_sub_succ, Nat.zero_add, VL.gP, List.filterMap_cons, List.filterMap_nil, List.cons.injEq, VL.wDisp0, VL.wDisp, VL.wPairs, VL.oLcm, VL.wPop, VL.wRevM, VL.wClearM, VL.wTupRg, VL.wListRg, VL.wR1, VL.wR2, VL.wRevN, VL.oRepT, VL.oRepL, S__law_same]
          refine ⟨by decide, okt, ns_shp _, ns_shp _, ?_⟩
          rw [ns_eqv, if_neg (by decide)]
          exact ⟨pot, P, rfl, _, rfl⟩
        clear hk2
        simp only [VL.wSeq, VL.wNext, VL.wNever, VL.wAsg, VL.wSet, VL.wVar, VL.wFrz, VL.wC, VL.wOp, VL.wTest, VL.wNotT, VL.wAndT, VL.wOrT, VL.wAnd, VL.wOr, VL.wNot, VL.wIf, VL.wNil, VL.wCons, VL.wTup, VL.wLst, VL.wStay, VL.wNew, VL.wPar, VL.wAug, VL.wDrop, VL.wRet, VL.wRetN, VL.wRet0, VL.wIfS, VL.wBrk, VL.wCnt, VL.wGt, VL.wGs, VL.wCB, VL.wCBN, VL.wCall, VL.wCallN, VL.wCallIo, VL.wCallIoN, VL.wCallK, VL.wIsi, VL.wIsi2, VL.wApp, VL.wExt, VL.wIns, VL.wSetIt, VL.wNoPart, VL.wPart, VL.wSl, VL.wSlN, VL.wChain, VL.wNeg, VL.wDnew, VL.wDput, VL.wDget, VL.wDin, VL.wDnin, VL.wIndex, VL.wRev, VL.wParNE, VL.wParEN, VL.wPar3, VL.wYes, VL.wSeqOf, VL.wRng1, VL.wRng2, VL.oI, VL.oI0, VL.oLt, VL.oLe, VL.oGt, VL.oGe, VL.oSub, VL.oMul, VL.oFdiv, VL.oMod, VL.oPow, VL.oShl', VL.oAbs, VL.oMax2, VL.oMin2, VL.oGcd, VL.atI_0, VL.atI_1, VL.atI_2, VL.ixN_20, VL.ixN_21, and_assoc, VL.shp_int, VL.shp_bool, VL.shp_none, VL.eqv_int, VL.eqv_bool, VL.isiD, VL.tyD, String.reduceBEq, Bool.not_true, Bool.not_false, Bool.and_true, Bool.and_false, Bool.true_and, Bool.false_and, Bool.or_true, Bool.or_false, Bool.true_or, Bool.false_or, decide_true, decide_false, Bool.not_eq_true', Bool.not_eq_eq_eq_not, decide_eq_true_eq, decide_eq_false_iff_not, VL.oInt1, VL.oInt2, VL.oLen, VL.oToInt, VL.oAdd, VL.oEq, VL.oNe, VL.oIsN, VL.oIn, VL.itemD, VL.isN, VL.der, VL.ders, VL.dats, VL.ioA, VL.endsV, VL.retE, VL.keepC, Option.map, List.range_succ, List.range_zero, List.map_cons, List.map_nil, List.map_append, List.nil_append, List.cons_append, List.append_nil, List.replicate_zero, List.replicate_succ, List.length_cons, List.length_nil, Nat.sub_self, List.getElem?_cons_zero, List.getElem?_cons_succ, List.set_cons_zero, List.set_cons_succ, Option.some.injEq, exists_eq_left', exists_eq_left, exists_eq_right, exists_and_left, exists_and_right, and_true, true_and, CV.d.injEq, CV.loc.injEq, Cell.lst.injEq, Cell.dat.injEq, Cell.dic.injEq, PyData.int.injEq, PyData.bool.injEq, PyData.list.injEq, PyData.tuple.injEq, PyData.str.injEq, reduceCtorEq, false_and, and_false, exists_false, false_or, or_false, if_true, if_false, reduceIte, Bool.false_eq_true, Nat.reduceAdd, Nat.reduceSub, Nat.succ_sub_succ, Nat.zero_add, VL.gP, List.filterMap_cons, List.filterMap_nil, List.cons.injEq, VL.wDisp0, VL.wDisp, VL.wPairs, VL.oLcm, VL.wPop, VL.wRevM, VL.wClearM, VL.wTupRg, VL.wListRg, VL.wR1, VL.wR2, VL.wRevN, VL.oRepT, VL.oRepL, oEmp]
        refine ⟨_, rfl, _, rfl, shp_w M.b, shp_is, ?_⟩
        rw [w_is]
        unfold toldD at go
        cases e : M.b.to
        · rw [if_pos (show (!false) = true from rfl)]
          refine ⟨by decide, ?_⟩
          by_cases z : ts = []
          · rw [if_neg (fun w => w.2 z)] at go
            have em : (nsD ts).isEmpty = true := by
              rw [z]
              rfl
            rw [em, if_neg (by decide)]
            rw [z] at go ⊢
            exact go
          · rw [if_pos ⟨e, z⟩] at go
            have em : (nsD ts).isEmpty = false := by
              cases ts with
              | nil => exact absurd rfl z
              | cons => rfl
            rw [em, if_pos rfl]
            exact ⟨by decide, go⟩
        · rw [if_neg (by decide)]
          rw [if_neg (fun z => by rw [e] at z; exact absurd z.1 (by decide))] at go
          exact go
      clear hk2
      simp only [VL.wSeq, VL.wNext, VL.wNever, VL.wAsg, VL.wSet, VL.wVar, VL.wFrz, VL.wC, VL.wOp, VL.wTest, VL.wNotT, VL.wAndT, VL.wOrT, VL.wAnd, VL.wOr, VL.wNot, VL.wIf, VL.wNil, VL.wCons, VL.wTup, VL.wLst, VL.wStay, VL.wNew, VL.wPar, VL.wAug, VL.wDrop, VL.wRet, VL.wRetN, VL.wRet0, VL.wIfS, VL.wBrk, VL.wCnt, VL.wGt, VL.wGs, VL.wCB, VL.wCBN, VL.wCall, VL.wCallN, VL.wCallIo, VL.wCallIoN, VL.wCallK, VL.wIsi, VL.wIsi2, VL.wApp, VL.wExt, VL.wIns, VL.wSetIt, VL.wNoPart, VL.wPart, VL.wSl, VL.wSlN, VL.wChain, VL.wNeg, VL.wDnew, VL.wDput, VL.wDget, VL.wDin, VL.wDnin, VL.wIndex, VL.wRev, VL.wParNE, VL.wParEN, VL.wPar3, VL.wYes, VL.wSeqOf, VL.wRng1, VL.wRng2, VL.oI, VL.oI0, VL.oLt, VL.oLe, VL.oGt, VL.oGe, VL.oSub, VL.oMul, VL.oFdiv, VL.oMod, VL.oPow, VL.oShl', VL.oAbs, VL.oMax2, VL.oMin2, VL.oGcd, VL.atI_0, VL.atI_1, VL.atI_2, VL.ixN_20, VL.ixN_21, and_assoc, VL.shp_int, VL.shp_bool, VL.shp_none, VL.eqv_int, VL.eqv_bool, VL.isiD, VL.tyD, String.reduceBEq, Bool.not_true, Bool.not_false, Bool.and_true, Bool.and_false, Bool.true_and, Bool.false_and, Bool.or_true, Bool.or_false, Bool.true_or, Bool.false_or, decide_true, decide_false, Bool.not_eq_true', Bool.not_eq_eq_eq_not, decide_eq_true_eq, decide_eq_false_iff_not, VL.oInt1, VL.oInt2, VL.oLen, VL.oToInt, VL.oAdd, VL.oEq, VL.oNe, VL.oIsN, VL.oIn, VL.itemD, VL.isN, VL.der, VL.ders, VL.dats, VL.ioA, VL.endsV, VL.retE, VL.keepC, Option.map, List.range_succ, List.range_zero, List.map_cons, List.map_nil, List.map_append, List.nil_append, List.cons_append, List.append_nil, List.replicate_zero, List.replicate_succ, List.length_cons, List.length_nil, Nat.sub_self, List.getElem?_cons_zero, List.getElem?_cons_succ, List.set_cons_zero, List.set_cons_succ, Option.some.injEq, exists_eq_left', exists_eq_left, exists_eq_right, exists_and_left, exists_and_right, and_true, true_and, CV.d.injEq, CV.loc.injEq, Cell.lst.injEq, Cell.dat.injEq, Cell.dic.injEq, PyData.int.injEq, PyData.bool.injEq, PyData.list.injEq, PyData.tuple.injEq, PyData.str.injEq, reduceCtorEq, false_and, and_false, exists_false, false_or, or_false, if_true, if_false, reduceIte, Bool.false_eq_true, Nat.reduceAdd, Nat.reduceSub, Nat.succ_sub_succ, Nat.zero_add, VL.gP, List.filterMap_cons, List.filterMap_nil, List.cons.injEq, VL.wDisp0, VL.wDisp, VL.wPairs, VL.oLcm, VL.wPop, VL.wRevM, VL.wClearM, VL.wTupRg, VL.wListRg, VL.wR1, VL.wR2, VL.wRevN, VL.oRepT, VL.oRepL, S__law_walk]
      refine ⟨_, rfl, _, rfl, shp_w M.b, shp_to, ?_⟩
      rw [w_to]
      cases e : M.b.to
      · rw [if_neg (by decide)]
        rw [e, if_neg (by decide)] at go
        exact ⟨by decide, M, rfl, false, [], rfl, ok, ⟨by simp, fun t m => by cases m⟩, .inr rfl, by decide, go⟩
      · rw [if_pos rfl]
        rw [e, if_pos rfl] at go
        exact ⟨M, rfl, true, ts, rfl, ok, T, .inl e, by decide, go⟩
    · rintro ρ ⟨pot, c4, c5, c6, c7, c8, c9, c10, P, rfl⟩
      rw [hk1]
      clear hk1 k1 hB B
      refine seq_gen fun k1 hk1 => ?_
      refine for_body fun B hB => ?_
      unfold wFor
      simp only [VL.wSeq, VL.wNext, VL.wNever, VL.wAsg, VL.wSet, VL.wVar, VL.wFrz, VL.wC, VL.wOp, VL.wTest, VL.wNotT, VL.wAndT, VL.wOrT, VL.wAnd, VL.wOr, VL.wNot, VL.wIf, VL.wNil, VL.wCons, VL.wTup, VL.wLst, VL.wStay, VL.wNew, VL.wPar, VL.wAug, VL.wDrop, VL.wRet, VL.wRetN, VL.wRet0, VL.wIfS, VL.wBrk, VL.wCnt, VL.wGt, VL.wGs, VL.wCB, VL.wCBN, VL.wCall, VL.wCallN, VL.wCallIo, VL.wCallIoN, VL.wCallK, VL.wIsi, VL.wIsi2, VL.wApp, VL.wExt, VL.wIns, VL.wSetIt, VL.wNoPart, VL.wPart, VL.wSl, VL.wSlN, VL.wChain, VL.wNeg, VL.wDnew, VL.wDput, VL.wDget, VL.wDin, VL.wDnin, VL.wIndex, VL.wRev, VL.wParNE, VL.wParEN, VL.wPar3, VL.wYes, VL.wSeqOf, VL.wRng1, VL.wRng2, VL.oI, VL.oI0, VL.oLt, VL.oLe, VL.oGt, VL.oGe, VL.oSub, VL.oMul, VL.oFdiv, VL.oMod, VL.oPow, VL.oShl', VL.oAbs, VL.oMax2, VL.oMin2, VL.oGcd, VL.atI_0, VL.atI_1, VL.atI_2, VL.ixN_20, VL.ixN_21, and_assoc, VL.shp_int, VL.shp_bool, VL.shp_none, VL.eqv_int, VL.eqv_bool, VL.isiD, VL.tyD, String.reduceBEq, Bool.not_true, Bool.not_false, Bool.and_true, Bool.and_false, Bool.true_and, Bool.false_and, Bool.or_true, Bool.or_false, Bool.true_or, Bool.false_or, decide_true, decide_false, Bool.not_eq_true', Bool.not_eq_eq_eq_not, decide_eq_true_eq, decide_eq_false_iff_not, VL.oInt1, VL.oInt2, VL.oLen, VL.oToInt, VL.oAdd, VL.oEq, VL.oNe, VL.oIsN, VL.oIn, VL.itemD, VL.isN, VL.der, VL.ders, VL.dats, VL.ioA, VL.endsV, VL.retE, VL.keepC, Option.map, List.range_succ, List.range_zero, List.map_cons, List.map_nil, List.map_append, List.nil_append, List.cons_append, List.append_nil, List.replicate_zero, List.replicate_succ, List.length_cons, List.length_nil, Nat.sub_self, List.getElem?_cons_zero, List.getElem?_cons_succ, List.set_cons_zero, List.set_cons_succ, Option.some.injEq, exists_eq_left', exists_eq_left, exists_eq_right, exists_and_left, exists_and_right, and_true, true_and, CV.d.injEq, CV.loc.injEq, Cell.lst.injEq, Cell.dat.injEq, Cell.dic.injEq, PyData.int.injEq, PyData.bool.injEq, PyData.list.injEq, PyData.tuple.injEq, PyData.str.injEq, reduceCtorEq, false_and, and_false, exists_false, false_or, or_false, if_true, if_false, reduceIte, Bool.false_eq_true, Nat.reduceAdd, Nat.reduceSub, Nat.succ_sub_succ, Nat.zero_add, VL.gP, List.filterMap_cons, List.filterMap_nil, List.cons.injEq, VL.wDisp0, VL.wDisp, VL.wPairs, VL.oLcm, VL.wPop, VL.wRevM, VL.wClearM, VL.wTupRg, VL.wListRg, VL.wR1, VL.wR2, VL.wRevN, VL.oRepT, VL.oRepL, S__law_take, potC, Prod.mk.injEq]
      refine ⟨pot, rfl, P, by decide, by decide, fun r pot P hr => ⟨by decide, fun j ρ => ∃ c5 c8, ρ = [.dat (.list (ns.map .int)), .lst false (pot.map .int), .dat (.int turn), .dat (mcD M), c4, c5, c6, c7, c8, c9, c10, .un], ⟨_, _, rfl⟩, ?_, ?_⟩⟩
      · rintro j ρ d ⟨c5, c8, rfl⟩ hx1
        obtain ⟨n, rfl, n7⟩ : ∃ n : Nat, d = .int n ∧ n ≤ 7 := by
          have m := List.mem_of_getElem? hx1
          simp only [List.mem_cons, List.not_mem_nil, or_false] at m
          rcases m with rfl | rfl | rfl
          · exact ⟨0, rfl, by omega⟩
          · exact ⟨1, rfl, by omega⟩
          · exact ⟨2 + r, by rw [Int.natCast_add]; rfl, by omega⟩
        clear hx1
        simp only [VL.wSeq, VL.wNext, VL.wNever, VL.wAsg, VL.wSet, VL.wVar, VL.wFrz, VL.wC, VL.wOp, VL.wTest, VL.wNotT, VL.wAndT, VL.wOrT, VL.wAnd, VL.wOr, VL.wNot, VL.wIf, VL.wNil, VL.wCons, VL.wTup, VL.wLst, VL.wStay, VL.wNew, VL.wPar, VL.wAug, VL.wDrop, VL.wRet, VL.wRetN, VL.wRet0, VL.wIfS, VL.wBrk, VL.wCnt, VL.wGt, VL.wGs, VL.wCB, VL.wCBN, VL.wCall, VL.wCallN, VL.wCallIo, VL.wCallIoN, VL.wCallK, VL.wIsi, VL.wIsi2, VL.wApp, VL.wExt, VL.wIns, VL.wSetIt, VL.wNoPart, VL.wPart, VL.wSl, VL.wSlN, VL.wChain, VL.wNeg, VL.wDnew, VL.wDput, VL.wDget, VL.wDin, VL.wDnin, VL.wIndex, VL.wRev, VL.wParNE, VL.wParEN, VL.wPar3, VL.wYes, VL.wSeqOf, VL.wRng1, VL.wRng2, VL.oI, VL.oI0, VL.oLt, VL.oLe, VL.oGt, VL.oGe, VL.oSub, VL.oMul, VL.oFdiv, VL.oMod, VL.oPow, VL.oShl', VL.oAbs, VL.oMax2, VL.oMin2, VL.oGcd, VL.atI_0, VL.atI_1, VL.atI_2, VL.ixN_20, VL.ixN_21, and_assoc, VL.shp_int, VL.shp_bool, VL.shp_none, VL.eqv_int, VL.eqv_bool, VL.isiD, VL.tyD, String.reduceBEq, Bool.not_true, Bool.not_false, Bool.and_true, Bool.and_false, Bool.true_and, Bool.false_and, Bool.or_true, Bool.or_false, Bool.true_or, Bool.false_or, decide_true, decide_false, Bool.not_eq_true', Bool.not_eq_eq_eq_not, decide_eq_true_eq, decide_eq_false_iff_not, VL.oInt1, VL.oInt2, VL.oLen, VL.oToInt, VL.oAdd, VL.oEq, VL.oNe, VL.oIsN, VL.oIn, VL.itemD, VL.isN, VL.der, VL.ders, VL.dats, VL.ioA, VL.endsV, VL.retE, VL.keepC, Option.map, List.range_succ, List.range_zero, List.map_cons, List.map_nil, List.map_append, List.nil_append, List.cons_append, List.append_nil, List.replicate_zero, List.replicate_succ, List.length_cons, List.length_nil, Nat.sub_self, List.getElem?_cons_zero, List.getElem?_cons_succ, List.set_cons_zero, List.set_cons_succ, Option.some.injEq, exists_eq_left', exists_eq_left, exists_eq_right, exists_and_left, exists_and_right, and_true, true_and, CV.d.injEq, CV.loc.injEq, Cell.lst.injEq, Cell.dat.injEq, Cell.dic.injEq, PyData.int.injEq, PyData.bool.injEq, PyData.list.injEq, PyData.tuple.injEq, PyData.str.injEq, reduceCtorEq, false_and, and_false, exists_false, false_or, or_false, if_true, if_false, reduceIte, Bool.false_eq_true, Nat.reduceAdd, Nat.reduceSub, Nat.succ_sub_succ, Nat.zero_add, VL.gP, List.filterMap_cons, List.filterMap_nil, List.cons.injEq, VL.wDisp0, VL.wDisp, VL.wPairs, VL.oLcm, VL.wPop, VL.wRevM, VL.wClearM, VL.wTupRg, VL.wListRg, VL.wR1, VL.wR2, VL.wRevN, VL.oRepT, VL.oRepL]
        rw [hB]
        refine seq_gen fun k2 hk2 => ?_
        simp only [VL.wSeq, VL.wNext, VL.wNever, VL.wAsg, VL.wSet, VL.wVar, VL.wFrz, VL.wC, VL.wOp, VL.wTest, VL.wNotT, VL.wAndT, VL.wOrT, VL.wAnd, VL.wOr, VL.wNot, VL.wIf, VL.wNil, VL.wCons, VL.wTup, VL.wLst, VL.wStay, VL.wNew, VL.wPar, VL.wAug, VL.wDrop, VL.wRet, VL.wRetN, VL.wRet0, VL.wIfS, VL.wBrk, VL.wCnt, VL.wGt, VL.wGs, VL.wCB, VL.wCBN, VL.wCall, VL.wCallN, VL.wCallIo, VL.wCallIoN, VL.wCallK, VL.wIsi, VL.wIsi2, VL.wApp, VL.wExt, VL.wIns, VL.wSetIt, VL.wNoPart, VL.wPart, VL.wSl, VL.wSlN, VL.wChain, VL.wNeg, VL.wDnew, VL.wDput, VL.wDget, VL.wDin, VL.wDnin, VL.wIndex, VL.wRev, VL.wParNE, VL.wParEN, VL.wPar3, VL.wYes, VL.wSeqOf, VL.wRng1, VL.wRng2, VL.oI, VL.oI0, VL.oLt, VL.oLe, VL.oGt, VL.oGe, VL.oSub, VL.oMul, VL.oFdiv, VL.oMod, VL.oPow, VL.oShl', VL.oAbs, VL.oMax2, VL.oMin2, VL.oGcd, VL.atI_0, VL.atI_1, VL.atI_2, VL.ixN_20, VL.ixN_21, and_assoc, VL.shp_int, VL.shp_bool, VL.shp_none, VL.eqv_int, VL.eqv_bool, VL.isiD, VL.tyD, String.reduceBEq, Bool.not_true, Bool.not_false, Bool.and_true, Bool.and_false, Bool.true_and, Bool.false_and, Bool.or_true, Bool.or_false, Bool.true_or, Bool.false_or, decide_true, decide_false, Bool.not_eq_true', Bool.not_eq_eq_eq_not, decide_eq_true_eq, decide_eq_false_iff_not, VL.oInt1, VL.oInt2, VL.oLen, VL.oToInt, VL.oAdd, VL.oEq, VL.oNe, VL.oIsN, VL.oIn, VL.itemD, VL.isN, VL.der, VL.ders, VL.dats, VL.ioA, VL.endsV, VL.retE, VL.keepC, Option.map, List.range_succ, List.range_zero, List.map_cons, List.map_nil, List.map_append, List.nil_append, List.cons_append, List.append_nil, List.replicate_zero, List.replicate_succ, List.length_cons, List.length_nil, Nat.sub_self, List.getElem?_cons_zero, List.getElem?_cons_succ, List.set_cons_zero, List.set_cons_succ, Option.some.injEq, exists_eq_left', exists_eq_left, exists_eq_right, exists_and_left, exists_and_right, and_true, true_and, CV.d.injEq, CV.loc.injEq, Cell.lst.injEq, Cell.dat.injEq, Cell.dic.injEq, PyData.int.injEq, PyData.bool.injEq, PyData.list.injEq, PyData.tuple.injEq, PyData.str.injEq, reduceCtorEq, false_and, and_false, exists_false, false_or, or_false, if_true, if_false, reduceIte, Bool.false_eq_true, Nat.reduceAdd, Nat.reduceSub, Nat.succ_sub_succ, Nat.zero_add, VL.gP, List.filterMap_cons, List.filterMap_nil, List.cons.injEq, VL.wDisp0, VL.wDisp, VL.wPairs, VL.oLcm, VL.wPop, VL.wRevM, VL.wClearM, VL.wTupRg, VL.wListRg, VL.wR1, VL.wR2, VL.wRevN, VL.oRepT, VL.oRepL, S__law_by_rows]
        refine ⟨M, rfl, n, rfl, ok, n7, ?_⟩
        rw [hk2]
        clear hk2 k2
        have okl := ok_two (ok_leaf ok n 5)
        simp only [VL.wSeq, VL.wNext, VL.wNever, VL.wAsg, VL.wSet, VL.wVar, VL.wFrz, VL.wC, VL.wOp, VL.wTest, VL.wNotT, VL.wAndT, VL.wOrT, VL.wAnd, VL.wOr, VL.wNot, VL.wIf, VL.wNil, VL.wCons, VL.wTup, VL.wLst, VL.wStay, VL.wNew, VL.wPar, VL.wAug, VL.wDrop, VL.wRet, VL.wRetN, VL.wRet0, VL.wIfS, VL.wBrk, VL.wCnt, VL.wGt, VL.wGs, VL.wCB, VL.wCBN, VL.wCall, VL.wCallN, VL.wCallIo, VL.wCallIoN, VL.wCallK, VL.wIsi, VL.wIsi2, VL.wApp, VL.wExt, VL.wIns, VL.wSetIt, VL.wNoPart, VL.wPart, VL.wSl, VL.wSlN, VL.wChain, VL.wNeg, VL.wDnew, VL.wDput, VL.wDget, VL.wDin, VL.wDnin, VL.wIndex, VL.wRev, VL.wParNE, VL.wParEN, VL.wPar3, VL.wYes, VL.wSeqOf, VL.wRng1, VL.wRng2, VL.oI, VL.oI0, VL.oLt, VL.oLe, VL.oGt, VL.oGe, VL.oSub, VL.oMul, VL.oFdiv, VL.oMod, VL.oPow, VL.oShl', VL.oAbs, VL.oMax2, VL.oMin2, VL.oGcd, VL.atI_0, VL.atI_1, VL.atI_2, VL.ixN_20, VL.ixN_21, and_assoc, VL.shp_int, VL.shp_bool, VL.shp_none, VL.eqv_int, VL.eqv_bool, VL.isiD, VL.tyD, String.reduceBEq, Bool.not_true, Bool.not_false, Bool.and_true, Bool.and_false, Bool.true_and, Bool.false_and, Bool.or_true, Bool.or_false, Bool.true_or, Bool.false_or, decide_true, decide_false, Bool.not_eq_true', Bool.not_eq_eq_eq_not, decide_eq_true_eq, decide_eq_false_iff_not, VL.oInt1, VL.oInt2, VL.oLen, VL.oToInt, VL.oAdd, VL.oEq, VL.oNe, VL.oIsN, VL.oIn, VL.itemD, VL.isN, VL.der, VL.ders, VL.dats, VL.ioA, VL.endsV, VL.retE, VL.keepC, Option.map, List.range_succ, List.range_zero, List.map_cons, List.map_nil, List.map_append, List.nil_append, List.cons_append, List.append_nil, List.replicate_zero, List.replicate_succ, List.length_cons, List.length_nil, Nat.sub_self, List.getElem?_cons_zero, List.getElem?_cons_succ, List.set_cons_zero, List.set_cons_succ, Option.some.injEq, exists_eq_left', exists_eq_left, exists_eq_right, exists_and_left, exists_and_right, and_true, true_and, CV.d.injEq, CV.loc.injEq, Cell.lst.injEq, Cell.dat.injEq, Cell.dic.injEq, PyData.int.injEq, PyData.bool.injEq, PyData.list.injEq, PyData.tuple.injEq, PyData.str.injEq, reduceCtorEq, false_and, and_false, exists_false, false_or, or_false, if_true, if_false, reduceIte, Bool.false_eq_true, Nat.reduceAdd, Nat.reduceSub, Nat.succ_sub_succ, Nat.zero_add, VL.gP, List.filterMap_cons, List.filterMap_nil, List.cons.injEq, VL.wDisp0, VL.wDisp, VL.wPairs, VL.oLcm, VL.wPop, VL.wRevM, VL.wClearM, VL.wTupRg, VL.wListRg, VL.wR1, VL.wR2, VL.wRevN, VL.oRepT, VL.oRepL, S_leaves_of, S__law_same]
        exact ⟨M, rfl, n, rfl, ok, by omega, M, rfl, n, rfl, ok, by omega, by decide, by decide, rfl, rfl, okl, _, rfl⟩
      · rintro ρ ⟨c5, c8, rfl⟩
        show k1 _
        rw [hk1]
        clear hk1 k1 hB B
        refine seq_gen fun k1 hk1 => ?_
        simp only [VL.wSeq, VL.wNext, VL.wNever, VL.wAsg, VL.wSet, VL.wVar, VL.wFrz, VL.wC, VL.wOp, VL.wTest, VL.wNotT, VL.wAndT, VL.wOrT, VL.wAnd, VL.wOr, VL.wNot, VL.wIf, VL.wNil, VL.wCons, VL.wTup, VL.wLst, VL.wStay, VL.wNew, VL.wPar, VL.wAug, VL.wDrop, VL.wRet, VL.wRetN, VL.wRet0, VL.wIfS, VL.wBrk, VL.wCnt, VL.wGt, VL.wGs, VL.wCB, VL.wCBN, VL.wCall, VL.wCallN, VL.wCallIo, VL.wCallIoN, VL.wCallK, VL.wIsi, VL.wIsi2, VL.wApp, VL.wExt, VL.wIns, VL.wSetIt, VL.wNoPart, VL.wPart, VL.wSl, VL.wSlN, VL.wChain, VL.wNeg, VL.wDnew, VL.wDput, VL.wDget, VL.wDin, VL.wDnin, VL.wIndex, VL.wRev, VL.wParNE, VL.wParEN, VL.wPar3, VL.wYes, VL.wSeqOf, VL.wRng1, VL.wRng2, VL.oI, VL.oI0, VL.oLt, VL.oLe, VL.oGt, VL.oGe, VL.oSub, VL.oMul, VL.oFdiv, VL.oMod, VL.oPow, VL.oShl', VL.oAbs, VL.oMax2, VL.oMin2, VL.oGcd, VL.atI_0, VL.atI_1, VL.atI_2, VL.ixN_20, VL.ixN_21, and_assoc, VL.shp_int, VL.shp_bool, VL.shp_none, VL.eqv_int, VL.eqv_bool, VL.isiD, VL.tyD, String.reduceBEq, Bool.not_true, Bool.not_false, Bool.and_true, Bool.and_false, Bool.true_and, Bool.false_and, Bool.or_true, Bool.or_false, Bool.true_or, Bool.false_or, decide_true, decide_false, Bool.not_eq_true', Bool.not_eq_eq_eq_not, decide_eq_true_eq, decide_eq_false_iff_not, VL.oInt1, VL.oInt2, VL.oLen, VL.oToInt, VL.oAdd, VL.oEq, VL.oNe, VL.oIsN, VL.oIn, VL.itemD, VL.isN, VL.der, VL.ders, VL.dats, VL.ioA, VL.endsV, VL.retE, VL.keepC, Option.map, List.range_succ, List.range_zero, List.map_cons, List.map_nil, List.map_append, List.nil_append, List.cons_append, List.append_nil, List.replicate_zero, List.replicate_succ, List.length_cons, List.length_nil, Nat.sub_self, List.getElem?_cons_zero, List.getElem?_cons_succ, List.set_cons_zero, List.set_cons_succ, Option.some.injEq, exists_eq_left', exists_eq_left, exists_eq_right, exists_and_left, exists_and_right, and_true, true_and, CV.d.injEq, CV.loc.injEq, Cell.lst.injEq, Cell.dat.injEq, Cell.dic.injEq, PyData.int.injEq, PyData.bool.injEq, PyData.list.injEq, PyData.tuple.injEq, PyData.str.injEq, reduceCtorEq, false_and, and_false, exists_false, false_or, or_false, if_true, if_false, reduceIte, Bool.false_eq_true, Nat.reduceAdd, Nat.reduceSub, Nat.succ_sub_succ, Nat.zero_add, VL.gP, List.filterMap_cons, List.filterMap_nil, List.cons.injEq, VL.wDisp0, VL.wDisp, VL.wPairs, VL.oLcm, VL.wPop, VL.wRevM, VL.wClearM, VL.wTupRg, VL.wListRg, VL.wR1, VL.wR2, VL.wRevN, VL.oRepT, VL.oRepL, S__law_take, potC, Prod.mk.injEq]
        refine ⟨pot, rfl, P, by decide, by decide, fun n pot P hn => ?_⟩
        rw [hk1]
        clear hk1 k1
        refine seq_gen fun k1 hk1 => ?_
        simp only [VL.wSeq, VL.wNext, VL.wNever, VL.wAsg, VL.wSet, VL.wVar, VL.wFrz, VL.wC, VL.wOp, VL.wTest, VL.wNotT, VL.wAndT, VL.wOrT, VL.wAnd, VL.wOr, VL.wNot, VL.wIf, VL.wNil, VL.wCons, VL.wTup, VL.wLst, VL.wStay, VL.wNew, VL.wPar, VL.wAug, VL.wDrop, VL.wRet, VL.wRetN, VL.wRet0, VL.wIfS, VL.wBrk, VL.wCnt, VL.wGt, VL.wGs, VL.wCB, VL.wCBN, VL.wCall, VL.wCallN, VL.wCallIo, VL.wCallIoN, VL.wCallK, VL.wIsi, VL.wIsi2, VL.wApp, VL.wExt, VL.wIns, VL.wSetIt, VL.wNoPart, VL.wPart, VL.wSl, VL.wSlN, VL.wChain, VL.wNeg, VL.wDnew, VL.wDput, VL.wDget, VL.wDin, VL.wDnin, VL.wIndex, VL.wRev, VL.wParNE, VL.wParEN, VL.wPar3, VL.wYes, VL.wSeqOf, VL.wRng1, VL.wRng2, VL.oI, VL.oI0, VL.oLt, VL.oLe, VL.oGt, VL.oGe, VL.oSub, VL.oMul, VL.oFdiv, VL.oMod, VL.oPow, VL.oShl', VL.oAbs, VL.oMax2, VL.oMin2, VL.oGcd, VL.atI_0, VL.atI_1, VL.atI_2, VL.ixN_20, VL.ixN_21, and_assoc, VL.shp_int, VL.shp_bool, VL.shp_none, VL.eqv_int, VL.eqv_bool, VL.isiD, VL.tyD, String.reduceBEq, Bool.not_true, Bool.not_false, Bool.and_true, Bool.and_false, Bool.true_and, Bool.false_and, Bool.or_true, Bool.or_false, Bool.true_or, Bool.false_or, decide_true, decide_false, Bool.not_eq_true', Bool.not_eq_eq_eq_not, decide_eq_true_eq, decide_eq_false_iff_not, VL.oInt1, VL.oInt2, VL.oLen, VL.oToInt, VL.oAdd, VL.oEq, VL.oNe, VL.oIsN, VL.oIn, VL.itemD, VL.isN, VL.der, VL.ders, VL.dats, VL.ioA, VL.endsV, VL.retE, VL.keepC, Option.map, List.range_succ, List.range_zero, List.map_cons, List.map_nil, List.map_append, List.nil_append, List.cons_append, List.append_nil, List.replicate_zero, List.replicate_succ, List.length_cons, List.length_nil, Nat.sub_self, List.getElem?_cons_zero, List.getElem?_cons_succ, List.set_cons_zero, List.set_cons_succ, Option.some.injEq, exists_eq_left', exists_eq_left, exists_eq_right, exists_and_left, exists_and_right, and_true, true_and, CV.d.injEq, CV.loc.injEq, Cell.lst.injEq, Cell.dat.injEq, Cell.dic.injEq, PyData.int.injEq, PyData.bool.injEq, PyData.list.injEq, PyData.tuple.injEq, PyData.str.injEq, reduceCtorEq, false_and, and_false, exists_false, false_or, or_false, if_true, if_false, reduceIte, Bool.false_eq_true, Nat.reduceAdd, Nat.reduceSub, Nat.succ_sub_succ, Nat.zero_add, VL.gP, List.filterMap_cons, List.filterMap_nil, List.cons.injEq, VL.wDisp0, VL.wDisp, VL.wPairs, VL.oLcm, VL.wPop, VL.wRevM, VL.wClearM, VL.wTupRg, VL.wListRg, VL.wR1, VL.wR2, VL.wRevN, VL.oRepT, VL.oRepL, S__law_counts]
        refine ⟨M, rfl, n, rfl, ok, by omega, ?_⟩
        rw [hk1]
        clear hk1 k1
        unfold wIfS wNotT wTest
        refine same_io (d := leafD M n) (fun P h => ?_) (fun P h => ?_) (ok_leaf ok n 6) ?_
        · simp only [VL.wSeq, VL.wNext, VL.wNever, VL.wAsg, VL.wSet, VL.wVar, VL.wFrz, VL.wC, VL.wOp, VL.wTest, VL.wNotT, VL.wAndT, VL.wOrT, VL.wAnd, VL.wOr, VL.wNot, VL.wIf, VL.wNil, VL.wCons, VL.wTup, VL.wLst, VL.wStay, VL.wNew, VL.wPar, VL.wAug, VL.wDrop, VL.wRet, VL.wRetN, VL.wRet0, VL.wIfS, VL.wBrk, VL.wCnt, VL.wGt, VL.wGs, VL.wCB, VL.wCBN, VL.wCall, VL.wCallN, VL.wCallIo, VL.wCallIoN, VL.wCallK, VL.wIsi, VL.wIsi2, VL.wApp, VL.wExt, VL.wIns, VL.wSetIt, VL.wNoPart, VL.wPart, VL.wSl, VL.wSlN, VL.wChain, VL.wNeg, VL.wDnew, VL.wDput, VL.wDget, VL.wDin, VL.wDnin, VL.wIndex, VL.wRev, VL.wParNE, VL.wParEN, VL.wPar3, VL.wYes, VL.wSeqOf, VL.wRng1, VL.wRng2, VL.oI, VL.oI0, VL.oLt, VL.oLe, VL.oGt, VL.oGe, VL.oSub, VL.oMul, VL.oFdiv, VL.oMod, VL.oPow, VL.oShl', VL.oAbs, VL.oMax2, VL.oMin2, VL.oGcd, VL.atI_0, VL.atI_1, VL.atI_2, VL.ixN_20, VL.ixN_21, and_assoc, VL.shp_int, VL.shp_bool, VL.shp_none, VL.eqv_int, VL.eqv_bool, VL.isiD, VL.tyD, String.reduceBEq, Bool.not_true, Bool.not_false, Bool.and_true, Bool.and_false, Bool.true_and, Bool.false_and, Bool.or_true, Bool.or_false, Bool.true_or, Bool.false_or, decide_true, decide_false, Bool.not_eq_true', Bool.not_eq_eq_eq_not, decide_eq_true_eq, decide_eq_false_iff_not, VL.oInt1, VL.oInt2, VL.oLen, VL.oToInt, VL.oAdd, VL.oEq, VL.oNe, VL.oIsN, VL.oIn, VL.itemD, VL.isN, VL.der, VL.ders, VL.dats, VL.ioA, VL.endsV, VL.retE, VL.keepC, Option.map, List.range_succ, List.range_zero, List.map_cons, List.map_nil, List.map_append, List.nil_append, List.cons_append, List.append_nil, List.replicate_zero, List.replicate_succ, List.length_cons, List.length_nil, Nat.sub_self, List.getElem?_cons_zero, List.getElem?_cons_succ, List.set_cons_zero, List.set_cons_succ, Option.some.injEq, exists_eq_left', exists_eq_left, exists_eq_right, exists_and_left, exists_and_right, and_true, true_and, CV.d.injEq, CV.loc.injEq, Cell.lst.injEq, Cell.dat.injEq, Cell.dic.injEq, PyData.int.injEq, PyData.bool.injEq, PyData.list.injEq, PyData.tuple.injEq, PyData.str.injEq, reduceCtorEq, false_and, and_false, exists_false, false_or, or_false, if_true, if_false, reduceIte, Bool.false_eq_true, Nat.reduceAdd, Nat.reduceSub, Nat.succ_sub_succ, Nat.zero_add, VL.gP, List.filterMap_cons, List.filterMap_nil, List.cons.injEq, VL.wDisp0, VL.wDisp, VL.wPairs, VL.oLcm, VL.wPop, VL.wRevM, VL.wClearM, VL.wTupRg, VL.wListRg, VL.wR1, VL.wR2, VL.wRevN, VL.oRepT, VL.oRepL, S_leaves_of]
          exact ⟨M, rfl, n, rfl, ok, by omega, h⟩
        · unfold wCB wStay wLc
          simp only [VL.wSeq, VL.wNext, VL.wNever, VL.wAsg, VL.wSet, VL.wVar, VL.wFrz, VL.wC, VL.wOp, VL.wTest, VL.wNotT, VL.wAndT, VL.wOrT, VL.wAnd, VL.wOr, VL.wNot, VL.wIf, VL.wNil, VL.wCons, VL.wTup, VL.wLst, VL.wStay, VL.wNew, VL.wPar, VL.wAug, VL.wDrop, VL.wRet, VL.wRetN, VL.wRet0, VL.wIfS, VL.wBrk, VL.wCnt, VL.wGt, VL.wGs, VL.wCB, VL.wCBN, VL.wCall, VL.wCallN, VL.wCallIo, VL.wCallIoN, VL.wCallK, VL.wIsi, VL.wIsi2, VL.wApp, VL.wExt, VL.wIns, VL.wSetIt, VL.wNoPart, VL.wPart, VL.wSl, VL.wSlN, VL.wChain, VL.wNeg, VL.wDnew, VL.wDput, VL.wDget, VL.wDin, VL.wDnin, VL.wIndex, VL.wRev, VL.wParNE, VL.wParEN, VL.wPar3, VL.wYes, VL.wSeqOf, VL.wRng1, VL.wRng2, VL.oI, VL.oI0, VL.oLt, VL.oLe, VL.oGt, VL.oGe, VL.oSub, VL.oMul, VL.oFdiv, VL.oMod, VL.oPow, VL.oShl', VL.oAbs, VL.oMax2, VL.oMin2, VL.oGcd, VL.atI_0, VL.atI_1, VL.atI_2, VL.ixN_20, VL.ixN_21, and_assoc, VL.shp_int, VL.shp_bool, VL.shp_none, VL.eqv_int, VL.eqv_bool, VL.isiD, VL.tyD, String.reduceBEq, Bool.not_true, Bool.not_false, Bool.and_true, Bool.and_false, Bool.true_and, Bool.false_and, Bool.or_true, Bool.or_false, Bool.true_or, Bool.false_or, decide_true, decide_false, Bool.not_eq_true', Bool.not_eq_eq_eq_not, decide_eq_true_eq, decide_eq_false_iff_not, VL.oInt1, VL.oInt2, VL.oLen, VL.oToInt, VL.oAdd, VL.oEq, VL.oNe, VL.oIsN, VL.oIn, VL.itemD, VL.isN, VL.der, VL.ders, VL.dats, VL.ioA, VL.endsV, VL.retE, VL.keepC, Option.map, List.range_succ, List.range_zero, List.map_cons, List.map_nil, List.map_append, List.nil_append, List.cons_append, List.append_nil, List.replicate_zero, List.replicate_succ, List.length_cons, List.length_nil, Nat.sub_self, List.getElem?_cons_zero, List.getElem?_cons_succ, List.set_cons_zero, List.set_cons_succ, Option.some.injEq, exists_eq_left', exists_eq_left, exists_eq_right, exists_and_left, exists_and_right, and_true, true_and, CV.d.injEq, CV.loc.injEq, Cell.lst.injEq, Cell.dat.injEq, Cell.dic.injEq, PyData.int.injEq, PyData.bool.injEq, PyData.list.injEq, PyData.tuple.injEq, PyData.str.injEq, reduceCtorEq, false_and, and_false, exists_false, false_or, or_false, if_true, if_false, reduceIte, Bool.false_eq_true, Nat.reduceAdd, Nat.reduceSub, Nat.succ_sub_succ, Nat.zero_add, VL.gP, List.filterMap_cons, List.filterMap_nil, List.cons.injEq, VL.wDisp0, VL.wDisp, VL.wPairs, VL.oLcm, VL.wPop, VL.wRevM, VL.wClearM, VL.wTupRg, VL.wListRg, VL.wR1, VL.wR2, VL.wRevN, VL.oRepT, VL.oRepL, wipeE, mcD]
          have n6 := ok.n6
          refine ⟨⟨by omega, by omega⟩, fun i acc ρ => acc = (List.range i).map (fun i => PyData.int (getK (cnts M n) ⟨false, i⟩ : Nat)) ∧ ρ = [.dat (.list (ns.map .int)), .lst false (pot.map .int), .dat (.int turn), .dat (.tuple [.int M.n, M.b.d, rsD M.rs]), c4, .dat (.int n), .dat (dttD (kvK (cnts M n))), c7, c8, c9, c10, .un], ⟨rfl, rfl⟩, ?_, ?_⟩
          · rintro i acc ρ d ⟨rfl, rfl⟩ hx
            obtain ⟨rfl, hi⟩ := rng_at hx
            refine gget_is (kvs := cnts M n) (i := i) rfl (fun P h => var_dat rfl h) ?_
            refine ⟨_, rfl, small_size (by rw [List.length_map, List.length_range]; omega), ?_, rfl⟩
            rw [List.range_succ, List.map_append]
            rfl
          · rintro acc ρ ⟨rfl, rfl⟩
            rw [rng_len]
            exact h
        · simp only [VL.wSeq, VL.wNext, VL.wNever, VL.wAsg, VL.wSet, VL.wVar, VL.wFrz, VL.wC, VL.wOp, VL.wTest, VL.wNotT, VL.wAndT, VL.wOrT, VL.wAnd, VL.wOr, VL.wNot, VL.wIf, VL.wNil, VL.wCons, VL.wTup, VL.wLst, VL.wStay, VL.wNew, VL.wPar, VL.wAug, VL.wDrop, VL.wRet, VL.wRetN, VL.wRet0, VL.wIfS, VL.wBrk, VL.wCnt, VL.wGt, VL.wGs, VL.wCB, VL.wCBN, VL.wCall, VL.wCallN, VL.wCallIo, VL.wCallIoN, VL.wCallK, VL.wIsi, VL.wIsi2, VL.wApp, VL.wExt, VL.wIns, VL.wSetIt, VL.wNoPart, VL.wPart, VL.wSl, VL.wSlN, VL.wChain, VL.wNeg, VL.wDnew, VL.wDput, VL.wDget, VL.wDin, VL.wDnin, VL.wIndex, VL.wRev, VL.wParNE, VL.wParEN, VL.wPar3, VL.wYes, VL.wSeqOf, VL.wRng1, VL.wRng2, VL.oI, VL.oI0, VL.oLt, VL.oLe, VL.oGt, VL.oGe, VL.oSub, VL.oMul, VL.oFdiv, VL.oMod, VL.oPow, VL.oShl', VL.oAbs, VL.oMax2, VL.oMin2, VL.oGcd, VL.atI_0, VL.atI_1, VL.atI_2, VL.ixN_20, VL.ixN_21, and_assoc, VL.shp_int, VL.shp_bool, VL.shp_none, VL.eqv_int, VL.eqv_bool, VL.isiD, VL.tyD, String.reduceBEq, Bool.not_true, Bool.not_false, Bool.and_true, Bool.and_false, Bool.true_and, Bool.false_and, Bool.or_true, Bool.or_false, Bool.true_or, Bool.false_or, decide_true, decide_false, Bool.not_eq_true', Bool.not_eq_eq_eq_not, decide_eq_true_eq, decide_eq_false_iff_not, VL.oInt1, VL.oInt2, VL.oLen, VL.oToInt, VL.oAdd, VL.oEq, VL.oNe, VL.oIsN, VL.oIn, VL.itemD, VL.isN, VL.der, VL.ders, VL.dats, VL.ioA, VL.endsV, VL.retE, VL.keepC, Option.map, List.range_succ, List.range_zero, List.map_cons, List.map_nil, List.map_append, List.nil_append, List.cons_append, List.append_nil, List.replicate_zero, List.replicate_succ, List.length_cons, List.length_nil, Nat.sub_self, List.getElem?_cons_zero, List.getElem?_cons_succ, List.set_cons_zero, List.set_cons_succ, Option.some.injEq, exists_eq_left', exists_eq_left, exists_eq_right, exists_and_left, exists_and_right, and_true, true_and, CV.d.injEq, CV.loc.injEq, Cell.lst.injEq, Cell.dat.injEq, Cell.dic.injEq, PyData.int.injEq, PyData.bool.injEq, PyData.list.injEq, PyData.tuple.injEq, PyData.str.injEq, reduceCtorEq, false_and, and_false, exists_false, false_or, or_false, if_true, if_false, reduceIte, Bool.false_eq_true, Nat.reduceAdd, Nat.reduceSub, Nat.succ_sub_succ, Nat.zero_add, VL.gP, List.filterMap_cons, List.filterMap_nil, List.cons.injEq, VL.wDisp0, VL.wDisp, VL.wPairs, VL.oLcm, VL.wPop, VL.wRevM, VL.wClearM, VL.wTupRg, VL.wListRg, VL.wR1, VL.wR2, VL.wRevN, VL.oRepT, VL.oRepL]
          exact ⟨pot, P, rfl, _, rfl⟩
  · rintro ρ ⟨pot, c2, c3, c4, c5, c6, c7, c8, c9, c10, P, rfl⟩
    rw [hk]
    simp only [VL.wSeq, VL.wNext, VL.wNever, VL.wAsg, VL.wSet, VL.wVar, VL.wFrz, VL.wC, VL.wOp, VL.wTest, VL.wNotT, VL.wAndT, VL.wOrT, VL.wAnd, VL.wOr, VL.wNot, VL.wIf, VL.wNil, VL.wCons, VL.wTup, VL.wLst, VL.wStay, VL.wNew, VL.wPar, VL.wAug, VL.wDrop, VL.wRet, VL.wRetN, VL.wRet0, VL.wIfS, VL.wBrk, VL.wCnt, VL.wGt, VL.wGs, VL.wCB, VL.wCBN, VL.wCall, VL.wCallN, VL.wCallIo, VL.wCallIoN, VL.wCallK, VL.wIsi, VL.wIsi2, VL.wApp, VL.wExt, VL.wIns, VL.wSetIt, VL.wNoPart, VL.wPart, VL.wSl, VL.wSlN, VL.wChain, VL.wNeg, VL.wDnew, VL.wDput, VL.wDget, VL.wDin, VL.wDnin, VL.wIndex, VL.wRev, VL.wParNE, VL.wParEN, VL.wPar3, VL.wYes, VL.wSeqOf, VL.wRng1, VL.wRng2, VL.oI, VL.oI0, VL.oLt, VL.oLe, VL.oGt, VL.oGe, VL.oSub, VL.oMul, VL.oFdiv, VL.oMod, VL.oPow, VL.oShl', VL.oAbs, VL.oMax2, VL.oMin2, VL.oGcd, VL.atI_0, VL.atI_1, VL.atI_2, VL.ixN_20, VL.ixN_21, and_assoc, VL.shp_int, VL.shp_bool, VL.shp_none, VL.eqv_int, VL.eqv_bool, VL.isiD, VL.tyD, String.reduceBEq, Bool.not_true, Bool.not_false, Bool.and_true, Bool.and_false, Bool.true_and, Bool.false_and, Bool.or_true, Bool.or_false, Bool.true_or, Bool.false_or, decide_true, decide_false, Bool.not_eq_true', Bool.not_eq_eq_eq_not, decide_eq_true_eq, decide_eq_false_iff_not, VL.oInt1, VL.oInt2, VL.oLen, VL.oToInt, VL.oAdd, VL.oEq, VL.oNe, VL.oIsN, VL.oIn, VL.itemD, VL.isN, VL.der, VL.ders, VL.dats, VL.ioA, VL.endsV, VL.retE, VL.keepC, Option.map, List.range_succ, List.range_zero, List.map_cons, List.map_nil, List.map_append, List.nil_append, List.cons_append, List.append_nil, List.replicate_zero, List.replicate_succ, List.length_cons, List.length_nil, Nat.sub_self, List.getElem?_cons_zero, List.getElem?_cons_succ, List.set_cons_zero, List.set_cons_succ, Option.some.injEq, exists_eq_left', exists_eq_left, exists_eq_right, exists_and_left, exists_and_right, and_true, true_and, CV.d.injEq, CV.loc.injEq, Cell.lst.injEq, Cell.dat.injEq, Cell.dic.injEq, PyData.int.injEq, PyData.bool.injEq, PyData.list.injEq, PyData.tuple.injEq, PyData.str.injEq, reduceCtorEq, false_and, and_false, exists_false, false_or, or_false, if_true, if_false, reduceIte, Bool.false_eq_true, Nat.reduceAdd, Nat.reduceSub, Nat.succ_sub_succ, Nat.zero_add, VL.gP, List.filterMap_cons, List.filterMap_nil, List.cons.injEq, VL.wDisp0, VL.wDisp, VL.wPairs, VL.oLcm, VL.wPop, VL.wRevM, VL.wClearM, VL.wTupRg, VL.wListRg, VL.wR1, VL.wR2, VL.wRevN, VL.oRepT, VL.oRepL]
    exact h
theorem law_top (ns : List Int) (h : ns.length ≤ 63) : S_law [.dat (.list (ns.map .int))] fun rv _ => rv = .d (.bool true) := ⟨ns, rfl, h, rfl⟩
end K13
end
section
set_option autoImplicit false
set_option maxRecDepth 100000
set_option maxHeartbeats 4000000
namespace K13
open PySem PySem.Spec PyProof.Rows L2 VL
section
variable {P : Program} {w : World} {K : PySem.W.Frag} {mg : Str → Option Value} {base : Heap} {ts : List Addr}
theorem ok__law_take {fa : Addr} {fd : FuncData} (F : Fun K "_law_take" "_law_take" s__law_take fa fd) (hm : mg "_law_take" = some (.ref fa)) (T : Tx mg) : FOk P w K ts mg base 1 2 "_law_take" fa fd ["pot", "many"] S__law_take :=
  ⟨fnV F sc__law_take rfl (by decide) (fun cdv A outer s H E as hr => d__law_take T  hr) h__law_take, hm, F.kp, F.binds (ps := ["pot", "many"]) fun _ _ _ _ _ _ us hl => match us, hl with | [_, _], _ => rfl⟩
theorem ok__law_place {fa : Addr} {fd : FuncData} (F : Fun K "_law_place" "_law_place" s__law_place fa fd) (hm : mg "_law_place" = some (.ref fa)) (T : Tx mg) {f__law_take : Addr} {fd__law_take : FuncData} (c__law_take : FOk P w K ts mg base 1 2 "_law_take" f__law_take fd__law_take ["pot", "many"] S__law_take) : FOk P w K ts mg base 2 4 "_law_place" fa fd ["pot", "n", "many", "weight"] S__law_place :=
  ⟨fnV F sc__law_place rfl (by decide) (fun cdv A outer s H E as hr => d__law_place T c__law_take hr) h__law_place, hm, F.kp, F.binds (ps := ["pot", "n", "many", "weight"]) fun _ _ _ _ _ _ us hl => match us, hl with | [_, _, _, _], _ => rfl⟩
theorem ok__law_machine {fa : Addr} {fd : FuncData} (F : Fun K "_law_machine" "_law_machine" s__law_machine fa fd) (hm : mg "_law_machine" = some (.ref fa)) (T : Tx mg) {f__law_take : Addr} {fd__law_take : FuncData} (c__law_take : FOk P w K ts mg base 1 2 "_law_take" f__law_take fd__law_take ["pot", "many"] S__law_take) {f__law_place : Addr} {fd__law_place : FuncData} (c__law_place : FOk P w K ts mg base 2 4 "_law_place" f__law_place fd__law_place ["pot", "n", "many", "weight"] S__law_place) : FOk P w K ts mg base 3 3 "_law_machine" fa fd ["pot", "things", "states"] S__law_machine :=
  ⟨fnV F sc__law_machine rfl (by decide) (fun cdv A outer s H E as hr => d__law_machine T c__law_take c__law_place hr) h__law_machine, hm, F.kp, F.binds (ps := ["pot", "things", "states"]) fun _ _ _ _ _ _ us hl => match us, hl with | [_, _, _], _ => rfl⟩
theorem ok__law_counts {fa : Addr} {fd : FuncData} (F : Fun K "_law_counts" "_law_counts" s__law_counts fa fd) (hm : mg "_law_counts" = some (.ref fa)) (T : Tx mg) : FOk P w K ts mg base 1 2 "_law_counts" fa fd ["machine", "k"] S__law_counts :=
  ⟨fnV F sc__law_counts rfl (by decide) (fun cdv A outer s H E as hr => d__law_counts T  hr) h__law_counts, hm, F.kp, F.binds (ps := ["machine", "k"]) fun _ _ _ _ _ _ us hl => match us, hl with | [_, _], _ => rfl⟩
theorem ok__law_come {fa : Addr} {fd : FuncData} (F : Fun K "_law_come" "_law_come" s__law_come fa fd) (hm : mg "_law_come" = some (.ref fa)) (T : Tx mg) : FOk P w K ts mg base 1 2 "_law_come" fa fd ["machine", "tosses"] S__law_come :=
  ⟨fnV F sc__law_come rfl (by decide) (fun cdv A outer s H E as hr => d__law_come T  hr) h__law_come, hm, F.kp, F.binds (ps := ["machine", "tosses"]) fun _ _ _ _ _ _ us hl => match us, hl with | [_, _], _ => rfl⟩
theorem ok__law_by_rows {fa : Addr} {fd : FuncData} (F : Fun K "_law_by_rows" "_law_by_rows" s__law_by_rows fa fd) (hm : mg "_law_by_rows" = some (.ref fa)) (T : Tx mg) {f__law_come : Addr} {fd__law_come : FuncData} (c__law_come : FOk P w K ts mg base 1 2 "_law_come" f__law_come fd__law_come ["machine", "tosses"] S__law_come) : FOk P w K ts mg base 2 2 "_law_by_rows" fa fd ["machine", "k"] S__law_by_rows :=
  ⟨fnV F sc__law_by_rows rfl (by decide) (fun cdv A outer s H E as hr => d__law_by_rows T c__law_come hr) h__law_by_rows, hm, F.kp, F.binds (ps := ["machine", "k"]) fun _ _ _ _ _ _ us hl => match us, hl with | [_, _], _ => rfl⟩
theorem ok__law_same {fa : Addr} {fd : FuncData} (F : Fun K "_law_same" "_law_same" s__law_same fa fd) (hm : mg "_law_same" = some (.ref fa)) (T : Tx mg) : ∀ j : Nat, FOk P w K ts mg base (1 + j) 2 "_law_same" fa fd ["got", "due"] (S__law_same j)
  | 0 => ⟨no_spec F sc__law_same rfl (by decide) (fun ρ Q h => z__law_same h), hm, F.kp, F.binds (ps := ["got", "due"]) fun _ _ _ _ _ _ us hl => match us, hl with | [_, _], _ => rfl⟩
  | j + 1 => by
    have c__law_same := ok__law_same F hm T  j
    exact ⟨fnV F sc__law_same rfl (by decide) (fun cdv A outer s H E as hr => d__law_same T c__law_same hr) (h__law_same j), hm, F.kp, F.binds (ps := ["got", "due"]) fun _ _ _ _ _ _ us hl => match us, hl with | [_, _], _ => rfl⟩
theorem ok__law_walk {fa : Addr} {fd : FuncData} (F : Fun K "_law_walk" "_law_walk" s__law_walk fa fd) (hm : mg "_law_walk" = some (.ref fa)) (T : Tx mg) : FOk P w K ts mg base 1 2 "_law_walk" fa fd ["machine", "tosses"] S__law_walk :=
  ⟨fnV F sc__law_walk rfl (by decide) (fun cdv A outer s H E as hr => d__law_walk T  hr) h__law_walk, hm, F.kp, F.binds (ps := ["machine", "tosses"]) fun _ _ _ _ _ _ us hl => match us, hl with | [_, _], _ => rfl⟩
theorem ok_is_integer {fa : Addr} {fd : FuncData} (F : Fun K "is_integer" "is_integer" s_is_integer fa fd) (hm : mg "is_integer" = some (.ref fa)) (T : Tx mg) : FOk P w K ts mg base 1 1 "is_integer" fa fd ["told"] S_is_integer :=
  ⟨fnV F sc_is_integer rfl (by decide) (fun cdv A outer s H E as hr => d_is_integer T  hr) h_is_integer, hm, F.kp, F.binds (ps := ["told"]) fun _ _ _ _ _ _ us hl => match us, hl with | [_], _ => rfl⟩
theorem ok_is_integer_from {fa : Addr} {fd : FuncData} (F : Fun K "is_integer_from" "is_integer_from" s_is_integer_from fa fd) (hm : mg "is_integer_from" = some (.ref fa)) (T : Tx mg) {f_is_integer : Addr} {fd_is_integer : FuncData} (c_is_integer : FOk P w K ts mg base 1 1 "is_integer" f_is_integer fd_is_integer ["told"] S_is_integer) : FOk P w K ts mg base 2 2 "is_integer_from" fa fd ["told", "least"] S_is_integer_from :=
  ⟨fnV F sc_is_integer_from rfl (by decide) (fun cdv A outer s H E as hr => d_is_integer_from T c_is_integer hr) h_is_integer_from, hm, F.kp, F.binds (ps := ["told", "least"]) fun _ _ _ _ _ _ us hl => match us, hl with | [_, _], _ => rfl⟩
theorem ok_is_thing {fa : Addr} {fd : FuncData} (F : Fun K "is_thing" "is_thing" s_is_thing fa fd) (hm : mg "is_thing" = some (.ref fa)) (T : Tx mg) {f_is_integer_from : Addr} {fd_is_integer_from : FuncData} (c_is_integer_from : FOk P w K ts mg base 2 2 "is_integer_from" f_is_integer_from fd_is_integer_from ["told", "least"] S_is_integer_from) : FOk P w K ts mg base 3 2 "is_thing" fa fd ["told", "n"] S_is_thing :=
  ⟨fnV F sc_is_thing rfl (by decide) (fun cdv A outer s H E as hr => d_is_thing T c_is_integer_from hr) h_is_thing, hm, F.kp, F.binds (ps := ["told", "n"]) fun _ _ _ _ _ _ us hl => match us, hl with | [_, _], _ => rfl⟩
theorem ok_is_place {fa : Addr} {fd : FuncData} (F : Fun K "is_place" "is_place" s_is_place fa fd) (hm : mg "is_place" = some (.ref fa)) (T : Tx mg) {f_is_thing : Addr} {fd_is_thing : FuncData} (c_is_thing : FOk P w K ts mg base 3 2 "is_thing" f_is_thing fd_is_thing ["told", "n"] S_is_thing) : FOk P w K ts mg base 4 3 "is_place" fa fd ["told", "n", "states"] S_is_place :=
  ⟨fnV F sc_is_place rfl (by decide) (fun cdv A outer s H E as hr => d_is_place T c_is_thing hr) h_is_place, hm, F.kp, F.binds (ps := ["told", "n", "states"]) fun _ _ _ _ _ _ us hl => match us, hl with | [_, _, _], _ => rfl⟩
theorem ok_is_pair {fa : Addr} {fd : FuncData} (F : Fun K "is_pair" "is_pair" s_is_pair fa fd) (hm : mg "is_pair" = some (.ref fa)) (T : Tx mg) {f_is_place : Addr} {fd_is_place : FuncData} (c_is_place : FOk P w K ts mg base 4 3 "is_place" f_is_place fd_is_place ["told", "n", "states"] S_is_place) : FOk P w K ts mg base 5 3 "is_pair" fa fd ["told", "n", "states"] S_is_pair :=
  ⟨fnV F sc_is_pair rfl (by decide) (fun cdv A outer s H E as hr => d_is_pair T c_is_place hr) h_is_pair, hm, F.kp, F.binds (ps := ["told", "n", "states"]) fun _ _ _ _ _ _ us hl => match us, hl with | [_, _, _], _ => rfl⟩
theorem ok_is_machine {fa : Addr} {fd : FuncData} (F : Fun K "is_machine" "is_machine" s_is_machine fa fd) (hm : mg "is_machine" = some (.ref fa)) (T : Tx mg) {cdv : Value} (FC : FunC K "is_machine" "is_machine" s_is_machine fa fd cdv) {c_ P_ : Addr} (G : GxD base mg ts cdv c_ P_) {f_is_integer_from : Addr} {fd_is_integer_from : FuncData} (c_is_integer_from : FOk P w K ts mg base 2 2 "is_integer_from" f_is_integer_from fd_is_integer_from ["told", "least"] S_is_integer_from) {f_is_place : Addr} {fd_is_place : FuncData} (c_is_place : FOk P w K ts mg base 4 3 "is_place" f_is_place fd_is_place ["told", "n", "states"] S_is_place) {f_is_pair : Addr} {fd_is_pair : FuncData} (c_is_pair : FOk P w K ts mg base 5 3 "is_pair" f_is_pair fd_is_pair ["told", "n", "states"] S_is_pair) : FOk P w K ts mg base 8 1 "is_machine" fa fd ["told"] S_is_machine :=
  ⟨fnVC FC sc_is_machine rfl (by decide) (fun A outer s H E as hr => d_is_machine T G c_is_integer_from c_is_place c_is_pair hr) h_is_machine, hm, F.kp, F.binds (ps := ["told"]) fun _ _ _ _ _ _ us hl => match us, hl with | [_], _ => rfl⟩
theorem ok_check_machine {fa : Addr} {fd : FuncData} (F : Fun K "check_machine" "check_machine" s_check_machine fa fd) (hm : mg "check_machine" = some (.ref fa)) (T : Tx mg) {f_is_machine : Addr} {fd_is_machine : FuncData} (c_is_machine : FOk P w K ts mg base 8 1 "is_machine" f_is_machine fd_is_machine ["told"] S_is_machine) : FOk P w K ts mg base 9 1 "check_machine" fa fd ["machine"] S_check_machine :=
  ⟨fnV F sc_check_machine rfl (by decide) (fun cdv A outer s H E as hr => d_check_machine T c_is_machine hr) h_check_machine, hm, F.kp, F.binds (ps := ["machine"]) fun _ _ _ _ _ _ us hl => match us, hl with | [_], _ => rfl⟩
theorem ok_is_signs {fa : Addr} {fd : FuncData} (F : Fun K "is_signs" "is_signs" s_is_signs fa fd) (hm : mg "is_signs" = some (.ref fa)) (T : Tx mg) {cdv : Value} (FC : FunC K "is_signs" "is_signs" s_is_signs fa fd cdv) {c_ P_ : Addr} (G : GxD base mg ts cdv c_ P_) {f_is_integer_from : Addr} {fd_is_integer_from : FuncData} (c_is_integer_from : FOk P w K ts mg base 2 2 "is_integer_from" f_is_integer_from fd_is_integer_from ["told", "least"] S_is_integer_from) : FOk P w K ts mg base 5 1 "is_signs" fa fd ["told"] S_is_signs :=
  ⟨fnVC FC sc_is_signs rfl (by decide) (fun A outer s H E as hr => d_is_signs T G c_is_integer_from hr) h_is_signs, hm, F.kp, F.binds (ps := ["told"]) fun _ _ _ _ _ _ us hl => match us, hl with | [_], _ => rfl⟩
theorem ok_walk {fa : Addr} {fd : FuncData} (F : Fun K "walk" "walk" s_walk fa fd) (hm : mg "walk" = some (.ref fa)) (T : Tx mg) (er_InvalidRow : ErT P w K mg base "InvalidRow") (er_NotDrawn : ErT P w K mg base "NotDrawn") {f_check_machine : Addr} {fd_check_machine : FuncData} (c_check_machine : FOk P w K ts mg base 9 1 "check_machine" f_check_machine fd_check_machine ["machine"] S_check_machine) {f_is_signs : Addr} {fd_is_signs : FuncData} (c_is_signs : FOk P w K ts mg base 5 1 "is_signs" f_is_signs fd_is_signs ["told"] S_is_signs) : FOkX P w K ts mg base 10 2 "walk" fa fd ["machine", "tosses"] S_walk :=
  ⟨fnVX F sc_walk rfl (by decide) (fun cdv A outer s H E as W tk hr => d_walk T er_InvalidRow er_NotDrawn c_check_machine c_is_signs tk hr) h_walk, hm, F.kp, F.binds (ps := ["machine", "tosses"]) fun _ _ _ _ _ _ us hl => match us, hl with | [_, _], _ => rfl⟩
theorem ok__law_told {fa : Addr} {fd : FuncData} (F : Fun K "_law_told" "_law_told" s__law_told fa fd) (hm : mg "_law_told" = some (.ref fa)) (T : Tx mg) (erf : ErF K mg cs_) (cl_NotDrawn : ClT K mg cs_ "NotDrawn" k_NotDrawn) (cl_TossError : ClT K mg cs_ "TossError" k_TossError) {f_walk : Addr} {fd_walk : FuncData} (c_walk : FOkX P w K ts mg base 10 2 "walk" f_walk fd_walk ["machine", "tosses"] S_walk) (kw_walk_0_tosses_machine : KwB K fd_walk ["machine", "tosses"] 0 ["tosses", "machine"] [1, 0]) : FOk P w K ts mg base 11 3 "_law_told" fa fd ["machine", "tosses", "named"] S__law_told :=
  ⟨fnV F sc__law_told rfl (by decide) (fun cdv A outer s H E as hr => d__law_told T erf cl_NotDrawn cl_TossError c_walk kw_walk_0_tosses_machine hr) h__law_told, hm, F.kp, F.binds (ps := ["machine", "tosses", "named"]) fun _ _ _ _ _ _ us hl => match us, hl with | [_, _, _], _ => rfl⟩
theorem ok_check_place {fa : Addr} {fd : FuncData} (F : Fun K "check_place" "check_place" s_check_place fa fd) (hm : mg "check_place" = some (.ref fa)) (T : Tx mg) {f_is_integer_from : Addr} {fd_is_integer_from : FuncData} (c_is_integer_from : FOk P w K ts mg base 2 2 "is_integer_from" f_is_integer_from fd_is_integer_from ["told", "least"] S_is_integer_from) : FOk P w K ts mg base 3 1 "check_place" fa fd ["k"] S_check_place :=
  ⟨fnV F sc_check_place rfl (by decide) (fun cdv A outer s H E as hr => d_check_place T c_is_integer_from hr) h_check_place, hm, F.kp, F.binds (ps := ["k"]) fun _ _ _ _ _ _ us hl => match us, hl with | [_], _ => rfl⟩
theorem ok_counts_below {fa : Addr} {fd : FuncData} (F : Fun K "counts_below" "counts_below" s_counts_below fa fd) (hm : mg "counts_below" = some (.ref fa)) (T : Tx mg) : FOk P w K ts mg base 1 2 "counts_below" fa fd ["rows", "counts"] S_counts_below :=
  ⟨fnV F sc_counts_below rfl (by decide) (fun cdv A outer s H E as hr => d_counts_below T  hr) h_counts_below, hm, F.kp, F.binds (ps := ["rows", "counts"]) fun _ _ _ _ _ _ us hl => match us, hl with | [_, _], _ => rfl⟩
theorem ok_leaves_of {fa : Addr} {fd : FuncData} (F : Fun K "leaves_of" "leaves_of" s_leaves_of fa fd) (hm : mg "leaves_of" = some (.ref fa)) (T : Tx mg) {cdv : Value} (FC : FunC K "leaves_of" "leaves_of" s_leaves_of fa fd cdv) {c_ P_ : Addr} (G : GxD base mg ts cdv c_ P_) {f_check_machine : Addr} {fd_check_machine : FuncData} (c_check_machine : FOk P w K ts mg base 9 1 "check_machine" f_check_machine fd_check_machine ["machine"] S_check_machine) {f_check_place : Addr} {fd_check_place : FuncData} (c_check_place : FOk P w K ts mg base 3 1 "check_place" f_check_place fd_check_place ["k"] S_check_place) {f_counts_below : Addr} {fd_counts_below : FuncData} (c_counts_below : FOk P w K ts mg base 1 2 "counts_below" f_counts_below fd_counts_below ["rows", "counts"] S_counts_below) : FOk P w K ts mg base 10 2 "leaves_of" fa fd ["machine", "k"] S_leaves_of :=
  ⟨fnVC FC sc_leaves_of rfl (by decide) (fun A outer s H E as hr => d_leaves_of T G c_check_machine c_check_place c_counts_below hr) h_leaves_of, hm, F.kp, F.binds (ps := ["machine", "k"]) fun _ _ _ _ _ _ us hl => match us, hl with | [_, _], _ => rfl⟩
theorem ok_law {fa : Addr} {fd : FuncData} (F : Fun K "law" "law" s_law fa fd) (hm : mg "law" = some (.ref fa)) (T : Tx mg) {f__law_take : Addr} {fd__law_take : FuncData} (c__law_take : FOk P w K ts mg base 1 2 "_law_take" f__law_take fd__law_take ["pot", "many"] S__law_take) {f__law_machine : Addr} {fd__law_machine : FuncData} (c__law_machine : FOk P w K ts mg base 3 3 "_law_machine" f__law_machine fd__law_machine ["pot", "things", "states"] S__law_machine) {f__law_counts : Addr} {fd__law_counts : FuncData} (c__law_counts : FOk P w K ts mg base 1 2 "_law_counts" f__law_counts fd__law_counts ["machine", "k"] S__law_counts) {f__law_by_rows : Addr} {fd__law_by_rows : FuncData} (c__law_by_rows : FOk P w K ts mg base 2 2 "_law_by_rows" f__law_by_rows fd__law_by_rows ["machine", "k"] S__law_by_rows) {f__law_same : Addr} {fd__law_same : FuncData} (c__law_same : FOk P w K ts mg base 9 2 "_law_same" f__law_same fd__law_same ["got", "due"] (S__law_same 8)) {f__law_walk : Addr} {fd__law_walk : FuncData} (c__law_walk : FOk P w K ts mg base 1 2 "_law_walk" f__law_walk fd__law_walk ["machine", "tosses"] S__law_walk) {f__law_told : Addr} {fd__law_told : FuncData} (c__law_told : FOk P w K ts mg base 11 3 "_law_told" f__law_told fd__law_told ["machine", "tosses", "named"] S__law_told) {f_leaves_of : Addr} {fd_leaves_of : FuncData} (c_leaves_of : FOk P w K ts mg base 10 2 "leaves_of" f_leaves_of fd_leaves_of ["machine", "k"] S_leaves_of) (kw_leaves_of_0_k_machine : KwB K fd_leaves_of ["machine", "k"] 0 ["k", "machine"] [1, 0]) : FOk P w K ts mg base 12 1 "law" fa fd ["script"] S_law :=
  ⟨fnV F sc_law rfl (by decide) (fun cdv A outer s H E as hr => d_law T c__law_take c__law_machine c__law_counts c__law_by_rows c__law_same c__law_walk c__law_told c_leaves_of kw_leaves_of_0_k_machine hr) h_law, hm, F.kp, F.binds (ps := ["script"]) fun _ _ _ _ _ _ us hl => match us, hl with | [_], _ => rfl⟩
end
theorem all_mk {l : PySem.W.OpenLaw} {w : World} {K : PySem.W.Frag} {h : Heap} {mg : Str → Option Value} {fa : Addr} (X : K.In h) (G : h.Ns mainGlobals mg) (hfa : mg "law" = some (.ref fa))
    {od0 an0 : Option Addr} {sl0 : Array (Option Value)} {oc0 kV0 dc0 pm0 cd0 ct0 : Value} {f0 : Addr}
    {od1 an1 : Option Addr} {sl1 : Array (Option Value)} {oc1 kV1 dc1 pm1 cd1 ct1 : Value} {f1 : Addr}
    {od2 an2 : Option Addr} {sl2 : Array (Option Value)} {oc2 kV2 dc2 pm2 cd2 ct2 : Value} {f2 : Addr}
    {od3 an3 : Option Addr} {sl3 : Array (Option Value)} {oc3 kV3 dc3 pm3 cd3 ct3 : Value} {f3 : Addr}
    {od4 an4 : Option Addr} {sl4 : Array (Option Value)} {oc4 kV4 dc4 pm4 cd4 ct4 : Value} {f4 : Addr}
    {od5 an5 : Option Addr} {sl5 : Array (Option Value)} {oc5 kV5 dc5 pm5 cd5 ct5 : Value} {f5 : Addr}
    {od6 an6 : Option Addr} {sl6 : Array (Option Value)} {oc6 kV6 dc6 pm6 cd6 ct6 : Value} {f6 : Addr}
    {od7 an7 : Option Addr} {sl7 : Array (Option Value)} {oc7 kV7 dc7 pm7 cd7 ct7 : Value} {f7 : Addr}
    {od8 an8 : Option Addr} {sl8 : Array (Option Value)} {oc8 kV8 dc8 pm8 cd8 ct8 : Value} {f8 : Addr}
    {od9 an9 : Option Addr} {sl9 : Array (Option Value)} {oc9 kV9 dc9 pm9 cd9 ct9 : Value} {f9 : Addr}
    {od10 an10 : Option Addr} {sl10 : Array (Option Value)} {oc10 kV10 dc10 pm10 cd10 ct10 : Value} {f10 : Addr}
    {od11 an11 : Option Addr} {sl11 : Array (Option Value)} {oc11 kV11 dc11 pm11 cd11 ct11 : Value} {f11 : Addr}
    {od12 an12 : Option Addr} {sl12 : Array (Option Value)} {oc12 kV12 dc12 pm12 cd12 ct12 : Value} {f12 : Addr}
    {od13 an13 : Option Addr} {sl13 : Array (Option Value)} {oc13 kV13 dc13 pm13 cd13 ct13 : Value} {f13 : Addr}
    {od14 an14 : Option Addr} {sl14 : Array (Option Value)} {oc14 kV14 dc14 pm14 cd14 ct14 : Value} {f14 : Addr}
    {od15 an15 : Option Addr} {sl15 : Array (Option Value)} {oc15 kV15 dc15 pm15 cd15 ct15 : Value} {f15 : Addr}
    {od16 an16 : Option Addr} {sl16 : Array (Option Value)} {oc16 kV16 dc16 pm16 cd16 ct16 : Value} {f16 : Addr}
    {od17 an17 : Option Addr} {sl17 : Array (Option Value)} {oc17 kV17 dc17 pm17 cd17 ct17 : Value} {f17 : Addr}
    {od18 an18 : Option Addr} {sl18 : Array (Option Value)} {oc18 kV18 dc18 pm18 cd18 ct18 : Value} {f18 : Addr}
    {od19 an19 : Option Addr} {sl19 : Array (Option Value)} {oc19 kV19 dc19 pm19 cd19 ct19 : Value} {f19 : Addr}
    {od20 an20 : Option Addr} {sl20 : Array (Option Value)} {oc20 kV20 dc20 pm20 cd20 ct20 : Value} {f20 : Addr}
    {od21 an21 : Option Addr} {sl21 : Array (Option Value)} {oc21 kV21 dc21 pm21 cd21 ct21 : Value} {f21 : Addr}
    (a0 : PySem.W.nsIn K mainGlobals "_law_take" = some (some (.ref f0))) (l0 : K.lookup f0 = some ⟨oc0, od0, .func (PySem.W.fnOf "_law_take" "_law_take" (defArgs s__law_take) (defBody s__law_take) (defScope s__law_take) .none kV0 dc0 pm0 an0 cd0 ct0), sl0⟩) (c0 : PySem.W.codeIn K cd0 "_law_take" = true) (k0 : PySem.W.keepIn K (.ref f0) = true)
    (a1 : PySem.W.nsIn K mainGlobals "_law_place" = some (some (.ref f1))) (l1 : K.lookup f1 = some ⟨oc1, od1, .func (PySem.W.fnOf "_law_place" "_law_place" (defArgs s__law_place) (defBody s__law_place) (defScope s__law_place) .none kV1 dc1 pm1 an1 cd1 ct1), sl1⟩) (c1 : PySem.W.codeIn K cd1 "_law_place" = true) (k1 : PySem.W.keepIn K (.ref f1) = true)
    (a2 : PySem.W.nsIn K mainGlobals "_law_machine" = some (some (.ref f2))) (l2 : K.lookup f2 = some ⟨oc2, od2, .func (PySem.W.fnOf "_law_machine" "_law_machine" (defArgs s__law_machine) (defBody s__law_machine) (defScope s__law_machine) .none kV2 dc2 pm2 an2 cd2 ct2), sl2⟩) (c2 : PySem.W.codeIn K cd2 "_law_machine" = true) (k2 : PySem.W.keepIn K (.ref f2) = true)
    (a3 : PySem.W.nsIn K mainGlobals "_law_counts" = some (some (.ref f3))) (l3 : K.lookup f3 = some ⟨oc3, od3, .func (PySem.W.fnOf "_law_counts" "_law_counts" (defArgs s__law_counts) (defBody s__law_counts) (defScope s__law_counts) .none kV3 dc3 pm3 an3 cd3 ct3), sl3⟩) (c3 : PySem.W.codeIn K cd3 "_law_counts" = true) (k3 : PySem.W.keepIn K (.ref f3) = true)
    (a4 : PySem.W.nsIn K mainGlobals "_law_come" = some (some (.ref f4))) (l4 : K.lookup f4 = some ⟨oc4, od4, .func (PySem.W.fnOf "_law_come" "_law_come" (defArgs s__law_come) (defBody s__law_come) (defScope s__law_come) .none kV4 dc4 pm4 an4 cd4 ct4), sl4⟩) (c4 : PySem.W.codeIn K cd4 "_law_come" = true) (k4 : PySem.W.keepIn K (.ref f4) = true)
    (a5 : PySem.W.nsIn K mainGlobals "_law_by_rows" = some (some (.ref f5))) (l5 : K.lookup f5 = some ⟨oc5, od5, .func (PySem.W.fnOf "_law_by_rows" "_law_by_rows" (defArgs s__law_by_rows) (defBody s__law_by_rows) (defScope s__law_by_rows) .none kV5 dc5 pm5 an5 cd5 ct5), sl5⟩) (c5 : PySem.W.codeIn K cd5 "_law_by_rows" = true) (k5 : PySem.W.keepIn K (.ref f5) = true)
    (a6 : PySem.W.nsIn K mainGlobals "_law_same" = some (some (.ref f6))) (l6 : K.lookup f6 = some ⟨oc6, od6, .func (PySem.W.fnOf "_law_same" "_law_same" (defArgs s__law_same) (defBody s__law_same) (defScope s__law_same) .none kV6 dc6 pm6 an6 cd6 ct6), sl6⟩) (c6 : PySem.W.codeIn K cd6 "_law_same" = true) (k6 : PySem.W.keepIn K (.ref f6) = true)
    (a7 : PySem.W.nsIn K mainGlobals "_law_walk" = some (some (.ref f7))) (l7 : K.lookup f7 = some ⟨oc7, od7, .func (PySem.W.fnOf "_law_walk" "_law_walk" (defArgs s__law_walk) (defBody s__law_walk) (defScope s__law_walk) .none kV7 dc7 pm7 an7 cd7 ct7), sl7⟩) (c7 : PySem.W.codeIn K cd7 "_law_walk" = true) (k7 : PySem.W.keepIn K (.ref f7) = true)
    (a8 : PySem.W.nsIn K mainGlobals "is_integer" = some (some (.ref f8))) (l8 : K.lookup f8 = some ⟨oc8, od8, .func (PySem.W.fnOf "is_integer" "is_integer" (defArgs s_is_integer) (defBody s_is_integer) (defScope s_is_integer) .none kV8 dc8 pm8 an8 cd8 ct8), sl8⟩) (c8 : PySem.W.codeIn K cd8 "is_integer" = true) (k8 : PySem.W.keepIn K (.ref f8) = true)
    (a9 : PySem.W.nsIn K mainGlobals "is_integer_from" = some (some (.ref f9))) (l9 : K.lookup f9 = some ⟨oc9, od9, .func (PySem.W.fnOf "is_integer_from" "is_integer_from" (defArgs s_is_integer_from) (defBody s_is_integer_from) (defScope s_is_integer_from) .none kV9 dc9 pm9 an9 cd9 ct9), sl9⟩) (c9 : PySem.W.codeIn K cd9 "is_integer_from" = true) (k9 : PySem.W.keepIn K (.ref f9) = true)
    (a10 : PySem.W.nsIn K mainGlobals "is_thing" = some (some (.ref f10))) (l10 : K.lookup f10 = some ⟨oc10, od10, .func (PySem.W.fnOf "is_thing" "is_thing" (defArgs s_is_thing) (defBody s_is_thing) (defScope s_is_thing) .none kV10 dc10 pm10 an10 cd10 ct10), sl10⟩) (c10 : PySem.W.codeIn K cd10 "is_thing" = true) (k10 : PySem.W.keepIn K (.ref f10) = true)
    (a11 : PySem.W.nsIn K mainGlobals "is_place" = some (some (.ref f11))) (l11 : K.lookup f11 = some ⟨oc11, od11, .func (PySem.W.fnOf "is_place" "is_place" (defArgs s_is_place) (defBody s_is_place) (defScope s_is_place) .none kV11 dc11 pm11 an11 cd11 ct11), sl11⟩) (c11 : PySem.W.codeIn K cd11 "is_place" = true) (k11 : PySem.W.keepIn K (.ref f11) = true)
    (a12 : PySem.W.nsIn K mainGlobals "is_pair" = some (some (.ref f12))) (l12 : K.lookup f12 = some ⟨oc12, od12, .func (PySem.W.fnOf "is_pair" "is_pair" (defArgs s_is_pair) (defBody s_is_pair) (defScope s_is_pair) .none kV12 dc12 pm12 an12 cd12 ct12), sl12⟩) (c12 : PySem.W.codeIn K cd12 "is_pair" = true) (k12 : PySem.W.keepIn K (.ref f12) = true)
    (a13 : PySem.W.nsIn K mainGlobals "is_machine" = some (some (.ref f13))) (l13 : K.lookup f13 = some ⟨oc13, od13, .func (PySem.W.fnOf "is_machine" "is_machine" (defArgs s_is_machine) (defBody s_is_machine) (defScope s_is_machine) .none kV13 dc13 pm13 an13 cd13 ct13), sl13⟩) (c13 : PySem.W.codeIn K cd13 "is_machine" = true) (k13 : PySem.W.keepIn K (.ref f13) = true) {tc13 tp13 : Addr} {ve13 : Value} {vd13 : Option Addr} {vv13 : Array Value} {vs13 : Array (Option Value)} (e13 : cd13 = .ref tc13) (m13 : K.lookup tc13 = some ⟨ve13, vd13, .fields vv13, vs13⟩) (v13 : vv13[11]? = some (.ref tp13)) (n13 : K.lookup tp13 = none)
    (a14 : PySem.W.nsIn K mainGlobals "check_machine" = some (some (.ref f14))) (l14 : K.lookup f14 = some ⟨oc14, od14, .func (PySem.W.fnOf "check_machine" "check_machine" (defArgs s_check_machine) (defBody s_check_machine) (defScope s_check_machine) .none kV14 dc14 pm14 an14 cd14 ct14), sl14⟩) (c14 : PySem.W.codeIn K cd14 "check_machine" = true) (k14 : PySem.W.keepIn K (.ref f14) = true)
    (a15 : PySem.W.nsIn K mainGlobals "is_signs" = some (some (.ref f15))) (l15 : K.lookup f15 = some ⟨oc15, od15, .func (PySem.W.fnOf "is_signs" "is_signs" (defArgs s_is_signs) (defBody s_is_signs) (defScope s_is_signs) .none kV15 dc15 pm15 an15 cd15 ct15), sl15⟩) (c15 : PySem.W.codeIn K cd15 "is_signs" = true) (k15 : PySem.W.keepIn K (.ref f15) = true) {tc15 tp15 : Addr} {ve15 : Value} {vd15 : Option Addr} {vv15 : Array Value} {vs15 : Array (Option Value)} (e15 : cd15 = .ref tc15) (m15 : K.lookup tc15 = some ⟨ve15, vd15, .fields vv15, vs15⟩) (v15 : vv15[11]? = some (.ref tp15)) (n15 : K.lookup tp15 = none)
    (a16 : PySem.W.nsIn K mainGlobals "walk" = some (some (.ref f16))) (l16 : K.lookup f16 = some ⟨oc16, od16, .func (PySem.W.fnOf "walk" "walk" (defArgs s_walk) (defBody s_walk) (defScope s_walk) .none kV16 dc16 pm16 an16 cd16 ct16), sl16⟩) (c16 : PySem.W.codeIn K cd16 "walk" = true) (k16 : PySem.W.keepIn K (.ref f16) = true)
    (a17 : PySem.W.nsIn K mainGlobals "_law_told" = some (some (.ref f17))) (l17 : K.lookup f17 = some ⟨oc17, od17, .func (PySem.W.fnOf "_law_told" "_law_told" (defArgs s__law_told) (defBody s__law_told) (defScope s__law_told) .none kV17 dc17 pm17 an17 cd17 ct17), sl17⟩) (c17 : PySem.W.codeIn K cd17 "_law_told" = true) (k17 : PySem.W.keepIn K (.ref f17) = true)
    (a18 : PySem.W.nsIn K mainGlobals "check_place" = some (some (.ref f18))) (l18 : K.lookup f18 = some ⟨oc18, od18, .func (PySem.W.fnOf "check_place" "check_place" (defArgs s_check_place) (defBody s_check_place) (defScope s_check_place) .none kV18 dc18 pm18 an18 cd18 ct18), sl18⟩) (c18 : PySem.W.codeIn K cd18 "check_place" = true) (k18 : PySem.W.keepIn K (.ref f18) = true)
    (a19 : PySem.W.nsIn K mainGlobals "counts_below" = some (some (.ref f19))) (l19 : K.lookup f19 = some ⟨oc19, od19, .func (PySem.W.fnOf "counts_below" "counts_below" (defArgs s_counts_below) (defBody s_counts_below) (defScope s_counts_below) .none kV19 dc19 pm19 an19 cd19 ct19), sl19⟩) (c19 : PySem.W.codeIn K cd19 "counts_below" = true) (k19 : PySem.W.keepIn K (.ref f19) = true)
    (a20 : PySem.W.nsIn K mainGlobals "leaves_of" = some (some (.ref f20))) (l20 : K.lookup f20 = some ⟨oc20, od20, .func (PySem.W.fnOf "leaves_of" "leaves_of" (defArgs s_leaves_of) (defBody s_leaves_of) (defScope s_leaves_of) .none kV20 dc20 pm20 an20 cd20 ct20), sl20⟩) (c20 : PySem.W.codeIn K cd20 "leaves_of" = true) (k20 : PySem.W.keepIn K (.ref f20) = true) {tc20 tp20 : Addr} {ve20 : Value} {vd20 : Option Addr} {vv20 : Array Value} {vs20 : Array (Option Value)} (e20 : cd20 = .ref tc20) (m20 : K.lookup tc20 = some ⟨ve20, vd20, .fields vv20, vs20⟩) (v20 : vv20[11]? = some (.ref tp20)) (n20 : K.lookup tp20 = none)
    (a21 : PySem.W.nsIn K mainGlobals "law" = some (some (.ref f21))) (l21 : K.lookup f21 = some ⟨oc21, od21, .func (PySem.W.fnOf "law" "law" (defArgs s_law) (defBody s_law) (defScope s_law) .none kV21 dc21 pm21 an21 cd21 ct21), sl21⟩) (c21 : PySem.W.codeIn K cd21 "law" = true) (k21 : PySem.W.keepIn K (.ref f21) = true)
    (z_all : PySem.W.nsIn K mainGlobals "all" = some none)
    (z_bool : PySem.W.nsIn K mainGlobals "bool" = some none)
    (z_int : PySem.W.nsIn K mainGlobals "int" = some none)
    (z_isinstance : PySem.W.nsIn K mainGlobals "isinstance" = some none)
    (z_len : PySem.W.nsIn K mainGlobals "len" = some none)
    (z_list : PySem.W.nsIn K mainGlobals "list" = some none)
    (z_max : PySem.W.nsIn K mainGlobals "max" = some none)
    (z_range : PySem.W.nsIn K mainGlobals "range" = some none)
    (z_str : PySem.W.nsIn K mainGlobals "str" = some none)
    (z_tuple : PySem.W.nsIn K mainGlobals "tuple" = some none)
    {C_TossError C_InvalidNumber C_InvalidMachine C_InvalidRow C_NotDrawn fI : Addr} {odI anI : Option Addr} {slI : Array (Option Value)} {ocI kVI dcI pmI cdI ctI : Value}
    {nm_TossError q_TossError : Str} {N_TossError : Addr} {bs_TossError : List Value} {sn_TossError : List Str} {sub_TossError : List Value} {ab_TossError : Bool} {col_TossError : Option Bool} {dd_TossError : Option Addr} {m0_TossError m1_TossError m2_TossError m3_TossError m5_TossError : Option Value}
    {nm_InvalidNumber q_InvalidNumber : Str} {N_InvalidNumber : Addr} {bs_InvalidNumber : List Value} {sn_InvalidNumber : List Str} {sub_InvalidNumber : List Value} {ab_InvalidNumber : Bool} {col_InvalidNumber : Option Bool} {dd_InvalidNumber : Option Addr} {m0_InvalidNumber m1_InvalidNumber m2_InvalidNumber m3_InvalidNumber m5_InvalidNumber : Option Value}
    {nm_InvalidMachine q_InvalidMachine : Str} {N_InvalidMachine : Addr} {bs_InvalidMachine : List Value} {sn_InvalidMachine : List Str} {sub_InvalidMachine : List Value} {ab_InvalidMachine : Bool} {col_InvalidMachine : Option Bool} {dd_InvalidMachine : Option Addr} {m0_InvalidMachine m1_InvalidMachine m2_InvalidMachine m3_InvalidMachine m5_InvalidMachine : Option Value}
    {nm_InvalidRow q_InvalidRow : Str} {N_InvalidRow : Addr} {bs_InvalidRow : List Value} {sn_InvalidRow : List Str} {sub_InvalidRow : List Value} {ab_InvalidRow : Bool} {col_InvalidRow : Option Bool} {dd_InvalidRow : Option Addr} {m0_InvalidRow m1_InvalidRow m2_InvalidRow m3_InvalidRow m5_InvalidRow : Option Value}
    {nm_NotDrawn q_NotDrawn : Str} {N_NotDrawn : Addr} {bs_NotDrawn : List Value} {sn_NotDrawn : List Str} {sub_NotDrawn : List Value} {ab_NotDrawn : Bool} {col_NotDrawn : Option Bool} {dd_NotDrawn : Option Addr} {m0_NotDrawn m1_NotDrawn m2_NotDrawn m3_NotDrawn m5_NotDrawn : Option Value}
    (ea_TossError : PySem.W.nsIn K mainGlobals "TossError" = some (some (.ref C_TossError)))
    (el_TossError : K.lookup C_TossError = some (excClassObj nm_TossError q_TossError C_TossError N_TossError bs_TossError [.type "ValueError", .type "Exception", .type "BaseException", .type "object"] true sn_TossError sub_TossError ab_TossError col_TossError dd_TossError m0_TossError m1_TossError m2_TossError m3_TossError m5_TossError "ValueError.__new__"))
    (es_TossError : PySem.W.findIn K (.ref C_TossError) "__setattr__" = some (some (.builtin "object.__setattr__")))
    (eg_TossError : PySem.W.findIn K (.ref C_TossError) "__getattribute__" = some (some (.builtin "BaseException.__getattribute__")))
    (eh_TossError : PySem.W.findIn K (.ref C_TossError) "__getattr__" = some none)
    (ev_TossError : PySem.W.findIn K (.ref C_TossError) "value" = some none)
    (ei_TossError : PySem.W.findIn K (.ref C_TossError) "__init__" = some (some (.ref fI)))
    (ek_TossError : PySem.W.keepIn K (.ref C_TossError) = true)
    (eb_TossError : PySem.W.subIn K (.ref C_TossError) (.type "BaseException") = some true)
    (et_TossError : PySem.W.typeIn K (.ref C_TossError) = some (.type "type"))
    (ed_TossError : PySem.W.hasDictIn K C_TossError = true)
    (ea_InvalidNumber : PySem.W.nsIn K mainGlobals "InvalidNumber" = some (some (.ref C_InvalidNumber)))
    (el_InvalidNumber : K.lookup C_InvalidNumber = some (excClassObj nm_InvalidNumber q_InvalidNumber C_InvalidNumber N_InvalidNumber bs_InvalidNumber (.ref C_TossError :: [.type "ValueError", .type "Exception", .type "BaseException", .type "object"]) true sn_InvalidNumber sub_InvalidNumber ab_InvalidNumber col_InvalidNumber dd_InvalidNumber m0_InvalidNumber m1_InvalidNumber m2_InvalidNumber m3_InvalidNumber m5_InvalidNumber "ValueError.__new__"))
    (es_InvalidNumber : PySem.W.findIn K (.ref C_InvalidNumber) "__setattr__" = some (some (.builtin "object.__setattr__")))
    (eg_InvalidNumber : PySem.W.findIn K (.ref C_InvalidNumber) "__getattribute__" = some (some (.builtin "BaseException.__getattribute__")))
    (eh_InvalidNumber : PySem.W.findIn K (.ref C_InvalidNumber) "__getattr__" = some none)
    (ev_InvalidNumber : PySem.W.findIn K (.ref C_InvalidNumber) "value" = some none)
    (ei_InvalidNumber : PySem.W.findIn K (.ref C_InvalidNumber) "__init__" = some (some (.ref fI)))
    (ek_InvalidNumber : PySem.W.keepIn K (.ref C_InvalidNumber) = true)
    (eb_InvalidNumber : PySem.W.subIn K (.ref C_InvalidNumber) (.type "BaseException") = some true)
    (et_InvalidNumber : PySem.W.typeIn K (.ref C_InvalidNumber) = some (.type "type"))
    (ed_InvalidNumber : PySem.W.hasDictIn K C_InvalidNumber = true)
    (ea_InvalidMachine : PySem.W.nsIn K mainGlobals "InvalidMachine" = some (some (.ref C_InvalidMachine)))
    (el_InvalidMachine : K.lookup C_InvalidMachine = some (excClassObj nm_InvalidMachine q_InvalidMachine C_InvalidMachine N_InvalidMachine bs_InvalidMachine (.ref C_TossError :: [.type "ValueError", .type "Exception", .type "BaseException", .type "object"]) true sn_InvalidMachine sub_InvalidMachine ab_InvalidMachine col_InvalidMachine dd_InvalidMachine m0_InvalidMachine m1_InvalidMachine m2_InvalidMachine m3_InvalidMachine m5_InvalidMachine "ValueError.__new__"))
    (es_InvalidMachine : PySem.W.findIn K (.ref C_InvalidMachine) "__setattr__" = some (some (.builtin "object.__setattr__")))
    (eg_InvalidMachine : PySem.W.findIn K (.ref C_InvalidMachine) "__getattribute__" = some (some (.builtin "BaseException.__getattribute__")))
    (eh_InvalidMachine : PySem.W.findIn K (.ref C_InvalidMachine) "__getattr__" = some none)
    (ev_InvalidMachine : PySem.W.findIn K (.ref C_InvalidMachine) "value" = some none)
    (ei_InvalidMachine : PySem.W.findIn K (.ref C_InvalidMachine) "__init__" = some (some (.ref fI)))
    (ek_InvalidMachine : PySem.W.keepIn K (.ref C_InvalidMachine) = true)
    (eb_InvalidMachine : PySem.W.subIn K (.ref C_InvalidMachine) (.type "BaseException") = some true)
    (et_InvalidMachine : PySem.W.typeIn K (.ref C_InvalidMachine) = some (.type "type"))
    (ed_InvalidMachine : PySem.W.hasDictIn K C_InvalidMachine = true)
    (ea_InvalidRow : PySem.W.nsIn K mainGlobals "InvalidRow" = some (some (.ref C_InvalidRow)))
    (el_InvalidRow : K.lookup C_InvalidRow = some (excClassObj nm_InvalidRow q_InvalidRow C_InvalidRow N_InvalidRow bs_InvalidRow (.ref C_TossError :: [.type "ValueError", .type "Exception", .type "BaseException", .type "object"]) true sn_InvalidRow sub_InvalidRow ab_InvalidRow col_InvalidRow dd_InvalidRow m0_InvalidRow m1_InvalidRow m2_InvalidRow m3_InvalidRow m5_InvalidRow "ValueError.__new__"))
    (es_InvalidRow : PySem.W.findIn K (.ref C_InvalidRow) "__setattr__" = some (some (.builtin "object.__setattr__")))
    (eg_InvalidRow : PySem.W.findIn K (.ref C_InvalidRow) "__getattribute__" = some (some (.builtin "BaseException.__getattribute__")))
    (eh_InvalidRow : PySem.W.findIn K (.ref C_InvalidRow) "__getattr__" = some none)
    (ev_InvalidRow : PySem.W.findIn K (.ref C_InvalidRow) "value" = some none)
    (ei_InvalidRow : PySem.W.findIn K (.ref C_InvalidRow) "__init__" = some (some (.ref fI)))
    (ek_InvalidRow : PySem.W.keepIn K (.ref C_InvalidRow) = true)
    (eb_InvalidRow : PySem.W.subIn K (.ref C_InvalidRow) (.type "BaseException") = some true)
    (et_InvalidRow : PySem.W.typeIn K (.ref C_InvalidRow) = some (.type "type"))
    (ed_InvalidRow : PySem.W.hasDictIn K C_InvalidRow = true)
    (ea_NotDrawn : PySem.W.nsIn K mainGlobals "NotDrawn" = some (some (.ref C_NotDrawn)))
    (el_NotDrawn : K.lookup C_NotDrawn = some (excClassObj nm_NotDrawn q_NotDrawn C_NotDrawn N_NotDrawn bs_NotDrawn (.ref C_TossError :: [.type "ValueError", .type "Exception", .type "BaseException", .type "object"]) true sn_NotDrawn sub_NotDrawn ab_NotDrawn col_NotDrawn dd_NotDrawn m0_NotDrawn m1_NotDrawn m2_NotDrawn m3_NotDrawn m5_NotDrawn "ValueError.__new__"))
    (es_NotDrawn : PySem.W.findIn K (.ref C_NotDrawn) "__setattr__" = some (some (.builtin "object.__setattr__")))
    (eg_NotDrawn : PySem.W.findIn K (.ref C_NotDrawn) "__getattribute__" = some (some (.builtin "BaseException.__getattribute__")))
    (eh_NotDrawn : PySem.W.findIn K (.ref C_NotDrawn) "__getattr__" = some none)
    (ev_NotDrawn : PySem.W.findIn K (.ref C_NotDrawn) "value" = some none)
    (ei_NotDrawn : PySem.W.findIn K (.ref C_NotDrawn) "__init__" = some (some (.ref fI)))
    (ek_NotDrawn : PySem.W.keepIn K (.ref C_NotDrawn) = true)
    (eb_NotDrawn : PySem.W.subIn K (.ref C_NotDrawn) (.type "BaseException") = some true)
    (et_NotDrawn : PySem.W.typeIn K (.ref C_NotDrawn) = some (.type "type"))
    (ed_NotDrawn : PySem.W.hasDictIn K C_NotDrawn = true)
    (ep_TossError_TossError : PySem.W.subIn K (.ref C_TossError) (.ref C_TossError) = some true)
    (ep_InvalidNumber_TossError : PySem.W.subIn K (.ref C_InvalidNumber) (.ref C_TossError) = some true)
    (ep_InvalidMachine_TossError : PySem.W.subIn K (.ref C_InvalidMachine) (.ref C_TossError) = some true)
    (ep_InvalidRow_TossError : PySem.W.subIn K (.ref C_InvalidRow) (.ref C_TossError) = some true)
    (ep_NotDrawn_TossError : PySem.W.subIn K (.ref C_NotDrawn) (.ref C_TossError) = some true)
    (ep_TossError_NotDrawn : PySem.W.subIn K (.ref C_TossError) (.ref C_NotDrawn) = some false)
    (ep_InvalidNumber_NotDrawn : PySem.W.subIn K (.ref C_InvalidNumber) (.ref C_NotDrawn) = some false)
    (ep_InvalidMachine_NotDrawn : PySem.W.subIn K (.ref C_InvalidMachine) (.ref C_NotDrawn) = some false)
    (ep_InvalidRow_NotDrawn : PySem.W.subIn K (.ref C_InvalidRow) (.ref C_NotDrawn) = some false)
    (ep_NotDrawn_NotDrawn : PySem.W.subIn K (.ref C_NotDrawn) (.ref C_NotDrawn) = some true)
    (eti : PySem.W.typeIn K (.ref fI) = some (.type "function"))
    (eli : K.lookup fI = some ⟨ocI, odI, .func (PySem.W.fnOf "__init__" "TossError.__init__" (defArgs s_init_) (defBody s_init_) (defScope s_init_) .none kVI dcI pmI anI cdI ctI), slI⟩)
    (eci : PySem.W.codeIn K cdI "TossError.__init__" = true)
    (eki : PySem.W.keepIn K (.ref fI) = true)
    (ezv : PySem.W.nsIn K mainGlobals "ValueError" = some none)
    (evv : PySem.W.findCls K (.type "ValueError") (.type "type") "__init__" = some (.val (.builtin "ValueError.__init__")))
    : ∃ (cs : List (Addr × Addr)) (fd : FuncData), (∀ p ∈ cs, (∃ y ∈ (["is_machine", "is_signs", "leaves_of"] : List Str), PySem.W.tabIn K y = some p) ∧ K.lookup p.2 = none) ∧ (∀ (s : Shared) (v : Value), BindsTo s fd ⟨[v], []⟩ [("script", v)]) ∧ ∀ base : Heap, K.In base → base.Ns mainGlobals mg → (∀ p ∈ cs, GxR.TabB base mg p.1 p.2) → FnOk l.prog w K mg base CX0 12 fa fd ["script"] (spV K (cs.map (·.2)) 1 S_law) := by
  have t13 := VL.tab_mk a13 l13 e13 m13 v13
  have t15 := VL.tab_mk a15 l15 e15 m15 v15
  have t20 := VL.tab_mk a20 l20 e20 m20 v20
  have e := hfa.symm.trans (PySem.W.mg_of X G a21)
  cases e
  have F__law_take := fun_mk (st := s__law_take) l0 c0 k0
  have F__law_place := fun_mk (st := s__law_place) l1 c1 k1
  have F__law_machine := fun_mk (st := s__law_machine) l2 c2 k2
  have F__law_counts := fun_mk (st := s__law_counts) l3 c3 k3
  have F__law_come := fun_mk (st := s__law_come) l4 c4 k4
  have F__law_by_rows := fun_mk (st := s__law_by_rows) l5 c5 k5
  have F__law_same := fun_mk (st := s__law_same) l6 c6 k6
  have F__law_walk := fun_mk (st := s__law_walk) l7 c7 k7
  have F_is_integer := fun_mk (st := s_is_integer) l8 c8 k8
  have F_is_integer_from := fun_mk (st := s_is_integer_from) l9 c9 k9
  have F_is_thing := fun_mk (st := s_is_thing) l10 c10 k10
  have F_is_place := fun_mk (st := s_is_place) l11 c11 k11
  have F_is_pair := fun_mk (st := s_is_pair) l12 c12 k12
  have F_is_machine := fun_mk (st := s_is_machine) l13 c13 k13
  have F_check_machine := fun_mk (st := s_check_machine) l14 c14 k14
  have F_is_signs := fun_mk (st := s_is_signs) l15 c15 k15
  have F_walk := fun_mk (st := s_walk) l16 c16 k16
  have F__law_told := fun_mk (st := s__law_told) l17 c17 k17
  have F_check_place := fun_mk (st := s_check_place) l18 c18 k18
  have F_counts_below := fun_mk (st := s_counts_below) l19 c19 k19
  have F_leaves_of := fun_mk (st := s_leaves_of) l20 c20 k20
  have F_law := fun_mk (st := s_law) l21 c21 k21
  have T : Tx mg := ⟨PySem.W.mg_none_of X G z_all, PySem.W.mg_none_of X G z_bool, PySem.W.mg_none_of X G z_int, PySem.W.mg_none_of X G z_isinstance, PySem.W.mg_none_of X G z_len, PySem.W.mg_none_of X G z_list, PySem.W.mg_none_of X G z_max, PySem.W.mg_none_of X G z_range, PySem.W.mg_none_of X G z_str, PySem.W.mg_none_of X G z_tuple⟩
  have kw_leaves_of_0_k_machine := kw_of (ps := ["machine", "k"]) (ks := ["k", "machine"]) (n := 0) (pm := [1, 0]) F_leaves_of fun _ _ _ _ _ _ us ws h1 h2 => match us, h1, ws, h2 with | [], _, [_, _], _ => rfl
  have kw_walk_0_tosses_machine := kw_of (ps := ["machine", "tosses"]) (ks := ["tosses", "machine"]) (n := 0) (pm := [1, 0]) F_walk fun _ _ _ _ _ _ us ws h1 h2 => match us, h1, ws, h2 with | [], _, [_, _], _ => rfl
  refine ⟨[(tc13, tp13), (tc15, tp15), (tc20, tp20)], PySem.W.fnOf "law" "law" (defArgs s_law) (defBody s_law) (defScope s_law) .none kV21 dc21 pm21 an21 cd21 ct21, fun p hp => ?_, fun s v => .of_eq rfl, fun base hb nb TBs => ?_⟩
  · simp only [List.mem_cons, List.not_mem_nil, or_false] at hp
    rcases hp with rfl | rfl | rfl
    · exact ⟨⟨"is_machine", by simp, t13⟩, n13⟩
    · exact ⟨⟨"is_signs", by simp, t15⟩, n15⟩
    · exact ⟨⟨"leaves_of", by simp, t20⟩, n20⟩
  have tsd : ([(tc13, tp13), (tc15, tp15), (tc20, tp20)] : List (Addr × Addr)).map (·.2) = [tp13, tp15, tp20] := rfl
  have FI := fun_mk (st := s_init_) eli eci eki
  have cI := ok_init_ (P := l.prog) (w := w) (base := base) FI (PySem.W.mg_none_of X G ezv) evv
  have bI := FI.binds (ps := ["self", "value"]) fun _ _ _ _ _ _ us hl => match us, hl with | [_, _], _ => rfl
  have o_TossError : OexC K C_TossError := ⟨⟨_, _, _, _, _, _, _, _, _, _, _, _, _, _, _, el_TossError, by first | rfl | decide +kernel⟩, es_TossError, eb_TossError, et_TossError, ek_TossError⟩
  have x_TossError : XfC K C_TossError := ⟨eg_TossError, eh_TossError, eb_TossError, ed_TossError⟩
  have g_TossError := PySem.W.mg_of X G ea_TossError
  have er_TossError : ErT l.prog w K mg base "TossError" := ⟨C_TossError, fI, _, ⟨g_TossError, o_TossError, ei_TossError, eti, ev_TossError⟩, cI, bI⟩
  have o_InvalidNumber : OexC K C_InvalidNumber := ⟨⟨_, _, _, _, _, _, _, _, _, _, _, _, _, _, _, el_InvalidNumber, by first | rfl | decide +kernel⟩, es_InvalidNumber, eb_InvalidNumber, et_InvalidNumber, ek_InvalidNumber⟩
  have x_InvalidNumber : XfC K C_InvalidNumber := ⟨eg_InvalidNumber, eh_InvalidNumber, eb_InvalidNumber, ed_InvalidNumber⟩
  have g_InvalidNumber := PySem.W.mg_of X G ea_InvalidNumber
  have er_InvalidNumber : ErT l.prog w K mg base "InvalidNumber" := ⟨C_InvalidNumber, fI, _, ⟨g_InvalidNumber, o_InvalidNumber, ei_InvalidNumber, eti, ev_InvalidNumber⟩, cI, bI⟩
  have o_InvalidMachine : OexC K C_InvalidMachine := ⟨⟨_, _, _, _, _, _, _, _, _, _, _, _, _, _, _, el_InvalidMachine, by first | rfl | decide +kernel⟩, es_InvalidMachine, eb_InvalidMachine, et_InvalidMachine, ek_InvalidMachine⟩
  have x_InvalidMachine : XfC K C_InvalidMachine := ⟨eg_InvalidMachine, eh_InvalidMachine, eb_InvalidMachine, ed_InvalidMachine⟩
  have g_InvalidMachine := PySem.W.mg_of X G ea_InvalidMachine
  have er_InvalidMachine : ErT l.prog w K mg base "InvalidMachine" := ⟨C_InvalidMachine, fI, _, ⟨g_InvalidMachine, o_InvalidMachine, ei_InvalidMachine, eti, ev_InvalidMachine⟩, cI, bI⟩
  have o_InvalidRow : OexC K C_InvalidRow := ⟨⟨_, _, _, _, _, _, _, _, _, _, _, _, _, _, _, el_InvalidRow, by first | rfl | decide +kernel⟩, es_InvalidRow, eb_InvalidRow, et_InvalidRow, ek_InvalidRow⟩
  have x_InvalidRow : XfC K C_InvalidRow := ⟨eg_InvalidRow, eh_InvalidRow, eb_InvalidRow, ed_InvalidRow⟩
  have g_InvalidRow := PySem.W.mg_of X G ea_InvalidRow
  have er_InvalidRow : ErT l.prog w K mg base "InvalidRow" := ⟨C_InvalidRow, fI, _, ⟨g_InvalidRow, o_InvalidRow, ei_InvalidRow, eti, ev_InvalidRow⟩, cI, bI⟩
  have o_NotDrawn : OexC K C_NotDrawn := ⟨⟨_, _, _, _, _, _, _, _, _, _, _, _, _, _, _, el_NotDrawn, by first | rfl | decide +kernel⟩, es_NotDrawn, eb_NotDrawn, et_NotDrawn, ek_NotDrawn⟩
  have x_NotDrawn : XfC K C_NotDrawn := ⟨eg_NotDrawn, eh_NotDrawn, eb_NotDrawn, ed_NotDrawn⟩
  have g_NotDrawn := PySem.W.mg_of X G ea_NotDrawn
  have er_NotDrawn : ErT l.prog w K mg base "NotDrawn" := ⟨C_NotDrawn, fI, _, ⟨g_NotDrawn, o_NotDrawn, ei_NotDrawn, eti, ev_NotDrawn⟩, cI, bI⟩
  have erf : ErF K mg cs_ := fun c hc => by
    simp only [cs_, List.mem_cons, List.not_mem_nil, or_false] at hc
    rcases hc with rfl | rfl | rfl | rfl | rfl
    · exact ⟨_, g_TossError, x_TossError, ev_TossError⟩
    · exact ⟨_, g_InvalidNumber, x_InvalidNumber, ev_InvalidNumber⟩
    · exact ⟨_, g_InvalidMachine, x_InvalidMachine, ev_InvalidMachine⟩
    · exact ⟨_, g_InvalidRow, x_InvalidRow, ev_InvalidRow⟩
    · exact ⟨_, g_NotDrawn, x_NotDrawn, ev_NotDrawn⟩
  have cl_TossError : ClT K mg cs_ "TossError" k_TossError := ⟨C_TossError, g_TossError, fun n hn C2 h2 => by
    simp only [cs_, List.mem_cons, List.not_mem_nil, or_false] at hn
    rcases hn with rfl | rfl | rfl | rfl | rfl
    · rw [g_TossError] at h2
      cases h2
      exact PySem.W.exm_ref eb_TossError ed_TossError et_TossError ep_TossError_TossError
    · rw [g_InvalidNumber] at h2
      cases h2
      exact PySem.W.exm_ref eb_TossError ed_TossError et_TossError ep_InvalidNumber_TossError
    · rw [g_InvalidMachine] at h2
      cases h2
      exact PySem.W.exm_ref eb_TossError ed_TossError et_TossError ep_InvalidMachine_TossError
    · rw [g_InvalidRow] at h2
      cases h2
      exact PySem.W.exm_ref eb_TossError ed_TossError et_TossError ep_InvalidRow_TossError
    · rw [g_NotDrawn] at h2
      cases h2
      exact PySem.W.exm_ref eb_TossError ed_TossError et_TossError ep_NotDrawn_TossError⟩
  have cl_NotDrawn : ClT K mg cs_ "NotDrawn" k_NotDrawn := ⟨C_NotDrawn, g_NotDrawn, fun n hn C2 h2 => by
    simp only [cs_, List.mem_cons, List.not_mem_nil, or_false] at hn
    rcases hn with rfl | rfl | rfl | rfl | rfl
    · rw [g_TossError] at h2
      cases h2
      exact PySem.W.exm_ref eb_NotDrawn ed_NotDrawn et_NotDrawn ep_TossError_NotDrawn
    · rw [g_InvalidNumber] at h2
      cases h2
      exact PySem.W.exm_ref eb_NotDrawn ed_NotDrawn et_NotDrawn ep_InvalidNumber_NotDrawn
    · rw [g_InvalidMachine] at h2
      cases h2
      exact PySem.W.exm_ref eb_NotDrawn ed_NotDrawn et_NotDrawn ep_InvalidMachine_NotDrawn
    · rw [g_InvalidRow] at h2
      cases h2
      exact PySem.W.exm_ref eb_NotDrawn ed_NotDrawn et_NotDrawn ep_InvalidRow_NotDrawn
    · rw [g_NotDrawn] at h2
      cases h2
      exact PySem.W.exm_ref eb_NotDrawn ed_NotDrawn et_NotDrawn ep_NotDrawn_NotDrawn⟩
  have c__law_take := ok__law_take (P := l.prog) (w := w) (base := base) (ts := ([(tc13, tp13), (tc15, tp15), (tc20, tp20)] : List (Addr × Addr)).map (·.2)) F__law_take (PySem.W.mg_of X G a0) T 
  have c__law_place := ok__law_place (P := l.prog) (w := w) (base := base) (ts := ([(tc13, tp13), (tc15, tp15), (tc20, tp20)] : List (Addr × Addr)).map (·.2)) F__law_place (PySem.W.mg_of X G a1) T c__law_take
  have c__law_machine := ok__law_machine (P := l.prog) (w := w) (base := base) (ts := ([(tc13, tp13), (tc15, tp15), (tc20, tp20)] : List (Addr × Addr)).map (·.2)) F__law_machine (PySem.W.mg_of X G a2) T c__law_take c__law_place
  have c__law_counts := ok__law_counts (P := l.prog) (w := w) (base := base) (ts := ([(tc13, tp13), (tc15, tp15), (tc20, tp20)] : List (Addr × Addr)).map (·.2)) F__law_counts (PySem.W.mg_of X G a3) T 
  have c__law_come := ok__law_come (P := l.prog) (w := w) (base := base) (ts := ([(tc13, tp13), (tc15, tp15), (tc20, tp20)] : List (Addr × Addr)).map (·.2)) F__law_come (PySem.W.mg_of X G a4) T 
  have c__law_by_rows := ok__law_by_rows (P := l.prog) (w := w) (base := base) (ts := ([(tc13, tp13), (tc15, tp15), (tc20, tp20)] : List (Addr × Addr)).map (·.2)) F__law_by_rows (PySem.W.mg_of X G a5) T c__law_come
  have c__law_same := ok__law_same (P := l.prog) (w := w) (base := base) (ts := ([(tc13, tp13), (tc15, tp15), (tc20, tp20)] : List (Addr × Addr)).map (·.2)) F__law_same (PySem.W.mg_of X G a6) T  8
  have c__law_walk := ok__law_walk (P := l.prog) (w := w) (base := base) (ts := ([(tc13, tp13), (tc15, tp15), (tc20, tp20)] : List (Addr × Addr)).map (·.2)) F__law_walk (PySem.W.mg_of X G a7) T 
  have c_is_integer := ok_is_integer (P := l.prog) (w := w) (base := base) (ts := ([(tc13, tp13), (tc15, tp15), (tc20, tp20)] : List (Addr × Addr)).map (·.2)) F_is_integer (PySem.W.mg_of X G a8) T 
  have c_is_integer_from := ok_is_integer_from (P := l.prog) (w := w) (base := base) (ts := ([(tc13, tp13), (tc15, tp15), (tc20, tp20)] : List (Addr × Addr)).map (·.2)) F_is_integer_from (PySem.W.mg_of X G a9) T c_is_integer
  have c_is_thing := ok_is_thing (P := l.prog) (w := w) (base := base) (ts := ([(tc13, tp13), (tc15, tp15), (tc20, tp20)] : List (Addr × Addr)).map (·.2)) F_is_thing (PySem.W.mg_of X G a10) T c_is_integer_from
  have c_is_place := ok_is_place (P := l.prog) (w := w) (base := base) (ts := ([(tc13, tp13), (tc15, tp15), (tc20, tp20)] : List (Addr × Addr)).map (·.2)) F_is_place (PySem.W.mg_of X G a11) T c_is_thing
  have c_is_pair := ok_is_pair (P := l.prog) (w := w) (base := base) (ts := ([(tc13, tp13), (tc15, tp15), (tc20, tp20)] : List (Addr × Addr)).map (·.2)) F_is_pair (PySem.W.mg_of X G a12) T c_is_place
  have c_is_machine := ok_is_machine (P := l.prog) (w := w) (base := base) (ts := ([(tc13, tp13), (tc15, tp15), (tc20, tp20)] : List (Addr × Addr)).map (·.2)) F_is_machine (PySem.W.mg_of X G a13) T ⟨_, _, _, _, _, _, _, _, rfl, l13, c13⟩ ⟨by simp, TBs (tc13, tp13) (by simp), tab_cd a13 l13 t13⟩ c_is_integer_from c_is_place c_is_pair
  have c_check_machine := ok_check_machine (P := l.prog) (w := w) (base := base) (ts := ([(tc13, tp13), (tc15, tp15), (tc20, tp20)] : List (Addr × Addr)).map (·.2)) F_check_machine (PySem.W.mg_of X G a14) T c_is_machine
  have c_is_signs := ok_is_signs (P := l.prog) (w := w) (base := base) (ts := ([(tc13, tp13), (tc15, tp15), (tc20, tp20)] : List (Addr × Addr)).map (·.2)) F_is_signs (PySem.W.mg_of X G a15) T ⟨_, _, _, _, _, _, _, _, rfl, l15, c15⟩ ⟨by simp, TBs (tc15, tp15) (by simp), tab_cd a15 l15 t15⟩ c_is_integer_from
  have c_walk := ok_walk (P := l.prog) (w := w) (base := base) (ts := ([(tc13, tp13), (tc15, tp15), (tc20, tp20)] : List (Addr × Addr)).map (·.2)) F_walk (PySem.W.mg_of X G a16) T er_InvalidRow er_NotDrawn c_check_machine c_is_signs
  have c__law_told := ok__law_told (P := l.prog) (w := w) (base := base) (ts := ([(tc13, tp13), (tc15, tp15), (tc20, tp20)] : List (Addr × Addr)).map (·.2)) F__law_told (PySem.W.mg_of X G a17) T erf cl_NotDrawn cl_TossError c_walk kw_walk_0_tosses_machine
  have c_check_place := ok_check_place (P := l.prog) (w := w) (base := base) (ts := ([(tc13, tp13), (tc15, tp15), (tc20, tp20)] : List (Addr × Addr)).map (·.2)) F_check_place (PySem.W.mg_of X G a18) T c_is_integer_from
  have c_counts_below := ok_counts_below (P := l.prog) (w := w) (base := base) (ts := ([(tc13, tp13), (tc15, tp15), (tc20, tp20)] : List (Addr × Addr)).map (·.2)) F_counts_below (PySem.W.mg_of X G a19) T 
  have c_leaves_of := ok_leaves_of (P := l.prog) (w := w) (base := base) (ts := ([(tc13, tp13), (tc15, tp15), (tc20, tp20)] : List (Addr × Addr)).map (·.2)) F_leaves_of (PySem.W.mg_of X G a20) T ⟨_, _, _, _, _, _, _, _, rfl, l20, c20⟩ ⟨by simp, TBs (tc20, tp20) (by simp), tab_cd a20 l20 t20⟩ c_check_machine c_check_place c_counts_below
  have c_law := ok_law (P := l.prog) (w := w) (base := base) (ts := ([(tc13, tp13), (tc15, tp15), (tc20, tp20)] : List (Addr × Addr)).map (·.2)) F_law (PySem.W.mg_of X G a21) T c__law_take c__law_machine c__law_counts c__law_by_rows c__law_same c__law_walk c__law_told c_leaves_of kw_leaves_of_0_k_machine
  exact c_law.fn
end K13
open PySem PySem.W PyProof.Rows
set_option maxHeartbeats 0 in
theorem PySem.Challenge.cw_tosstrees_k13_whole_walks_and_leaves_of_holds : PySem.Challenge.rw_tosstrees_k13_whole_walks_and_leaves_of.Holds := by
  w_on; o_law; k_head; (case hw => w_witness2)
  k_fill
  refine VL.walk_ofG (l := PySem.Challenge.rw_tosstrees_k13_whole_walks_and_leaves_of) (n := 63) (k := 12) (x := "script") (xs := ["is_machine", "is_signs", "leaves_of"]) (S := K13.S_law) rfl (by decide) rfl ⟨rfl, by decide, by decide⟩ (by decide +kernel) (fun w h Y => PySem.W.kIn_of Y) ?F (fun ns hl => K13.law_top ns hl)
  case F =>
    intro w mg fa h KX G hmg
    refine' K13.all_mk KX G hmg ?a0 ?l0 ?c0 ?k0 ?a1 ?l1 ?c1 ?k1 ?a2 ?l2 ?c2 ?k2 ?a3 ?l3 ?c3 ?k3 ?a4 ?l4 ?c4 ?k4 ?a5 ?l5 ?c5 ?k5 ?a6 ?l6 ?c6 ?k6 ?a7 ?l7 ?c7 ?k7 ?a8 ?l8 ?c8 ?k8 ?a9 ?l9 ?c9 ?k9 ?a10 ?l10 ?c10 ?k10 ?a11 ?l11 ?c11 ?k11 ?a12 ?l12 ?c12 ?k12 ?a13 ?l13 ?c13 ?k13 ?e13 ?m13 ?v13 ?n13 ?a14 ?l14 ?c14 ?k14 ?a15 ?l15 ?c15 ?k15 ?e15 ?m15 ?v15 ?n15 ?a16 ?l16 ?c16 ?k16 ?a17 ?l17 ?c17 ?k17 ?a18 ?l18 ?c18 ?k18 ?a19 ?l19 ?c19 ?k19 ?a20 ?l20 ?c20 ?k20 ?e20 ?m20 ?v20 ?n20 ?a21 ?l21 ?c21 ?k21 ?z_all ?z_bool ?z_int ?z_isinstance ?z_len ?z_list ?z_max ?z_range ?z_str ?z_tuple ?ea_TossError ?el_TossError ?es_TossError ?eg_TossError ?eh_TossError ?ev_TossError ?ei_TossError ?ek_TossError ?eb_TossError ?et_TossError ?ed_TossError ?ea_InvalidNumber ?el_InvalidNumber ?es_InvalidNumber ?eg_InvalidNumber ?eh_InvalidNumber ?ev_InvalidNumber ?ei_InvalidNumber ?ek_InvalidNumber ?eb_InvalidNumber ?et_InvalidNumber ?ed_InvalidNumber ?ea_InvalidMachine ?el_InvalidMachine ?es_InvalidMachine ?eg_InvalidMachine ?eh_InvalidMachine ?ev_InvalidMachine ?ei_InvalidMachine ?ek_InvalidMachine ?eb_InvalidMachine ?et_InvalidMachine ?ed_InvalidMachine ?ea_InvalidRow ?el_InvalidRow ?es_InvalidRow ?eg_InvalidRow ?eh_InvalidRow ?ev_InvalidRow ?ei_InvalidRow ?ek_InvalidRow ?eb_InvalidRow ?et_InvalidRow ?ed_InvalidRow ?ea_NotDrawn ?el_NotDrawn ?es_NotDrawn ?eg_NotDrawn ?eh_NotDrawn ?ev_NotDrawn ?ei_NotDrawn ?ek_NotDrawn ?eb_NotDrawn ?et_NotDrawn ?ed_NotDrawn ?ep_TossError_TossError ?ep_InvalidNumber_TossError ?ep_InvalidMachine_TossError ?ep_InvalidRow_TossError ?ep_NotDrawn_TossError ?ep_TossError_NotDrawn ?ep_InvalidNumber_NotDrawn ?ep_InvalidMachine_NotDrawn ?ep_InvalidRow_NotDrawn ?ep_NotDrawn_NotDrawn ?eti ?eli ?eci ?eki ?ezv ?evv
    (case a0 => k_is); (case l0 => k_is); (case c0 => k_is); (case k0 => k_is); (case a1 => k_is); (case l1 => k_is); (case c1 => k_is); (case k1 => k_is); (case a2 => k_is); (case l2 => k_is); (case c2 => k_is); (case k2 => k_is); (case a3 => k_is); (case l3 => k_is); (case c3 => k_is); (case k3 => k_is); (case a4 => k_is); (case l4 => k_is); (case c4 => k_is); (case k4 => k_is); (case a5 => k_is); (case l5 => k_is); (case c5 => k_is); (case k5 => k_is); (case a6 => k_is); (case l6 => k_is); (case c6 => k_is); (case k6 => k_is); (case a7 => k_is); (case l7 => k_is); (case c7 => k_is); (case k7 => k_is); (case a8 => k_is); (case l8 => k_is); (case c8 => k_is); (case k8 => k_is); (case a9 => k_is); (case l9 => k_is); (case c9 => k_is); (case k9 => k_is); (case a10 => k_is); (case l10 => k_is); (case c10 => k_is); (case k10 => k_is); (case a11 => k_is); (case l11 => k_is); (case c11 => k_is); (case k11 => k_is); (case a12 => k_is); (case l12 => k_is); (case c12 => k_is); (case k12 => k_is); (case a13 => k_is); (case l13 => k_is); (case c13 => k_is); (case k13 => k_is); (case e13 => rfl); (case m13 => k_is); (case v13 => rfl); (case n13 => first | rfl | with_unfolding_all rfl | decide); (case a14 => k_is); (case l14 => k_is); (case c14 => k_is); (case k14 => k_is); (case a15 => k_is); (case l15 => k_is); (case c15 => k_is); (case k15 => k_is); (case e15 => rfl); (case m15 => k_is); (case v15 => rfl); (case n15 => first | rfl | with_unfolding_all rfl | decide); (case a16 => k_is); (case l16 => k_is); (case c16 => k_is); (case k16 => k_is); (case a17 => k_is); (case l17 => k_is); (case c17 => k_is); (case k17 => k_is); (case a18 => k_is); (case l18 => k_is); (case c18 => k_is); (case k18 => k_is); (case a19 => k_is); (case l19 => k_is); (case c19 => k_is); (case k19 => k_is); (case a20 => k_is); (case l20 => k_is); (case c20 => k_is); (case k20 => k_is); (case e20 => rfl); (case m20 => k_is); (case v20 => rfl); (case n20 => first | rfl | with_unfolding_all rfl | decide); (case a21 => k_is); (case l21 => k_is); (case c21 => k_is); (case k21 => k_is)
    (case z_all => k_is); (case z_bool => k_is); (case z_int => k_is); (case z_isinstance => k_is); (case z_len => k_is); (case z_list => k_is); (case z_max => k_is); (case z_range => k_is); (case z_str => k_is); (case z_tuple => k_is)
    (case ea_TossError => k_is); (case el_TossError => k_is); (case es_TossError => k_is); (case eg_TossError => k_is); (case eh_TossError => k_is); (case ev_TossError => k_is); (case ei_TossError => k_is); (case ek_TossError => k_is); (case eb_TossError => k_is); (case et_TossError => k_is); (case ed_TossError => k_is); (case ea_InvalidNumber => k_is); (case el_InvalidNumber => k_is); (case es_InvalidNumber => k_is); (case eg_InvalidNumber => k_is); (case eh_InvalidNumber => k_is); (case ev_InvalidNumber => k_is); (case ei_InvalidNumber => k_is); (case ek_InvalidNumber => k_is); (case eb_InvalidNumber => k_is); (case et_InvalidNumber => k_is); (case ed_InvalidNumber => k_is); (case ea_InvalidMachine => k_is); (case el_InvalidMachine => k_is); (case es_InvalidMachine => k_is); (case eg_InvalidMachine => k_is); (case eh_InvalidMachine => k_is); (case ev_InvalidMachine => k_is); (case ei_InvalidMachine => k_is); (case ek_InvalidMachine => k_is); (case eb_InvalidMachine => k_is); (case et_InvalidMachine => k_is); (case ed_InvalidMachine => k_is); (case ea_InvalidRow => k_is); (case el_InvalidRow => k_is); (case es_InvalidRow => k_is); (case eg_InvalidRow => k_is); (case eh_InvalidRow => k_is); (case ev_InvalidRow => k_is); (case ei_InvalidRow => k_is); (case ek_InvalidRow => k_is); (case eb_InvalidRow => k_is); (case et_InvalidRow => k_is); (case ed_InvalidRow => k_is); (case ea_NotDrawn => k_is); (case el_NotDrawn => k_is); (case es_NotDrawn => k_is); (case eg_NotDrawn => k_is); (case eh_NotDrawn => k_is); (case ev_NotDrawn => k_is); (case ei_NotDrawn => k_is); (case ek_NotDrawn => k_is); (case eb_NotDrawn => k_is); (case et_NotDrawn => k_is); (case ed_NotDrawn => k_is); (case ep_TossError_TossError => first | rfl | k_is); (case ep_InvalidNumber_TossError => first | rfl | k_is); (case ep_InvalidMachine_TossError => first | rfl | k_is); (case ep_InvalidRow_TossError => first | rfl | k_is); (case ep_NotDrawn_TossError => first | rfl | k_is); (case ep_TossError_NotDrawn => first | rfl | k_is); (case ep_InvalidNumber_NotDrawn => first | rfl | k_is); (case ep_InvalidMachine_NotDrawn => first | rfl | k_is); (case ep_InvalidRow_NotDrawn => first | rfl | k_is); (case ep_NotDrawn_NotDrawn => first | rfl | k_is); (case eti => k_is); (case eli => k_is); (case eci => k_is); (case eki => k_is); (case ezv => k_is); (case evv => k_is)
end
