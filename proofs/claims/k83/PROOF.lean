import PyProof.Rows.All
import Wide.All
import OpenK.AllK
import Wide.FinOn
import HandS.ForMost
import HandS.TupAny
import HandS.TupMul
import HandS.RevRange
import HandS.Wide
import HandS.Style
import HandS.Flow
import HandS.AnyAll
import HandS.GenList
import HandS.Nested
import HandS.EndTab
import HandS.SetKeys
import HandS.SetBool
import HandS.SortKw
import KE.DataMinMax
import KE.GoesMore
import HandS.Deep
import HandS.SetFor
import HandS.SortOrd
import HandS.SortRule
import HandS.More
import HandS.Text
import HandS.IsInst
import HandS.TupLen
import HandS.WordsDict
import KE.KeyNested
import HandS.Zip
import HandS.Conv
import KE.SortCalls
import HandS.DictComp
import PySem.Challenge.RW_soleway_k83_whole_rows_of_parts
set_option Elab.async false
set_option maxRecDepth 100000
set_option maxHeartbeats 4000000
namespace Sw
open PySem L2 PySem.Spec PyProof.Rows

/-! ### defs of the top -/
section
variable {P : Program} {w : World} {K : PySem.W.Frag} {mg : Str → Option Value} {base : Heap}
/-- a def of the top: it stands under its name, takes its arguments by place -/
structure DefAt (K : PySem.W.Frag) (mg : Str → Option Value) (x : Str) (st : Stmt) (ps : List Str) : Prop where
  ex : ∃ f fd, Fun K x x st f fd ∧ mg x = some (.ref f) ∧ Binds K fd ps []
/-- .. and keeps a promise -/
structure DefOk (P : Program) (w : World) (K : PySem.W.Frag) (mg : Str → Option Value) (base : Heap) (x : Str) (k : Nat) (ps : List Str) (sp : Sp) : Prop where
  ex : ∃ f fd, FnOk P w K mg base CX0 k f fd ps sp ∧ mg x = some (.ref f) ∧ PySem.W.keepIn K (.ref f) = true ∧ Binds K fd ps []
theorem DefOk.mono {x : Str} {j k : Nat} {ps : List Str} {sp : Sp} (F : DefOk P w K mg base x j ps sp) (h : j ≤ k) : DefOk P w K mg base x k ps sp := by
  obtain ⟨f, fd, a, b, c, d⟩ := F.ex
  exact ⟨f, fd, a.mono h, b, c, d⟩
theorem DefOk.imp {x : Str} {k : Nat} {ps : List Str} {sp sp' : Sp} (F : DefOk P w K mg base x k ps sp) (h : ∀ vs H Q E, sp' vs H Q E → sp vs H Q E) : DefOk P w K mg base x k ps sp' := by
  obtain ⟨f, fd, a, b, c, d⟩ := F.ex
  exact ⟨f, fd, a.imp h, b, c, d⟩
theorem DefAt.ok {x : Str} {st : Stmt} {N ps : List Str} {k : Nat} {sp : Sp} (F : DefAt K mg x st ps) (S : FnScope N ps (defScope st)) (len : ∀ vs H Q E, sp vs H Q E → vs.length = ps.length)
    (hbody : ∀ (f : Addr) (cdv : Value) (A : Around) (outer : List Env) (s : Shared) (H : Hp) (vs : List V) (Q : VK) (E : XK), Room k (A.deeper (envOfC x (defScope st) s.heap.objs.size f cdv)) → sp vs H Q E →
      ∃ t, PSs (cxOf CX0 P w K mg base N x (defScope st) f cdv A outer s H E).nox (defBody st) t ∧ t { nx := fun _ H' => Q .non H', rt := Q } (start N vs) H) : DefOk P w K mg base x (k + 1) ps sp := by
  obtain ⟨f, fd, h1, h2, h3⟩ := F.ex
  exact ⟨f, fd, h1.ok S len (fun cdv A outer s H vs Q E hr hs => hbody f cdv A outer s H vs Q E hr hs), h2, h1.kp, h3⟩
end
section
variable {X : Cx} {x : Str} {k : Nat} {ps : List Str} {sp : Sp} {e : Expr} {es : List Expr} {t : TA} {p pos : Pos}
theorem pe_callD (F : DefOk X.prog X.w X.K X.mg X.base x k ps sp) (hr : Room k X.A) (hg : Gl X x) (ha : PA X (e :: es) t) (hx : Passes CX0 X E0 := by exact pass0) (hdb : (x == ("__debug__" : Str)) = false := by decide)
    (he : starEach (e :: es) X.env = (false, eval e X.env) :: starEach es X.env := by rfl) (hpl : (backTo pos (starEach es X.env)).any (·.1) = false := by rfl) : PE X (.Call (.Name x p) (e :: es) [] pos) (tCall sp [] E0 t) := by
  obtain ⟨f, fd, a, b, c, d⟩ := F.ex
  exact pe_call a hr hg b c d .nil hx ha hdb he hpl
end

/-! ### heaps -/
theorem _root_.L2.Same.new {H : Hp} {p : Addr} {o : HO} (h : H p = none) : Same H (upd H p o) := fun b u q => by rw [upd_ne (ne_of_none q h)]; exact q
/-- what was not there may be written again -/
theorem _root_.L2.Same.mut {H H' : Hp} {p : Addr} {o : HO} (e : Same H H') (h : H p = none) : Same H (upd H' p o) := fun a u ha => by
  rw [upd_ne (ne_of_none ha h)]
  exact e a u ha
theorem _root_.L2.Same.rd {H H' : Hp} {a : Addr} {u : HO} (e : Same H H') (h : Rd H a u) : Rd H' a u := by
  rcases h with h | ⟨o, h⟩
  · exact Or.inl (e a _ h)
  · exact Or.inr ⟨o, e a _ h⟩
theorem _root_.L2.Same.sqT {K : PySem.W.Frag} {H H' : Hp} {a : Addr} {xs : List V} (e : Same H H') (h : SqT K H a xs) : SqT K H' a xs := by
  rcases h with h | h
  · exact Or.inl (e.rd h)
  · exact Or.inr h
theorem sT {K : PySem.W.Frag} {H : Hp} {a : Addr} {xs : List V} (h : H a = some (.tup xs)) : SqT K H a xs := Or.inl (Or.inl h)
theorem sL {K : PySem.W.Frag} {H : Hp} {a : Addr} {xs : List V} (h : H a = some (.lst xs)) : SqL K H a xs := Or.inl (Or.inl h)
/-- all but the object at p is as it was -/
def But (p : Addr) (H H' : Hp) : Prop := ∀ b o, H b = some o → b ≠ p → H' b = some o
theorem But.of {p : Addr} {H H' : Hp} (h : Same H H') : But p H H' := fun b o e _ => h b o e
theorem But.trans {p : Addr} {H H1 H2 : Hp} (a : But p H H1) (b : But p H1 H2) : But p H H2 := fun c o e n => b c o (a c o e n) n
theorem But.refl {p : Addr} {H : Hp} : But p H H := fun _ _ e _ => e
theorem But.upd {p : Addr} {H H' : Hp} {o : HO} (a : But p H H') : But p H (upd H' p o) := fun b u e n => by rw [upd_ne n]; exact a b u e n
theorem But.same {p : Addr} {H H' : Hp} (a : But p H H') (h : H p = none) : Same H H' := fun b o e => a b o e (ne_of_none e h)
theorem But.free {p q : Addr} {H H' : Hp} (a : But p H H') (h : H' q = none) (n : q ≠ p) : H q = none := by
  cases e : H q with
  | none => rfl
  | some o =>
    rw [a q o e n] at h
    cases h

/-! ### data in the heap -/
mutual
theorem dpSame {K : PySem.W.Frag} {H H' : Hp} (s : ∀ a u, (∃ xs, u = HO.lst xs ∨ u = HO.tup xs) → Rd H a u → Rd H' a u) : ∀ (d : PyData) (v : V), Dp K H v d → Dp K H' v d
  | .none, _, h => by cases h; exact .non
  | .bool b, _, h => by cases h; exact .bl b
  | .int i, _, h => by cases h; exact .int i
  | .str x, _, h => by cases h; exact .str x
  | .list ds, _, h => by
    cases h with
    | lst h1 h2 =>
      refine .lst ?_ (dpAllSame s ds _ h2)
      rcases h1 with h1 | h1
      · exact .inl (s _ _ ⟨_, .inl rfl⟩ h1)
      · exact .inr h1
  | .tuple ds, _, h => by
    cases h with
    | tup h1 h2 =>
      refine .tup ?_ (dpAllSame s ds _ h2)
      rcases h1 with h1 | h1
      · exact .inl (s _ _ ⟨_, .inr rfl⟩ h1)
      · exact .inr h1
  | .dict _, _, h => by cases h
theorem dpAllSame {K : PySem.W.Frag} {H H' : Hp} (s : ∀ a u, (∃ xs, u = HO.lst xs ∨ u = HO.tup xs) → Rd H a u → Rd H' a u) : ∀ (ds : List PyData) (vs : List V), DpAll K H vs ds → DpAll K H' vs ds
  | [], _, h => by cases h; exact .nil
  | d :: ds, _, h => by
    cases h with
    | cons h1 h2 => exact .cons (dpSame s d _ h1) (dpAllSame s ds _ h2)
end
theorem dpS {K : PySem.W.Frag} {H H' : Hp} (s : Same H H') {d : PyData} {v : V} (h : Dp K H v d) : Dp K H' v d := dpSame (fun _ _ _ r => s.rd r) d v h
theorem dpsS {K : PySem.W.Frag} {H H' : Hp} (s : Same H H') {ds : List PyData} {vs : List V} (h : DpAll K H vs ds) : DpAll K H' vs ds := dpAllSame (fun _ _ _ r => s.rd r) ds vs h
/-- a thing that is no list and no tuple may change -/
theorem dpB {K : PySem.W.Frag} {H H' : Hp} {p : Addr} (s : But p H H') (hp : ∀ u, Rd H p u → ∀ xs, u ≠ .lst xs ∧ u ≠ .tup xs) {d : PyData} {v : V} (h : Dp K H v d) : Dp K H' v d := by
  refine dpSame (fun a u hu r => ?_) d v h
  obtain ⟨xs, hu⟩ := hu
  have n : a ≠ p := by
    rintro rfl
    have := hp u r xs
    rcases hu with e | e
    · exact this.1 e
    · exact this.2 e
  rcases r with r | ⟨o, r⟩
  · exact .inl (s _ _ r n)
  · exact .inr ⟨o, s _ _ r n⟩
theorem dpsLen {K : PySem.W.Frag} {H : Hp} : ∀ {vs : List V} {ds : List PyData}, DpAll K H vs ds → vs.length = ds.length
  | [], _, h => by cases h; rfl
  | _ :: _, _, h => by cases h with | cons _ t => simp [dpsLen t]
theorem dpsAt {K : PySem.W.Frag} {H : Hp} : ∀ {vs : List V} {ds : List PyData} {i : Nat} {d : PyData}, DpAll K H vs ds → ds[i]? = some d → ∃ v, vs[i]? = some v ∧ Dp K H v d
  | [], _, i, d, h, e => by cases h; simp at e
  | v :: vs, _, i, d, h, e => by
    cases h with
    | cons h1 h2 =>
      cases i with
      | zero => simp at e; subst e; exact ⟨v, rfl, h1⟩
      | succ i => simp at e; obtain ⟨u, e1, e2⟩ := dpsAt h2 e; exact ⟨u, by simpa using e1, e2⟩
theorem dpsAtV {K : PySem.W.Frag} {H : Hp} : ∀ {vs : List V} {ds : List PyData} {i : Nat} {v : V}, DpAll K H vs ds → vs[i]? = some v → ∃ d, ds[i]? = some d ∧ Dp K H v d
  | [], _, i, v, h, e => by simp at e
  | v :: vs, _, i, u, h, e => by
    cases h with
    | cons h1 h2 =>
      cases i with
      | zero => simp at e; subst e; exact ⟨_, rfl, h1⟩
      | succ i => simp at e; obtain ⟨u, e1, e2⟩ := dpsAtV h2 e; exact ⟨u, by simpa using e1, e2⟩
theorem dpsApp {K : PySem.W.Frag} {H : Hp} : ∀ {vs us : List V} {ds es : List PyData}, DpAll K H vs ds → DpAll K H us es → DpAll K H (vs ++ us) (ds ++ es)
  | [], _, _, _, h, g => by cases h; exact g
  | _ :: _, _, _, _, h, g => by cases h with | cons h1 h2 => exact .cons h1 (dpsApp h2 g)
/-- a tuple's data by its items -/
theorem dpTup {K : PySem.W.Frag} {H : Hp} {v : V} {ds : List PyData} (h : Dp K H v (.tuple ds)) : ∃ a xs, v = .ref a ∧ SqT K H a xs ∧ DpAll K H xs ds := by
  cases h with
  | tup h1 h2 => exact ⟨_, _, rfl, h1, h2⟩
theorem dpLst {K : PySem.W.Frag} {H : Hp} {v : V} {ds : List PyData} (h : Dp K H v (.list ds)) : ∃ a xs, v = .ref a ∧ SqL K H a xs ∧ DpAll K H xs ds := by
  cases h with
  | lst h1 h2 => exact ⟨_, _, rfl, h1, h2⟩
theorem dpStr {K : PySem.W.Frag} {H : Hp} {v : V} {x : Str} (h : Dp K H v (.str x)) : v = .str x := by cases h; rfl
theorem dpInt {K : PySem.W.Frag} {H : Hp} {v : V} {x : Int} (h : Dp K H v (.int x)) : v = .int x := by cases h; rfl
theorem dpNone {K : PySem.W.Frag} {H : Hp} {v : V} (h : Dp K H v .none) : v = .non := by cases h; rfl
theorem dpNil {K : PySem.W.Frag} {H : Hp} {vs : List V} (h : DpAll K H vs []) : vs = [] := by cases h; rfl
theorem dpCons {K : PySem.W.Frag} {H : Hp} {vs : List V} {d : PyData} {ds : List PyData} (h : DpAll K H vs (d :: ds)) : ∃ v us, vs = v :: us ∧ Dp K H v d ∧ DpAll K H us ds := by
  cases h with
  | cons h1 h2 => exact ⟨_, _, rfl, h1, h2⟩

/-! ### forms -/
inductive Fm where
  | sign (s : Str)
  | row (ps : List Fm)
  | pick (ps : List Fm)
  | times (p : Fm) (low : Nat) (high : Option Nat)
def highD : Option Nat → PyData
  | none => .none
  | some h => .int h
def highV : Option Nat → V
  | none => .non
  | some h => .int h
theorem dpHigh {K : PySem.W.Frag} {H : Hp} {v : V} {o : Option Nat} (h : Dp K H v (highD o)) : v = highV o := by
  cases o with
  | none => exact dpNone h
  | some n => exact dpInt h
theorem highDp {K : PySem.W.Frag} {H : Hp} (o : Option Nat) : Dp K H (highV o) (highD o) := by
  cases o with
  | none => exact .non
  | some n => exact .int _
mutual
def Fm.dat : Fm → PyData
  | .sign s => .tuple [.str "sign", .str s]
  | .row ps => .tuple [.str "row", .tuple (Fm.dats ps)]
  | .pick ps => .tuple [.str "pick", .tuple (Fm.dats ps)]
  | .times p low high => .tuple [.str "times", p.dat, .int low, highD high]
def Fm.dats : List Fm → List PyData
  | [] => []
  | p :: ps => p.dat :: Fm.dats ps
end
theorem Fm.dats_map : ∀ ps : List Fm, Fm.dats ps = ps.map Fm.dat
  | [] => rfl
  | p :: ps => by rw [Fm.dats, Fm.dats_map ps, List.map_cons]
def Fm.kind : Fm → Str
  | .sign _ => "sign"
  | .row _ => "row"
  | .pick _ => "pick"
  | .times _ _ _ => "times"
def Fm.parts : Fm → List Fm
  | .sign _ => []
  | .row ps => ps
  | .pick ps => ps
  | .times p _ _ => [p]
abbrev FmAt (K : PySem.W.Frag) (H : Hp) (v : V) (f : Fm) : Prop := Dp K H v f.dat
abbrev FmsAt (K : PySem.W.Frag) (H : Hp) (vs : List V) (fs : List Fm) : Prop := DpAll K H vs (Fm.dats fs)
/-- every form is a tuple that begins with its kind -/
theorem fmTup {K : PySem.W.Frag} {H : Hp} {v : V} {f : Fm} (h : FmAt K H v f) : ∃ a xs, v = .ref a ∧ SqT K H a (.str f.kind :: xs) := by
  cases f with
  | sign s => obtain ⟨a, xs, rfl, h1, h2⟩ := dpTup h; obtain ⟨v, us, rfl, e, _⟩ := dpCons h2; cases dpStr e; exact ⟨a, us, rfl, h1⟩
  | row s => obtain ⟨a, xs, rfl, h1, h2⟩ := dpTup h; obtain ⟨v, us, rfl, e, _⟩ := dpCons h2; cases dpStr e; exact ⟨a, us, rfl, h1⟩
  | pick s => obtain ⟨a, xs, rfl, h1, h2⟩ := dpTup h; obtain ⟨v, us, rfl, e, _⟩ := dpCons h2; cases dpStr e; exact ⟨a, us, rfl, h1⟩
  | times s l u => obtain ⟨a, xs, rfl, h1, h2⟩ := dpTup h; obtain ⟨v, us, rfl, e, _⟩ := dpCons h2; cases dpStr e; exact ⟨a, us, rfl, h1⟩
theorem fmSign {K : PySem.W.Frag} {H : Hp} {v : V} {s : Str} (h : FmAt K H v (.sign s)) : ∃ a, v = .ref a ∧ SqT K H a [.str "sign", .str s] := by
  obtain ⟨a, xs, rfl, h1, h2⟩ := dpTup h; obtain ⟨v, us, rfl, e, h3⟩ := dpCons h2; cases dpStr e
  obtain ⟨v, us, rfl, e, h4⟩ := dpCons h3; cases dpStr e; cases dpNil h4; exact ⟨a, rfl, h1⟩
theorem fmRow {K : PySem.W.Frag} {H : Hp} {v : V} {ps : List Fm} (h : FmAt K H v (.row ps)) : ∃ a b vs, v = .ref a ∧ SqT K H a [.str "row", .ref b] ∧ SqT K H b vs ∧ FmsAt K H vs ps := by
  obtain ⟨a, xs, rfl, h1, h2⟩ := dpTup h; obtain ⟨v, us, rfl, e, h3⟩ := dpCons h2; cases dpStr e
  obtain ⟨v, us, rfl, e, h4⟩ := dpCons h3; obtain ⟨b, vs, rfl, h5, h6⟩ := dpTup e; cases dpNil h4; exact ⟨a, b, vs, rfl, h1, h5, h6⟩
theorem fmPick {K : PySem.W.Frag} {H : Hp} {v : V} {ps : List Fm} (h : FmAt K H v (.pick ps)) : ∃ a b vs, v = .ref a ∧ SqT K H a [.str "pick", .ref b] ∧ SqT K H b vs ∧ FmsAt K H vs ps := by
  obtain ⟨a, xs, rfl, h1, h2⟩ := dpTup h; obtain ⟨v, us, rfl, e, h3⟩ := dpCons h2; cases dpStr e
  obtain ⟨v, us, rfl, e, h4⟩ := dpCons h3; obtain ⟨b, vs, rfl, h5, h6⟩ := dpTup e; cases dpNil h4; exact ⟨a, b, vs, rfl, h1, h5, h6⟩
theorem fmTimes {K : PySem.W.Frag} {H : Hp} {v : V} {p : Fm} {low : Nat} {high : Option Nat} (h : FmAt K H v (.times p low high)) : ∃ a u, v = .ref a ∧ SqT K H a [.str "times", u, .int low, highV high] ∧ FmAt K H u p := by
  obtain ⟨a, xs, rfl, h1, h2⟩ := dpTup h; obtain ⟨v, us, rfl, e, h3⟩ := dpCons h2; cases dpStr e
  obtain ⟨u, us, rfl, e, h4⟩ := dpCons h3
  obtain ⟨v, us, rfl, e2, h5⟩ := dpCons h4; cases dpInt e2
  obtain ⟨v, us, rfl, e3, h6⟩ := dpCons h5; cases dpHigh e3; cases dpNil h6
  exact ⟨a, u, rfl, h1, e⟩
end Sw
set_option Elab.async false
set_option maxRecDepth 100000
set_option maxHeartbeats 4000000
namespace Sw
open PySem L2 PySem.Spec PyProof.Rows GenW
/-! ### any, all of a generator expression, its element of any kind -/
/-- a code object's table: it may grow -/
def TabE (P : Addr) : HO := .ext fun h => ∃ ps : Array Value, h.get? P = some { cls := .none, data := .fields ps } ∧ TriplesOk ps.toList
section
variable {X : Cx} {pins : List (Addr × Obj)} {σ : L2.St} {H : Hp} {s : Shared}
theorem tabE_ok {P : Program} {w : World} {h : Heap} {a : Addr} {ps : Array Value} (e : h.get? a = some { cls := .none, data := .fields ps }) (t : TriplesOk ps.toList) : ObjOk P w H h a (TabE a) :=
  ⟨⟨ps, e, t⟩, ⟨_, e⟩, fun _ _ ⟨ps, q, t⟩ k => ⟨ps, k _ q, t⟩⟩
theorem inv_tabE {P : Addr} {ps' : Array Value} {h' : Heap} {tk : Nat} (I : Inv X pins σ H s) (hP : H P = some (TabE P)) (k : ∀ b o, b ≠ P → s.heap.get? b = some o → h'.get? b = some o)
    (hm : h'.get? P = some { cls := .none, data := .fields ps' }) (ht : TriplesOk ps'.toList) : Inv X pins σ H { s with heap := h', toks := tk } := by
  have nN : ∀ b, H b = none → b ≠ P := fun b e z => by
    rw [z, hP] at e
    cases e
  have nO : ∀ b x, H b = some (.own x) → b ≠ P := fun b x e z => by
    rw [z, hP] at e
    cases e
  refine I.step (g' := s.gens) (d' := s.drawn) (ch := []) (fun b hb => absurd hb (by simp)) (fun b o _ _ _ e n => k b o (nN b n) e) (fun b o _ _ _ e n => ⟨o.slots, k b o (nN b n) e⟩) (fun _ _ _ _ n => n) (fun b o _ e => ?_)
    (fun _ _ e => e) (fun _ _ _ e => e) (fun b ps e => ⟨#[], by rw [e]; simp⟩) (fun m hn => ?_) (fun b u e => ?_) I.bare
  · by_cases hb : b = P
    · rw [hb]
      exact ⟨_, hm⟩
    · exact ⟨o, k b o hb e⟩
  · obtain ⟨ob, es, ep, ho, r⟩ := hn
    exact ⟨ob, es, ep, k _ ob (nN _ I.free) ho, r⟩
  · by_cases hb2 : b = P
    · subst hb2
      rw [hP] at e
      cases e
      exact tabE_ok hm ht
    · refine (I.hok b u e).stay (fun d v hd q => k d v ?_ q) (fun _ q => q) fun _ _ q => q
      rcases hd with z | z
      · rw [z]
        exact hb2
      · exact nO d _ z
theorem gen_code {M : Model} {A : Around} {E : Value → Shared → Prop} {c P : Addr} {gpos : Pos} {qual : Str} {scope : Scope} {Q : Value → Shared → Prop} (I : Inv X pins σ H s) (TB : GxR.TabB X.base X.mg c P) (hcode : X.env.code = .ref c) (hP : H P = some (TabE P))
    (hQ : ∀ code h' tk, Inv X pins σ H { s with heap := h', toks := tk } → (∀ b o, b ≠ P → s.heap.get? b = some o → h'.get? b = some o) → s.heap.objs.size ≤ h'.objs.size → Q code { s with heap := h', toks := tk }) :
    wpAny M A (genexprCode X.env gpos qual scope) Q E s := by
  obtain ⟨⟨ps, e, ht⟩, _⟩ := I.hok P _ hP
  have cd : PySem.W.CodeHd s.heap c P := TB.code.keeps fun b u e => I.bk b u e
  cases hf : codeAmong gpos ps.toList with
  | none =>
    refine wpAny_genexprCodeX hcode (cd.code e ht) (cd.tab e) hf fun c' h' tk hx hge hlt hco' _ htab' _ => ?_
    obtain ⟨o1, vs, f1, tf, fl, tg, inF, tx, tt, op, _, _, _, _, _, _, _, _, _, htr, _⟩ := hco'
    exact hQ _ h' tk (inv_tabE I hP hx htab'.2 htr) hx (Nat.le_trans hge (Nat.le_of_lt hlt))
  | some cv =>
    refine wpAny_genexprCode_hit hcode (cd.code e ht) hf ?_
    exact hQ cv s.heap s.toks I (fun _ _ _ q => q) (Nat.le_refl _)
/-! ### the frame -/
abbrev genv (X : Cx) (scope : Scope) (C : Addr) (code : Value) : Env := genEnv scope (cloFrom X.env.cells scope.names []) C code builtinsNs X.env
abbrev _root_.L2.Cx.gen (X : Cx) (s : Shared) (H : Hp) (scope : Scope) (C : Addr) (code : Value) (A' : Around) (fp : List Addr) (pn : List (Addr × Obj)) : Cx :=
  { X with A := A', s_0 := s, H_0 := H, env := genv X scope C code, outer := X.stack, stack := genv X scope C code :: X.stack, ex := fp, fn := fun _ => false, calm := true, pn := pn, xe := fun _ _ => False }
structure GenSc (scope : Scope) : Prop where
  co : (scope.isCoroutine : Bool) = false
  cell : ∀ nk ∈ scope.names, nk.2 ≠ NameKind.cell
  dot : scope.names.lookup (".0" : Str) = some (.local : NameKind)
theorem gen_start {scope : Scope} {own : List (Str × Nat)} {fp : List Addr} {pn : List (Addr × Obj)} {C : Addr} {code : Value} {A' : Around} {s' : Shared} {m : Str → Option Value} (I : Inv X pins σ H s) (ok : BlkOk X.N X.env.scope scope own) (G : GenSc scope) (hN : X.N.Nodup)
    (hfp : ∀ b ∈ fp, FpOk X pins H b ∧ b < s.heap.objs.size) (hC : s.heap.objs.size ≤ C) (hA : A'.handled = none) (hF : A'.frames = some (genv X scope C code :: X.stack))
    (hos : s'.os = s.os) (hb : AllBare s'.gens) (k : ∀ b o, s.heap.get? b = some o → s'.heap.get? b = some o) (hn : s'.heap.Ns C m)
    (hpn : ∀ p ∈ pn, s'.heap.get? p.1 = some p.2 ∧ s.heap.objs.size ≤ p.1 ∧ p.1 ≠ C ∧ ∀ v, p.2.data ≠ .cell v) :
    Inv (X.gen s H scope C code A' fp pn) [] (wipe σ (own.map (·.2))) H s' := by
  have hCap : ∀ y ∈ scope.names, y.2 = .free → ∃ c, X.env.cells.lookup y.1 = some c := fun y hy e => by
    rcases ok.free y hy e with k | k
    · exact I.ok.has _ (.inl k)
    · exact I.ok.has _ (.inr k)
  have cm : ∀ {y c}, (cloFrom X.env.cells scope.names []).lookup y = some c → X.env.cells.lookup y = some c := fun {y c} e => NdefX.clo_cm hCap e
  have clt : ∀ {y c}, X.env.cells.lookup y = some c → c < s.heap.objs.size := fun {y c} e => by
    obtain ⟨w, z⟩ := I.cell _ _ e
    exact z.lt
  have okG : (X.gen s H scope C code A' fp pn).Ok := by
    refine ⟨I.ok.mod, ok.kind, I.ok.glob, rfl, hC, fun y z c e1 e2 => I.ok.inj y z c (cm e1) (cm e2), fun y hy => ?_, fun y c z => (by cases z), fun _ => hA, hF, .inr ⟨rfl, rfl⟩, fun b hb => ⟨?_, fun y c e z => ?_⟩, I.bs, Nat.le_trans I.ok.bsz I.sz, fun b o e hb => ?_, fun b hb z => ?_, I.stack, I.stkFree⟩
    · have hy : scope.names.lookup y = some .cell ∨ scope.names.lookup y = some .free := hy
      rcases hy with hy | hy
      · exact absurd rfl (G.cell _ (PySem.mem_of_lookup hy))
      · obtain ⟨c, hc⟩ := hCap _ (PySem.mem_of_lookup hy) rfl
        exact ⟨c, NdefX.clo_has hCap (PySem.mem_of_lookup hy) hc⟩
    · exact Nat.ne_of_lt (Nat.lt_of_lt_of_le (hfp b hb).2 hC)
    · exact (hfp b hb).1.2.2.2.2.1 y c (cm e) z
    · rcases (hfp b hb).1.2.2.2.1 with z | z
      · exact I.ok.noex b o e z
      · exact absurd (Nat.lt_of_lt_of_le (Heap.lt_size e) (Nat.le_trans I.ok.bsz z)) (Nat.lt_irrefl _)
    · rcases List.mem_cons.mp (I.stkSub b z) with z | z
      · exact (hfp b hb).1.2.1 z
      · exact (hfp b hb).1.2.2.1 z
  refine ⟨okG, hos, hb, Un.kept k, ⟨m, hn, fun i y av e1 e2 e3 => ?_⟩, fun y c e => ?_, I.hok.fresh hC, fun y c e => I.freeC y c (cm e), fun p hp => ?_, I.hok.kept k, by rw [wipe_length]; exact I.len⟩
  · obtain ⟨e2, hne⟩ := wipe_some e2
    have no : ∀ kd, scope.names.lookup y = some kd → ¬ (kd = .local ∨ kd = .cell) := fun kd e hh => by
      rcases ok.own _ (PySem.mem_of_lookup e) hh with e' | e'
      · obtain ⟨p, hp, hpy⟩ := List.mem_map.mp e'
        have e3 := ok.ix p hp
        have : p.1 = y := hpy
        rw [this] at e3
        exact hne (List.mem_map.mpr ⟨p, hp, nodup_ix hN e3 e1⟩)
      · exact e' (List.mem_of_getElem? e1)
    have e3 : Vis scope y := e3
    have hfr : scope.names.lookup y = some .free := by
      rcases e3 with e3 | e3 | e3
      · exact absurd (.inl rfl) (no _ e3)
      · exact absurd (.inr rfl) (no _ e3)
      · exact e3
    obtain ⟨m0, hn0, hl⟩ := I.loc
    have hsc := ok.free _ (PySem.mem_of_lookup hfr) rfl
    have hVs : Vis X.env.scope y := hsc.elim (fun k => .inr (.inl k)) (fun k => .inr (.inr k))
    obtain ⟨w, r, q⟩ := hl i y av e1 e2 hVs
    refine ⟨w, r, .inr ⟨.inr hfr, ?_⟩⟩
    rcases q with ⟨kk, _⟩ | ⟨_, c', e', z⟩
    · have kk : X.env.scope.names.lookup y = some .local := kk
      rcases hsc with k1 | k1 <;> rw [show X.env.scope.names.lookup y = _ from k1] at kk <;> cases kk
    · exact ⟨c', NdefX.clo_has hCap (PySem.mem_of_lookup hfr) e', z.keeps k⟩
  · obtain ⟨w, z⟩ := I.cell y c (cm e)
    exact ⟨w, z.keeps k⟩
  · have hp : p ∈ pn := by simpa using hp
    obtain ⟨h1, h2, h3, h4⟩ := hpn p hp
    refine ⟨h1, I.hok.fresh h2, h3, fun z => ?_, h4⟩
    rcases List.mem_cons.mp (I.stkSub p.1 z) with z | z
    · exact absurd I.lt (by rw [← z]; exact Nat.not_lt.mpr h2)
    · exact I.nofs h2 z
end
end Sw
set_option Elab.async false
set_option maxRecDepth 100000
set_option maxHeartbeats 4000000
namespace Sw
open PySem L2 PySem.Spec PyProof.Rows GenW
/-! ### the generator's turns -/
/-- behind what the consumer does meanwhile: all objects stand, generators and tokens may have changed -/
theorem inv_later {X : Cx} {pins : List (Addr × Obj)} {σ : L2.St} {H : Hp} {s s' : Shared} (I : Inv X pins σ H s) (k : ∀ b o, s.heap.get? b = some o → s'.heap.get? b = some o) (hos : s'.os = s.os) (hb : AllBare s'.gens) : Inv X pins σ H s' :=
  I.call' (ch := []) hos (Un.kept k) (I.hok.kept k) hb fun b hb => absurd hb (by simp)
section
variable {X : Cx} {tg elt iter : Expr} {scope : Scope} {pos : Pos} {it : Addr}
abbrev genC (tg elt iter : Expr) (scope : Scope) (pos : Pos) (it : Addr) (env : Env) : Code := .compLoop (.GeneratorExp elt [⟨tg, iter, [], 0⟩] scope pos) 0 (.ref it) .none env
abbrev genS (tg elt iter : Expr) (scope : Scope) (pos : Pos) (it : Addr) (env : Env) : Code := .compStart (.GeneratorExp elt [⟨tg, iter, [], 0⟩] scope pos) 0 (.ref it) .none env
/-- at its end -/
def RG (X : Cx) (QT : Hp → Prop) : Nat → Shared → Shared → Prop := fun _ _ s₁ => ∃ σc H, Inv X [] σc H s₁ ∧ QT H
/-- a truth is handed out; if it is go, it may be asked on -/
def YG (X : Cx) (go : Bool) (QF : Hp → Prop) : Protocol := fun _ _ v s kap => ∃ b σc H, v = .bool b ∧ Inv X [] σc H s ∧ (b = !go → QF H) ∧
  (b = go → ∀ s'', (∀ b o, s.heap.get? b = some o → s''.heap.get? b = some o) → s''.os = s.os → AllBare s''.gens → kap (.send .none) s'')
/-- what a generator expression's walk asks: go the truth by which its consumer goes on -/
def GWalk (go : Bool) (J : It) (g : TG) (te : TE) (σ0 : L2.St) (vs : List Nat) (QT QF : Hp → Prop) (W : Nat → Nat → Hp → Prop) : Prop := ∀ i m H, W i m H →
  (J.stop i H ∧ QT H) ∨ (J.go i H ∧ ∃ Nx : Hp → Prop, (∀ H', Nx H' → ∃ m', m' < m ∧ W (i + 1) m' H') ∧ ∀ x H', J.yld i H x H' → g x σ0 H' fun σ2 H2 => wipe σ2 vs = σ0 ∧ te σ2 H2 fun y H3 => ∃ b, y = .bl b ∧ if b = go then Nx H3 else QF H3)
theorem seg_turns {A : Around} {fp : List Addr} {tn : Nat → Heap → Prop} {J : It} {g : TG} {te : TE} {go : Bool} {σ0 : L2.St} {vs : List Nat} {QT QF : Hp → Prop} {W : Nat → Nat → Hp → Prop}
    (hA : A.over (genC tg elt iter scope pos it X.env) [] = X.A) (hc : X.calm = true) (hx : X.xe = fun _ _ => False) (hco : X.env.scope.isCoroutine = false) (hex : ∀ b ∈ fp, b ∈ X.ex ∧ b ≠ X.env.locals ∧ b ∉ X.fs ∧ (∀ x c, X.env.cells.lookup x = some c → c ≠ b) ∧ ∀ p ∈ X.pn, p.1 ≠ b)
    (T : Turn X.prog X.w X.K tg J fp it tn) (hg : PG X tg g) (he : PE X elt te) (hw : ∀ σ : L2.St, wipe (wipe σ vs) vs = wipe σ vs) (turn : GWalk go J g te σ0 vs QT QF W) :
    ∀ (n m i : Nat) (σc : L2.St) (H : Hp) (s₀ s : Shared), m < n → W i m H → Inv X [] σc H s → wipe σc vs = σ0 → tn i s.heap → (∀ b ∈ fp, H b = none) →
      Seg (model X.prog X.w) A (fun n s₀ r s₁ => r = .ok .next ∧ RG X QT n s₀ s₁) (YG X go QF) n s₀ (genC tg elt iter scope pos it X.env) ((model X.prog X.w).den (genC tg elt iter scope pos it X.env)) [] s := by
  intro n
  induction n with
  | zero => intro m i σc H s₀ s h; exact absurd h (Nat.not_lt_zero _)
  | succ n ih =>
    intro m i σc H s₀ s hm w0 I hσ st fr
    have stat : ∀ {H' : Hp}, (∀ b ∈ fp, H' b = none) → ∀ b ∈ fp, FpOk X [] H' b := fun {H'} hn b hb => by
      obtain ⟨h1, h2, h3, h4, h5⟩ := hex b hb
      exact ⟨hn b hb, h2, h3, .inl h1, h4, fun p hp => h5 p (by simpa using hp)⟩
    have I0 : Inv X [] σ0 H s := I.weak (by rw [← hσ, wipe_length]) fun i v e => by rw [← hσ] at e; exact (wipe_some e).1
    show Seg _ A _ _ _ s₀ _ ((compTurn (.GeneratorExp elt [⟨tg, iter, [], 0⟩] scope pos) 0 (.ref it) .none X.env).onRaise (leaving X.env)) [] s
    rw [compTurn_gen, Sem.onRaise_eq_wrap]
    refine seg_bind_wrap (wpAny_standAt ?_)
    rcases turn i m H w0 with ⟨stop, qt⟩ | ⟨hgo, Nx, hN, step⟩
    · refine seg_bind_wrap ?_
      rw [hA]
      refine thn (T.done X rfl rfl rfl hc i [] s σ0 H _ I0 (stat fr) st stop) fun r s1 ⟨hr, I1⟩ => ?_
      subst hr
      exact seg_end (.ok .next) ⟨rfl, σ0, H, I1, qt⟩
    · refine seg_bind_wrap ?_
      rw [hA]
      refine thn (T.item X rfl rfl rfl hc i [] s σ0 H _ I0 (stat fr) st hgo) fun r s1 ⟨u, hr, h1⟩ => ?_
      subst hr
      refine seg_bind_wrap ?_
      rw [hA]
      refine thn h1 fun _ s2 ⟨x, H2, I2, r2, y2, st2, fr2⟩ => ?_
      have I2' := I2.pinned (stat fr2) (T.obj _ _ st2)
      refine seg_bind_wrap ?_
      rw [hA]
      have h3 := hg.run _ s2 σ0 H2 x u _ I2' r2 (step x H2 y2)
      rw [hx] at h3
      refine thnF h3 fun _ s3 ⟨σ3, H3, I3, w3, q3⟩ => ?_
      refine seg_bind_wrap ?_
      rw [List.forIn_nil]
      refine wpAny_pure ?_
      simp only [if_true]
      have hy : ∀ v, yieldOut X.env v = yieldValue v := fun v => by simp only [yieldOut, hco, Bool.false_eq_true, if_false]
      simp only [hy]
      rw [Sem.bind_eq_wrap', Sem.bind_eq_wrap', Sem.wrap_wrap, Sem.wrap_wrap]
      refine seg_wrap ?_
      rw [hA]
      have h4 := he.run _ s3 σ3 H3 _ I3 q3
      rw [hx] at h4
      refine thnF h4 fun v s4 ⟨y, H4, I4, r4, b, ey, q4⟩ => ?_
      subst ey
      obtain rfl : v = Value.bool b := r4
      have fr4 : ∀ b ∈ fp, H4 b = none := fun b hb => by
        obtain ⟨o, e, d⟩ := T.obj _ _ st2 b hb
        exact (I4.pin (b, o) (List.mem_append_right _ (List.mem_append_right _ (mem_pinsAt hb e)))).2.1
      have kp4 : ∀ b ∈ fp, ∀ o, s2.heap.get? b = some o → s4.heap.get? b = some o := fun b hb o e => (I4.pin (b, o) (List.mem_append_right _ (List.mem_append_right _ (mem_pinsAt hb e)))).1
      have I4' := I4.unpinned
      refine seg_at (seg_yield rfl rfl rfl ⟨b, σ3, H4, rfl, I4', fun hb => ?_, fun hb s'' k hos hbr => ?_⟩)
      · rw [if_neg (by rw [hb]; cases go <;> decide)] at q4
        exact q4
      · rw [if_pos hb] at q4
        obtain ⟨m', hm', w4⟩ := hN H4 q4
        refine seg_again rfl (ih m' (i + 1) σ3 H4 s'' s'' (by omega) w4 (inv_later I4' k hos hbr) w3 (T.keep _ _ _ st2 fun b hb o e => k b o (kp4 b hb o e)) fr4)
/-- .. begun -/
theorem seg_begin {A : Around} {fp : List Addr} {tn : Nat → Heap → Prop} {J : It} {g : TG} {te : TE} {go : Bool} {σ0 : L2.St} {vs : List Nat} {QT QF : Hp → Prop} {W : Nat → Nat → Hp → Prop}
    (hA : A.over (genC tg elt iter scope pos it X.env) [] = X.A) (hc : X.calm = true) (hx : X.xe = fun _ _ => False) (hco : X.env.scope.isCoroutine = false) (hex : ∀ b ∈ fp, b ∈ X.ex ∧ b ≠ X.env.locals ∧ b ∉ X.fs ∧ (∀ x c, X.env.cells.lookup x = some c → c ≠ b) ∧ ∀ p ∈ X.pn, p.1 ≠ b)
    (T : Turn X.prog X.w X.K tg J fp it tn) (hg : PG X tg g) (he : PE X elt te) (hw : ∀ σ : L2.St, wipe (wipe σ vs) vs = wipe σ vs) (turn : GWalk go J g te σ0 vs QT QF W)
    (n m : Nat) (σc : L2.St) (H : Hp) (s₀ s : Shared) (hm : m < n) (w0 : W 0 m H) (I : Inv X [] σc H s) (hσ : wipe σc vs = σ0) (st : tn 0 s.heap) (fr : ∀ b ∈ fp, H b = none) :
      Seg (model X.prog X.w) A (fun n s₀ r s₁ => r = .ok .next ∧ RG X QT n s₀ s₁) (YG X go QF) n s₀ (genS tg elt iter scope pos it X.env) ((model X.prog X.w).den (genS tg elt iter scope pos it X.env)) [] s := by
  have loop := seg_turns (scope := scope) (pos := pos) (iter := iter) hA hc hx hco hex T hg he hw turn n m 0 σc H s₀ s hm w0 I hσ st fr
  show Seg _ A _ _ _ s₀ _ ((compStart (.GeneratorExp elt [⟨tg, iter, [], 0⟩] scope pos) 0 (.ref it) .none X.env).onRaise (leaving X.env)) [] s
  unfold compStart
  rw [Sem.onRaise_eq_wrap]
  show Seg _ A _ _ _ s₀ _ ((ask >>= _).wrap _ _ _ _) [] s
  refine seg_bind_wrap (wpAny_askSetting ?_)
  split
  · exact seg_again rfl loop
  · refine seg_bind_wrap (wpAny_rule ?_)
    show Seg _ A _ _ _ s₀ _ ((standAt iter.pos >>= _).wrap _ _ _ _) [] s
    exact seg_bind_wrap (wpAny_standAt (seg_bind_wrap (T.self _ 0 s _ _ st (seg_again rfl loop))))
end
end Sw
set_option Elab.async false
set_option maxRecDepth 100000
set_option maxHeartbeats 4000000
namespace Sw
open PySem L2 PySem.Spec PyProof.Rows GenW
/-! ### all, any: the consumer -/
section
variable {X : Cx} {A : Around} {a : Addr} {g : Nat} {go : Bool} {QT QF : Hp → Prop} {R : Result → Shared → Prop}
/-- the generator sleeps or has not begun; it may be asked so often -/
def GSt (X : Cx) (A : Around) (g : Nat) (go : Bool) (QT QF : Hp → Prop) (n : Nat) (s : Shared) : Prop :=
  (∃ σc H, Inv X [] σc H s) ∧ ∃ gs, s.gens[g]? = some gs ∧ gs.Goes (model X.prog X.w) A.in1.in1 (fun n s₀ r s₁ => r = .ok .next ∧ RG X QT n s₀ s₁) (YG X go QF) n (.send .none) (s.setGen g .running)
theorem gen_next {E : Value → Shared → Prop} {n : Nat} {s : Shared} {Q : Option Value → Shared → Prop} (hh : A.handled = none) (hroom : A.depth < recursionLimit) (hpn : ∀ s' : Shared, (∀ p ∈ X.pn, s'.heap.get? p.1 = some p.2) → s'.heap.IsGen a g) (st : GSt X A g go QT QF n s)
    (hE : ∀ σc H s', Inv X [] σc H s' → QT H → Q none s') (hF : ∀ σc H s', Inv X [] σc H s' → QF H → Q (some (.bool (!go))) s') (hG : ∀ m s', n = m + 1 → GSt X A g go QT QF m s' → Q (some (.bool go)) s') :
    wpAny (model X.prog X.w) A.in1 (pyNext (.ref a)) Q E s := by
  obtain ⟨⟨σc, H, I⟩, gs, hgs, hgo⟩ := st
  have isg : ∀ {σc : L2.St} {H : Hp} {s' : Shared}, Inv X [] σc H s' → s'.heap.IsGen a g := fun I => hpn _ fun p hp => (I.pin p (List.mem_append_left _ hp)).1
  have hlt : g < s.gens.size := by
    rcases Nat.lt_or_ge g s.gens.size with h | h
    · exact h
    · rw [Array.getElem?_eq_none h] at hgs; cases hgs
  refine wpAny_gsz (n := s.gens.size) (Nat.le_refl _) ?_
  refine wpAny_pyNext_genexpQ (A := A.in1) (Y := YG X go QF) (P := RG X QT) hh I.nolimit hroom (isg I) hgs hgo (fun v s₁ gs' hb hv hsz => ?_) (fun s₁ hp h' hk hsz => ?_)
  · obtain ⟨b, σ1, H1, rfl, I1, q0, q1⟩ := hv
    have hsz : s.gens.size ≤ s₁.gens.size := by rw [← setGen_size s₁ g gs']; exact hsz
    have I2 : Inv X [] σ1 H1 (s₁.setGen g gs') := inv_later I1 (fun _ _ e => e) rfl (allBare_setGen I1.bare hb)
    by_cases e : b = go
    · have k := q1 e ((s₁.setGen g gs').setGen g .running) (fun _ _ e => e) rfl (allBare_setGen (allBare_setGen I1.bare hb) rfl)
      cases n with
      | zero => exact k.elim
      | succ m =>
        rw [e]
        exact hG m _ rfl ⟨⟨σ1, H1, I2⟩, gs', setGen_at (Nat.lt_of_lt_of_le hlt hsz), k⟩
    · have e2 : b = !go := by cases b <;> cases go <;> simp_all
      rw [e2]
      exact hF σ1 H1 _ I2 (q0 e2)
  · obtain ⟨σ1, H1, I1, qt⟩ := hp
    exact hE σ1 H1 _ (inv_later (s := s₁) I1 hk rfl (allBare_setGen I1.bare rfl)) qt
theorem all_loop (hh : A.handled = none) (hroom : A.depth < recursionLimit) (hpn : ∀ s' : Shared, (∀ p ∈ X.pn, s'.heap.get? p.1 = some p.2) → s'.heap.IsGen a g)
    (hT : ∀ σc H s', Inv X [] σc H s' → QT H → R (.ok (.ret (.bool true))) s') (hF : ∀ σc H s', Inv X [] σc H s' → QF H → R (.ok (.ret (.bool false))) s') :
    ∀ (n : Nat) (s : Shared), GSt X A g true QT QF n s → codeAny (model X.prog X.w) A (.builtin "all.loop" ⟨[.ref a], []⟩) R s := by
  intro n
  induction n with
  | zero =>
    intro s st
    refine codeAny_builtin F.entry_all_loop ?_
    rw [Around.under_plainId F.plain_all_loop _]
    show wpAny _ A.in1 (pyNext (.ref a) >>= _) _ _ s
    refine wpAny_bind (gen_next hh hroom hpn st (fun σc H s' I q => ?_) (fun σc H s' I q => ?_) (fun m s' e => by cases e))
    · exact wpAny_bind (wpAny_rule (wpAny_pure (hT σc H s' I q)))
    · refine wpAny_bind (wpAny_holding (wpAny_truthy_bool ?_))
      refine wpAny_bind (wpAny_letGo ?_)
      simp only [Bool.not_true, Bool.false_eq_true, if_false]
      exact wpAny_bind (wpAny_rule (wpAny_pure (hF σc H s' I q)))
  | succ n ih =>
    intro s st
    refine codeAny_builtin F.entry_all_loop ?_
    rw [Around.under_plainId F.plain_all_loop _]
    show wpAny _ A.in1 (pyNext (.ref a) >>= _) _ _ s
    refine wpAny_bind (gen_next hh hroom hpn st (fun σc H s' I q => ?_) (fun σc H s' I q => ?_) (fun m s' e st' => ?_))
    · exact wpAny_bind (wpAny_rule (wpAny_pure (hT σc H s' I q)))
    · refine wpAny_bind (wpAny_holding (wpAny_truthy_bool ?_))
      refine wpAny_bind (wpAny_letGo ?_)
      simp only [Bool.not_true, Bool.false_eq_true, if_false]
      exact wpAny_bind (wpAny_rule (wpAny_pure (hF σc H s' I q)))
    · cases e
      refine wpAny_bind (wpAny_holding (wpAny_truthy_bool ?_))
      refine wpAny_bind (wpAny_letGo ?_)
      simp only [if_true]
      exact wpAny_pure ⟨plainId_quiet F.plain_all_loop _, ih s' st'⟩
theorem any_loop (hh : A.handled = none) (hroom : A.depth < recursionLimit) (hpn : ∀ s' : Shared, (∀ p ∈ X.pn, s'.heap.get? p.1 = some p.2) → s'.heap.IsGen a g)
    (hT : ∀ σc H s', Inv X [] σc H s' → QT H → R (.ok (.ret (.bool false))) s') (hF : ∀ σc H s', Inv X [] σc H s' → QF H → R (.ok (.ret (.bool true))) s') :
    ∀ (n : Nat) (s : Shared), GSt X A g false QT QF n s → codeAny (model X.prog X.w) A (.builtin "any.loop" ⟨[.ref a], []⟩) R s := by
  intro n
  induction n with
  | zero =>
    intro s st
    refine codeAny_builtin F.entry_any_loop ?_
    rw [Around.under_plainId F.plain_any_loop _]
    show wpAny _ A.in1 (pyNext (.ref a) >>= _) _ _ s
    refine wpAny_bind (gen_next hh hroom hpn st (fun σc H s' I q => ?_) (fun σc H s' I q => ?_) (fun m s' e => by cases e))
    · exact wpAny_bind (wpAny_rule (wpAny_pure (hT σc H s' I q)))
    · refine wpAny_bind (wpAny_holding (wpAny_truthy_bool ?_))
      refine wpAny_bind (wpAny_letGo ?_)
      simp only [Bool.not_false, if_true]
      exact wpAny_bind (wpAny_rule (wpAny_pure (hF σc H s' I q)))
  | succ n ih =>
    intro s st
    refine codeAny_builtin F.entry_any_loop ?_
    rw [Around.under_plainId F.plain_any_loop _]
    show wpAny _ A.in1 (pyNext (.ref a) >>= _) _ _ s
    refine wpAny_bind (gen_next hh hroom hpn st (fun σc H s' I q => ?_) (fun σc H s' I q => ?_) (fun m s' e st' => ?_))
    · exact wpAny_bind (wpAny_rule (wpAny_pure (hT σc H s' I q)))
    · refine wpAny_bind (wpAny_holding (wpAny_truthy_bool ?_))
      refine wpAny_bind (wpAny_letGo ?_)
      simp only [Bool.not_false, if_true]
      exact wpAny_bind (wpAny_rule (wpAny_pure (hF σc H s' I q)))
    · cases e
      refine wpAny_bind (wpAny_holding (wpAny_truthy_bool ?_))
      refine wpAny_bind (wpAny_letGo ?_)
      simp only [Bool.false_eq_true, if_false]
      exact wpAny_pure ⟨plainId_quiet F.plain_any_loop _, ih s' st'⟩
end
/-! ### the generator made -/
section
variable {X : Cx} {tg elt iter : Expr} {scope : Scope} {own : List (Str × Nat)} {c P : Addr} {k : Nat} {wi : TI} {g : TG} {te : TE} {go : Bool} {gpos : Pos}
def tGen (P : Addr) (wi : TI) (g : TG) (te : TE) (vs : List Nat) (go : Bool) : TE := fun σ H Q => wi σ H fun J H1 => H1 P = some (TabE P) ∧ ∃ W : Nat → Nat → Hp → Prop, (∃ m, W 0 m H1) ∧
  GWalk go J g te (wipe σ vs) vs (fun H => Q (.bl go) H) (fun H => Q (.bl (!go)) H) W
abbrev genAr (X : Cx) (G : Expr) (it : Addr) (env : Env) : Around := X.A.in1.in1.over (.compLoop G 0 (.ref it) .none env) []
theorem wipe2 (σ : L2.St) (vs : List Nat) : wipe (wipe σ vs) vs = wipe σ vs := by
  refine List.ext_getElem? fun i => ?_
  by_cases h : i ∈ vs
  · by_cases hi : i < σ.length
    · have q : ∀ τ : L2.St, i < τ.length → (wipe τ vs)[i]? = some none := fun τ ht => by
        cases e : (wipe τ vs)[i]? with
        | none => rw [List.getElem?_eq_none_iff, wipe_length] at e; omega
        | some o =>
          cases o with
          | none => rfl
          | some v => exact absurd h (wipe_some e).2
      rw [q _ (by rw [wipe_length]; exact hi), q _ hi]
    · rw [List.getElem?_eq_none (by rw [wipe_length, wipe_length]; omega), List.getElem?_eq_none (by rw [wipe_length]; omega)]
  · rw [wipe_out h]
theorem room_gen {e : Expr} {it : Addr} {env : Env} {A : Around} (hr : Room (k + 1) A) {sc : Scope} {gs : List Comprehension} {ps : Pos} : Room k (A.in1.in1.over (.compLoop (.GeneratorExp e gs sc ps) 0 (.ref it) .none env) []) := by
  refine ⟨hr.hd, ?_, ?_⟩
  · have := hr.dp
    show A.depth + 0 + (1 + 0 + 0 + 0) + 3 * k + 5 < _
    omega
  · have := hr.un
    show A.units + 1 + 1 + 0 + 3 * 1 + 16 * k + 200 < _
    omega
theorem gen_made {pins : List (Addr × Obj)} {s : Shared} {σ : L2.St} {H : Hp} {Q : VK} {Q' : Value → Shared → Prop} (hr : Room (k + 1) X.A) (hN : X.N.Nodup) (TB : GxR.TabB X.base X.mg c P) (hcode : X.env.code = .ref c) (ok : BlkOk X.N X.env.scope scope own) (G : GenSc scope) (hi : PI X tg iter wi)
    (hg : ∀ (s : Shared) (H : Hp) (C : Addr) (code : Value) (A' : Around) (fp : List Addr) (pn : List (Addr × Obj)), Room k A' → PG (X.gen s H scope C code A' fp pn) tg g)
    (he : ∀ (s : Shared) (H : Hp) (C : Addr) (code : Value) (A' : Around) (fp : List Addr) (pn : List (Addr × Obj)), Room k A' → PE (X.gen s H scope C code A' fp pn) elt te)
    (hs : ∀ v, genFold iter X.env v = pure v) (I : Inv X pins σ H s) (h : tGen P wi g te (own.map (·.2)) go σ H Q)
    (hQ : ∀ (X' : Cx) (a : Addr) (gn n : Nat) (s' : Shared), X'.prog = X.prog → X'.w = X.w → (∀ s' : Shared, (∀ p ∈ X'.pn, s'.heap.get? p.1 = some p.2) → s'.heap.IsGen a gn) → GSt X' X.A gn go (fun H => Q (.bl go) H) (fun H => Q (.bl (!go)) H) n s' →
      (∀ σc H s', Inv X' [] σc H s' → Inv X pins σ H s') → s'.heap.IsGen a gn → Q' (.ref a) s') :
    wpAny (model X.prog X.w) X.A (eval (.GeneratorExp elt [⟨tg, iter, [], 0⟩] scope gpos) X.env) Q' X.xe s := by
  have hCap : ∀ y ∈ scope.names, y.2 = .free → ∃ c, X.env.cells.lookup y.1 = some c := fun y hy e => by
    rcases ok.free y hy e with k | k
    · exact I.ok.has _ (.inl k)
    · exact I.ok.has _ (.inr k)
  refine wpAny_GeneratorExp_make G.co (closure_ok hCap) G.cell G.dot ok.kind (by have := hr.dp; omega) ?_ hs
  refine thn (hi.run pins s σ H _ I h) fun xv s1 hx => thn hx fun itv s2 h2 => ?_
  obtain ⟨it, fp, tn, J, H2, e, I2, T, st2, f2, hP, W, ⟨m0, w0⟩, turn⟩ := h2
  subst e
  refine ⟨I2.nolimit, gen_code I2 TB hcode hP fun code h3 tk3 I3 k3 hsz3 => ?_⟩
  obtain ⟨bm, ob, e1, e2, e3, e4, e5, e6, e7, e8⟩ := TB.bm
  refine wpAny_builtinsFor (m := X.mg) (by rw [I3.ok.glob]; exact I3.mod.glob.keeps I3.bk) e1 e2 (I3.bk _ _ e5) e6 e7 e8 ?_
  generalize hs3 : ({ s2 with heap := h3, toks := tk3 } : Shared) = s3 at I3
  have eh3 : h3 = s3.heap := by rw [← hs3]
  subst eh3
  intro h' hn' hsb
  have es3 : s2.gens = s3.gens := by rw [← hs3]
  have st3 : tn 0 s3.heap := T.keep _ _ _ st2 fun b hb o e => k3 b o (fun z => by
    have := (f2 b hb).1
    rw [z, hP] at this
    cases this) e
  have sz3 : ∀ b ∈ fp, b < s3.heap.objs.size := fun b hb => by
    obtain ⟨o, e, _⟩ := T.obj _ _ st3 b hb
    exact Heap.lt_size e
  have hsz : h'.objs.size = s3.heap.objs.size + 1 := by rw [hsb.1, Heap.size_push]
  have keep' : ∀ b o, s3.heap.get? b = some o → h'.get? b = some o := fun b o e => hsb.extBut b o (Nat.ne_of_lt (Heap.lt_size e)) (Heap.get?_push_of_some _ e)
  generalize hgo : ({ cls := .type "generator", data := .fields #[.int s3.gens.size 0, .str "<genexpr>" (s3.toks + 1), .str (X.env.qual ++ "<genexpr>") (s3.toks + 1 + 1)] } : Obj) = gobj
  have keep5 : ∀ b o, s3.heap.get? b = some o → (h'.push gobj).get? b = some o := fun b o e => Heap.get?_push_of_some _ (keep' b o e)
  generalize hGE : (Expr.GeneratorExp elt [⟨tg, iter, [], 0⟩] scope gpos) = GE
  have hX : ∃ X', X' = X.gen s3 H2 scope s3.heap.objs.size code (genAr X GE it (genv X scope s3.heap.objs.size code)) fp [(h'.objs.size, gobj)] := ⟨_, rfl⟩
  obtain ⟨X', eX⟩ := hX
  have isg : ∀ s' : Shared, (∀ p ∈ X'.pn, s'.heap.get? p.1 = some p.2) → s'.heap.IsGen h'.objs.size s3.gens.size := fun s' hp => by
    have q := hp (h'.objs.size, gobj) (by rw [eX]; exact List.mem_singleton.mpr rfl)
    exact ⟨_, _, _, q, by rw [← hgo], by rw [← hgo], by rw [← hgo]⟩
  have hroom : Room k X'.A := by
    rw [eX, ← hGE]
    exact room_gen hr
  have hgc : gobj.data = .fields #[.int s3.gens.size 0, .str "<genexpr>" (s3.toks + 1), .str (X.env.qual ++ "<genexpr>") (s3.toks + 1 + 1)] := by rw [← hgo]
  have start : ∀ s' : Shared, s'.os = s3.os → AllBare s'.gens → (∀ b o, (h'.push gobj).get? b = some o → s'.heap.get? b = some o) → Inv X' [] (wipe σ (own.map (·.2))) H2 s' := fun s' ho hb kk => by
    rw [eX]
    refine gen_start (m := _) I3 ok G hN (fun b hb => ⟨f2 b hb, sz3 b hb⟩) (Nat.le_refl _) hr.hd ?_ ho hb (fun b o e => kk b o (keep5 b o e)) (Heap.Ns.keeps (hn'.push _) kk) fun p hp => ?_
    · have hfr := I3.ok.frames
      rw [← hGE]
      have hfr2 : X.A.in1.in1.frames = some X.stack := hfr
      unfold genAr Around.over
      rw [hfr2]
      rfl
    · rw [List.mem_singleton.mp hp]
      refine ⟨kk _ _ (Heap.get?_push_size _ (by rw [← hgo]; rfl)), by show s3.heap.objs.size ≤ h'.objs.size; omega, by show h'.objs.size ≠ s3.heap.objs.size; omega, fun v z => ?_⟩
      rw [hgc] at z
      cases z
  have back : ∀ σc H s', Inv X' [] σc H s' → Inv X pins σ H s' := fun σc H s' I' => by
    rw [eX] at I'
    exact I3.call' (ch := fp) I'.os I'.base I'.hok I'.bare fun b hb => ⟨(f2 b hb).2.2.2.1, (f2 b hb).2.1, (f2 b hb).2.2.2.2.1, (f2 b hb).2.2.2.2.2⟩
  have hbare : ∀ {c : Code}, AllBare (s3.gens.push (.fresh c)) := fun {c} => I3.bare.push rfl
  refine hQ X' h'.objs.size s3.gens.size (m0 + 1) _ (by rw [eX]) (by rw [eX]) isg ⟨⟨_, _, start _ (by rw [← hs3]) ?_ fun _ _ e => e⟩, _, Array.getElem?_push_size .., rfl, ?_⟩ back ?_
  · exact hbare
  · have I0 := start (({ heap := h'.push gobj, gens := s3.gens.push (.fresh (.compStart GE 0 (.ref it) .none (genv X scope s3.heap.objs.size code))), drawn := s3.drawn, toks := s3.toks + 1 + 1 + 1, os := s3.os } : Shared).setGen s3.gens.size .running) rfl (allBare_setGen (g := s3.gens.size) (x := .running) (s := { heap := h'.push gobj, gens := s3.gens.push (.fresh (.compStart GE 0 (.ref it) .none (genv X scope s3.heap.objs.size code))), drawn := s3.drawn, toks := s3.toks + 1 + 1 + 1, os := s3.os }) hbare rfl) fun _ _ e => e
    have hf : ∀ b ∈ fp, H2 b = none := fun b hb => (f2 b hb).1
    have st5 : tn 0 (h'.push gobj) := T.keep _ _ _ st3 fun b hb o e => keep5 b o e
    have hA : X.A.in1.in1.over (genC tg elt iter scope gpos it X'.env) [] = X'.A := by rw [eX, ← hGE]
    have key := seg_begin (X := X') (scope := scope) (pos := gpos) (iter := iter) (tg := tg) (elt := elt) (it := it) (A := X.A.in1.in1) (fp := fp) (tn := tn) (J := J) (g := g) (te := te) (go := go) (σ0 := wipe σ (own.map (·.2))) (vs := own.map (·.2))
      (QT := fun H => Q (.bl go) H) (QF := fun H => Q (.bl (!go)) H) (W := W) hA (by rw [eX]) (by rw [eX]) (by rw [eX]; exact G.co) (fun b hb => ?_) (by rw [eX]; exact T) (by rw [eX]; exact hg _ _ _ _ _ _ _ (by rw [eX] at hroom; exact hroom)) (by rw [eX]; exact he _ _ _ _ _ _ _ (by rw [eX] at hroom; exact hroom))
      (fun σ => wipe2 σ _) turn (m0 + 1) m0 _ H2 (({ heap := h'.push gobj, gens := s3.gens.push (.fresh (.compStart GE 0 (.ref it) .none (genv X scope s3.heap.objs.size code))), drawn := s3.drawn, toks := s3.toks + 1 + 1 + 1, os := s3.os } : Shared).setGen s3.gens.size .running) (({ heap := h'.push gobj, gens := s3.gens.push (.fresh (.compStart GE 0 (.ref it) .none (genv X scope s3.heap.objs.size code))), drawn := s3.drawn, toks := s3.toks + 1 + 1 + 1, os := s3.os } : Shared).setGen s3.gens.size .running) (Nat.lt_succ_self _) w0 I0 (wipe2 σ _) st5 hf
    · have eC : (genS tg elt iter scope gpos it X'.env) = .compStart GE 0 (.ref it) .none (genv X scope s3.heap.objs.size code) := by rw [eX, ← hGE]
      rw [eC] at key
      exact key
    · rw [eX]
      refine ⟨hb, Nat.ne_of_lt (sz3 b hb), fun z => ?_, fun x c e z => ?_, fun p hp => ?_⟩
      · rcases List.mem_cons.mp (I3.stkSub b z) with z | z
        · exact (f2 b hb).2.1 z
        · exact (f2 b hb).2.2.1 z
      · exact (f2 b hb).2.2.2.2.1 x c (NdefX.clo_cm hCap e) z
      · rw [List.mem_singleton.mp hp]
        have q1 : b < s3.heap.objs.size := sz3 b hb
        show h'.objs.size ≠ b
        rw [hsz]
        exact Nat.ne_of_gt (Nat.lt_succ_of_lt q1)
  · exact ⟨_, _, _, Heap.get?_push_size _ (by rw [← hgo]; rfl), by rw [← hgo], by rw [← hgo], by rw [← hgo]⟩
theorem pe_allG {x : Str} {p pos : Pos} (hx : x = "all") (hr : Room (k + 1) X.A) (hgl : Gl X x) (hm : X.mg x = none) (hN : X.N.Nodup) (TB : GxR.TabB X.base X.mg c P) (hcode : X.env.code = .ref c) (ok : BlkOk X.N X.env.scope scope own) (G : GenSc scope) (hi : PI X tg iter wi)
    (hg : ∀ (s : Shared) (H : Hp) (C : Addr) (code : Value) (A' : Around) (fp : List Addr) (pn : List (Addr × Obj)), Room k A' → PG (X.gen s H scope C code A' fp pn) tg g)
    (he : ∀ (s : Shared) (H : Hp) (C : Addr) (code : Value) (A' : Around) (fp : List Addr) (pn : List (Addr × Obj)), Room k A' → PE (X.gen s H scope C code A' fp pn) elt te)
    (hs : ∀ v, genFold iter X.env v = pure v := by intro _; rfl)
    (hst : starEach [.GeneratorExp elt [⟨tg, iter, [], 0⟩] scope gpos] X.env = (false, eval (.GeneratorExp elt [⟨tg, iter, [], 0⟩] scope gpos) X.env) :: starEach [] X.env := by rfl) :
    PE X (.Call (.Name x p) [.GeneratorExp elt [⟨tg, iter, [], 0⟩] scope gpos] [] pos) (tGen P wi g te (own.map (·.2)) true) := by
  subst hx
  refine ⟨fun pins s σ H Q I h => ?_⟩
  refine wpAny_Call_Name_kw (ld_blt I hgl hm (show bootBuiltins "all" = some (.builtin "all") by decide +kernel) ?_)
  refine PyProof.Rows.callWith_builtin1 ?_ hst (by rfl)
  rw [hst]
  show wpAny _ _ (spliced ((false, eval (.GeneratorExp elt [⟨tg, iter, [], 0⟩] scope gpos) X.env) :: backTo pos (starEach [] X.env))) _ _ s
  refine Calls.spliced_cons (gen_made hr hN TB hcode ok G hi hg he hs I h fun X' a gn n s' ep ew isg st back hgen => ?_)
  refine Calls.spliced_nil ?_
  refine call_function_tree F.kind_all F.plain_all F.entry_all (F.args_all1 _) ?_
  unfold Builtin.«all»
  refine wpAny_bind (wpAny_of_eq (a := Value.ref a) (by rfl) ?_)
  refine wpAny_bind (wpAny_pyIter_gen hgen ?_)
  refine wpAny_pure ⟨plainId_quiet F.plain_all_loop _, ?_⟩
  rw [← ep, ← ew]
  refine all_loop hr.hd (by have := hr.dp; omega) isg (fun σc H' s'' I' q => ?_) (fun σc H' s'' I' q => ?_) n s' st
  · exact ⟨.bl true, H', back _ _ _ I', rfl, q⟩
  · exact ⟨.bl false, H', back _ _ _ I', rfl, q⟩
theorem pe_anyG {x : Str} {p pos : Pos} (hx : x = "any") (hr : Room (k + 1) X.A) (hgl : Gl X x) (hm : X.mg x = none) (hN : X.N.Nodup) (TB : GxR.TabB X.base X.mg c P) (hcode : X.env.code = .ref c) (ok : BlkOk X.N X.env.scope scope own) (G : GenSc scope) (hi : PI X tg iter wi)
    (hg : ∀ (s : Shared) (H : Hp) (C : Addr) (code : Value) (A' : Around) (fp : List Addr) (pn : List (Addr × Obj)), Room k A' → PG (X.gen s H scope C code A' fp pn) tg g)
    (he : ∀ (s : Shared) (H : Hp) (C : Addr) (code : Value) (A' : Around) (fp : List Addr) (pn : List (Addr × Obj)), Room k A' → PE (X.gen s H scope C code A' fp pn) elt te)
    (hs : ∀ v, genFold iter X.env v = pure v := by intro _; rfl)
    (hst : starEach [.GeneratorExp elt [⟨tg, iter, [], 0⟩] scope gpos] X.env = (false, eval (.GeneratorExp elt [⟨tg, iter, [], 0⟩] scope gpos) X.env) :: starEach [] X.env := by rfl) :
    PE X (.Call (.Name x p) [.GeneratorExp elt [⟨tg, iter, [], 0⟩] scope gpos] [] pos) (tGen P wi g te (own.map (·.2)) false) := by
  subst hx
  refine ⟨fun pins s σ H Q I h => ?_⟩
  refine wpAny_Call_Name_kw (ld_blt I hgl hm boot_any ?_)
  refine PyProof.Rows.callWith_builtin1 ?_ hst (by rfl)
  rw [hst]
  show wpAny _ _ (spliced ((false, eval (.GeneratorExp elt [⟨tg, iter, [], 0⟩] scope gpos) X.env) :: backTo pos (starEach [] X.env))) _ _ s
  refine Calls.spliced_cons (gen_made hr hN TB hcode ok G hi hg he hs I h fun X' a gn n s' ep ew isg st back hgen => ?_)
  refine Calls.spliced_nil ?_
  refine call_function_tree F.kind_any F.plain_any F.entry_any (F.args_any1 _) ?_
  unfold Builtin.«any»
  refine wpAny_bind (wpAny_of_eq (a := Value.ref a) (by rfl) ?_)
  refine wpAny_bind (wpAny_pyIter_gen hgen ?_)
  refine wpAny_pure ⟨plainId_quiet F.plain_any_loop _, ?_⟩
  rw [← ep, ← ew]
  refine any_loop hr.hd (by have := hr.dp; omega) isg (fun σc H' s'' I' q => ?_) (fun σc H' s'' I' q => ?_) n s' st
  · exact ⟨.bl false, H', back _ _ _ I', rfl, q⟩
  · exact ⟨.bl true, H', back _ _ _ I', rfl, q⟩
end
/-! ### what the walks ask, by lists -/
theorem gw_tup {K : PySem.W.Frag} {a : Addr} {xs : List V} {go : Bool} {g : TG} {te : TE} {σ0 : L2.St} {vs : List Nat} {QT QF : Hp → Prop} {H : Hp} (Pv : Nat → Hp → Prop) (h0 : Pv 0 H) (hl : ∀ i H, i ≤ xs.length → Pv i H → SqT K H a xs)
    (hs : ∀ i x H, xs[i]? = some x → Pv i H → g x σ0 H fun σ2 H2 => wipe σ2 vs = σ0 ∧ te σ2 H2 fun y H3 => ∃ b, y = .bl b ∧ if b = go then Pv (i + 1) H3 else QF H3) (hd : ∀ H, Pv xs.length H → QT H) :
    ∃ W : Nat → Nat → Hp → Prop, (∃ m, W 0 m H) ∧ GWalk go (Itt K a) g te σ0 vs QT QF W := by
  refine ⟨fun i m H => i ≤ xs.length ∧ m = xs.length - i ∧ Pv i H, ⟨xs.length, Nat.zero_le _, by simp, h0⟩, ?_⟩
  rintro i m H ⟨hi, rfl, hp⟩
  have hL := hl i H hi hp
  by_cases e : i = xs.length
  · exact .inl ⟨⟨xs, hL, by omega⟩, hd H (by rw [← e]; exact hp)⟩
  · have hlt : i < xs.length := by omega
    refine .inr ⟨⟨xs, xs[i], hL, List.getElem?_eq_getElem hlt⟩, Pv (i + 1), fun H' hq => ⟨_, by omega, hlt, rfl, hq⟩, fun x H' hy => ?_⟩
    obtain ⟨rfl, hx⟩ := hy
    exact hs i x _ (hx xs hL) hp
theorem gw_list {K : PySem.W.Frag} {a : Addr} {xs : List V} {go : Bool} {g : TG} {te : TE} {σ0 : L2.St} {vs : List Nat} {QT QF : Hp → Prop} {H : Hp} (Pv : Nat → Hp → Prop) (h0 : Pv 0 H) (hl : ∀ i H, i ≤ xs.length → Pv i H → SqL K H a xs)
    (hs : ∀ i x H, xs[i]? = some x → Pv i H → g x σ0 H fun σ2 H2 => wipe σ2 vs = σ0 ∧ te σ2 H2 fun y H3 => ∃ b, y = .bl b ∧ if b = go then Pv (i + 1) H3 else QF H3) (hd : ∀ H, Pv xs.length H → QT H) :
    ∃ W : Nat → Nat → Hp → Prop, (∃ m, W 0 m H) ∧ GWalk go (Itl K a) g te σ0 vs QT QF W := by
  refine ⟨fun i m H => i ≤ xs.length ∧ m = xs.length - i ∧ Pv i H, ⟨xs.length, Nat.zero_le _, by simp, h0⟩, ?_⟩
  rintro i m H ⟨hi, rfl, hp⟩
  have hL := hl i H hi hp
  by_cases e : i = xs.length
  · exact .inl ⟨⟨xs, hL, by omega⟩, hd H (by rw [← e]; exact hp)⟩
  · have hlt : i < xs.length := by omega
    refine .inr ⟨⟨xs, xs[i], hL, List.getElem?_eq_getElem hlt⟩, Pv (i + 1), fun H' hq => ⟨_, by omega, hlt, rfl, hq⟩, fun x H' hy => ?_⟩
    obtain ⟨rfl, hx⟩ := hy
    exact hs i x _ (hx xs hL) hp
end Sw
set_option Elab.async false
set_option maxRecDepth 100000
set_option maxHeartbeats 4000000
namespace Sw
open PySem L2 PySem.Spec PyProof.Rows GenW
/-! ### the end of a law over defs with generator expressions: their tables are tracked as things that may grow -/
abbrev Tabs (ts : List (Addr × Addr)) (H : Hp) : Prop := ∀ p ∈ ts, H p.2 = some (TabE p.2)
theorem Tabs.same {ts : List (Addr × Addr)} {H H' : Hp} (h : Tabs ts H) (s : Same H H') : Tabs ts H' := fun p hp => s _ _ (h p hp)
theorem law_callE {P : Program} {w : World} {K : PySem.W.Frag} {mg mb : Str → Option Value} {k : Nat} {fa a : Addr} {cs : List (Addr × Addr)} {fd : FuncData} {x : Str} {sp : Sp} {s₁ : Shared} {vs : List Value} {ns : List Int}
    (KX : K.In s₁.heap) (hns : s₁.heap.Ns mainGlobals mg) (hb : s₁.heap.Ns builtinsNs mb) (hbb : ∀ x : Str, x ≠ "__name__" → mb x = bootBuiltins x) (hlim : s₁.heap.NoLimit) (hg : s₁.gens = #[])
    (hT : ∀ p ∈ cs, s₁.heap.get? p.2 = some { cls := .none, data := .fields #[] }) (nT : ∀ p ∈ cs, K.lookup p.2 = none) (C : ∀ p ∈ cs, PySem.W.CodeHd s₁.heap p.1 p.2)
    (hbm : ∃ (bm : Addr) (ob : Obj), mg "__builtins__" = some (.ref bm) ∧ bm ≠ builtinsNs ∧ s₁.heap.get? bm = some ob ∧ ob.cls = .type "module" ∧ ob.dict = some builtinsNs ∧ ob.data = .plain)
    (ha : s₁.heap.get? a = some { cls := .type "list", data := .seq vs.toArray }) (hi : IntsAre vs ns) (hl : ns.length ≤ sizeLine) (hr : Room k callerA)
    (F : ∀ base : Heap, K.In base → base.Ns mainGlobals mg → (∀ p ∈ cs, GxR.TabB base mg p.1 p.2) → FnOk P w K mg base CX0 k fa fd [x] sp) (hbind : ∀ (s : Shared) (u : Value), BindsTo s fd ⟨[u], []⟩ [(x, u)])
    (hsp : ∀ H : Hp, Tabs cs H → SqL K H a (ns.map V.int) → sp [.ref a] H (fun v H' => v = .bl true ∧ Tabs cs H') fun _ _ _ => False) :
    codeAny (model P w) callerA (.call (.ref fa) ⟨[.ref a], []⟩) (fun r s' => r = .ok (.ret (.bool true)) ∧ OldK s₁.heap s'.heap ∧ s'.os = s₁.os ∧ AllBare s'.gens) s₁ := by
  have rv := vals_ints hi
  have lenV := hi.length
  have isT : ∀ b : Addr, b ∈ cs.map (·.2) → s₁.heap.get? b = some { cls := .none, data := .fields #[] } := fun b hb => by
    obtain ⟨p, hp, e⟩ := List.mem_map.mp hb
    rw [← e]
    exact hT p hp
  have aT : a ∉ cs.map (·.2) := fun z => by
    have q := isT a z
    rw [ha] at q
    have z' : Data.seq vs.toArray _ = Data.fields #[] := congrArg Obj.data (Option.some.inj q)
    cases z'
  have memT : ∀ p ∈ cs, p.2 ∈ cs.map (·.2) := fun p hp => List.mem_map.mpr ⟨p, hp, rfl⟩
  have core : ∀ H : Hp, Tabs cs H → (∀ b, H b = none ∨ b ∈ cs.map (·.2) ∨ ∃ o xs, H b = some (.frz o (.lst xs))) → SqL K H a (ns.map V.int) → HOk P w H s₁.heap → (∀ b, H b ≠ none → b = a ∨ b ∈ cs.map (·.2)) → (H a ≠ none → K.lookup a = none) →
      codeAny (model P w) callerA (.call (.ref fa) ⟨[.ref a], []⟩) (fun r s' => r = .ok (.ret (.bool true)) ∧ OldK s₁.heap s'.heap ∧ s'.os = s₁.os ∧ AllBare s'.gens) s₁ := by
    intro H hH hO hS hok hA hK
    have base_of : ∀ {b : Addr} {o : Obj}, s₁.heap.get? b = some o → H b = none → (hidT s₁.heap H).get? b = some o := fun e n => hidT_get e n
    have noD : ∀ {b : Addr} {o : Obj}, s₁.heap.get? b = some o → (∀ vs n, o.data ≠ .seq vs n) → o.data ≠ .fields #[] → H b = none := fun {b o} e h1 h2 => by
      cases q : H b with
      | none => rfl
      | some u =>
        rcases hA b (by rw [q]; simp) with e' | e'
        · rw [e', ha] at e
          cases e
          exact (h1 _ _ rfl).elim
        · rw [isT b e'] at e
          cases e
          exact (h2 rfl).elim
    have noA : ∀ {b : Addr} {o : Obj} {es : Array DictEntry} {ep : Nat}, s₁.heap.get? b = some o → o.data = .dict es ep → H b = none := fun {b o es ep} e d => by
      refine noD e (fun vs n z => ?_) fun z => ?_
      · rw [d] at z
        cases z
      · rw [d] at z
        cases z
    have nsK : ∀ {b : Addr} {m : Str → Option Value}, s₁.heap.Ns b m → (hidT s₁.heap H).Ns b m := fun {b m} ⟨o, es, ep, e, d, r⟩ => ⟨o, es, ep, base_of e (noA e d), d, r⟩
    have hKb : K.In (hidT s₁.heap H) := fun b o e => base_of (KX b o e) (by
      cases q : H b with
      | none => rfl
      | some u =>
        rcases hA b (by rw [q]; simp) with e' | e'
        · rw [e'] at e q
          rw [hK (by rw [q]; simp)] at e
          cases e
        · obtain ⟨p, hp, ep⟩ := List.mem_map.mp e'
          rw [← ep, nT p hp] at e
          cases e)
    have hM : L2.Mod K mg (hidT s₁.heap H) := ⟨hKb, nsK hns, ⟨mb, nsK hb, hbb⟩, let ⟨mc, h1, h2⟩ := hlim; ⟨mc, nsK h1, h2⟩⟩
    have TB : ∀ p ∈ cs, GxR.TabB (hidT s₁.heap H) mg p.1 p.2 := fun p hp => by
      have hTp := hT p hp
      refine ⟨?_, ?_, fun z => ?_⟩
      · obtain ⟨o, us, file, tf, flags, tg, inF, text, tt, e1, r1, r2, r3, r4, r5, r6, r7, r8, hne⟩ := C p hp
        refine ⟨o, us, file, tf, flags, tg, inF, text, tt, base_of e1 (noD e1 (fun vs n z => ?_) fun z => ?_), r1, r2, r3, r4, r5, r6, r7, r8, hne⟩
        · rw [r2] at z
          cases z
        · rw [r2] at z
          cases z
          simp at r3
      · obtain ⟨bm, ob, b1, b2, b3, b4, b5, b6⟩ := hbm
        have nG : bm ≠ mainGlobals := fun q => by
          obtain ⟨o, es, ep, e, hd, _⟩ := hns
          rw [q, e] at b3
          cases b3
          rw [hd] at b6
          cases b6
        have nP : bm ≠ p.2 := fun q => by
          rw [q, hTp] at b3
          cases b3
          cases b6
        refine ⟨bm, ob, b1, b2, nG, nP, base_of b3 (noD b3 (fun vs n z => ?_) fun z => ?_), b4, b5, b6⟩
        · rw [b6] at z
          cases z
        · rw [b6] at z
          cases z
      · obtain ⟨o, es, ep, e, hd, _⟩ := hns
        rw [z, hTp] at e
        cases e
        cases hd
    have e0 : Env0 P w K mg (hidT s₁.heap H) callerA [] s₁ H := ⟨rfl, hM, fun b o e => of_hidT e, Nat.le_of_eq (hidT_size _ _), trivial, fun b hb => absurd (show b ∈ ([] : List Addr) from hb) (by simp), hok, .of_eq hg⟩
    refine codeAny_mono ((F _ hKb (nsK hns) TB).run callerA [] s₁ H ⟨[.ref a], []⟩ [.ref a] [.ref a] _ _ hr e0 (hbind s₁ (.ref a)) (.cons rfl .nil) (hsp H hH hS)) fun r s' h => ?_
    cases r with
    | error e => exact False.elim h
    | ok fl =>
      cases fl with
      | next => exact False.elim h
      | brk => exact False.elim h
      | cont => exact False.elim h
      | ret u =>
        obtain ⟨v, H', os, bare, un, hok', r', q⟩ := h
        obtain ⟨qv, qT⟩ := q
        subst qv
        obtain rfl : u = Value.bool true := r'
        have stays : ∀ b o, b ∉ cs.map (·.2) → s₁.heap.get? b = some o → s'.heap.get? b = some o := fun b o nb e => by
          cases q : H b with
          | none => exact un.keep b o e q (by intro z; exact absurd (show b ∈ ([] : List Addr) from z) (by simp)) (by simp)
          | some u =>
            rcases hO b with z | z | ⟨ob, xs, z⟩
            · rw [q] at z; cases z
            · exact absurd z nb
            · obtain ⟨e1, _⟩ := hok b _ z
              obtain ⟨e2, _⟩ := hok' b _ (un.frzs b ob _ z)
              rw [e] at e1; cases e1
              exact e2
        have grew : ∀ p ∈ cs, ∃ more : Array Value, s'.heap.get? p.2 = some { cls := .none, data := .fields more } := fun p hp => by
          obtain ⟨⟨ps, z, _⟩, _⟩ := hok' p.2 _ (qT p hp)
          exact ⟨ps, z⟩
        refine ⟨rfl, ⟨fun b o e => ?_, fun b o e => ?_⟩, os, bare⟩
        · by_cases hb : b ∈ cs.map (·.2)
          · obtain ⟨p, hp, ep⟩ := List.mem_map.mp hb
            obtain ⟨more, hm⟩ := grew p hp
            rw [← ep] at e ⊢
            rw [hT p hp] at e
            cases e
            exact .inr (.inl ⟨((C p hp).tab (hT p hp)).isCodeTable, rfl, #[], more, rfl, by rw [Array.empty_append]; exact hm⟩)
          · exact .inl (stays b o hb e)
        · by_cases hb : b ∈ cs.map (·.2)
          · obtain ⟨p, hp, ep⟩ := List.mem_map.mp hb
            obtain ⟨more, hm⟩ := grew p hp
            rw [← ep]
            exact ⟨_, hm⟩
          · exact ⟨o, stays b o hb e⟩
  have tOk : ∀ {H : Hp} {b : Addr}, b ∈ cs.map (·.2) → ObjOk P w H s₁.heap b (TabE b) := fun hb => tabE_ok (isT _ hb) (by trivial)
  cases hk : K.lookup a with
  | some o =>
    have e := KX a o hk
    rw [ha] at e
    cases e
    refine core (fun b => if b ∈ cs.map (·.2) then some (TabE b) else none) (fun p hp => if_pos (memT p hp)) (fun b => ?_) (.inr ⟨_, vs.toArray, _, hk, rfl, rfl, rfl, by rw [List.size_toArray, lenV]; exact hl, by simpa using rv⟩) (fun b u z => ?_) (fun b z => ?_) fun z => absurd (show (if a ∈ cs.map (·.2) then some (TabE a) else none) = none from if_neg aT) z
    · by_cases hb : b ∈ cs.map (·.2)
      · exact .inr (.inl hb)
      · exact .inl (if_neg hb)
    · by_cases hb : b ∈ cs.map (·.2)
      · have z' := (if_pos hb).symm.trans z
        cases z'
        exact tOk hb
      · have z' := (if_neg hb).symm.trans z
        cases z'
    · by_cases hb : b ∈ cs.map (·.2)
      · exact .inr hb
      · exact absurd (if_neg hb) z
  | none =>
    refine core (fun b => if b = a then some (.frz { cls := .type "list", data := .seq vs.toArray } (.lst (ns.map V.int))) else if b ∈ cs.map (·.2) then some (TabE b) else none) (fun p hp => (if_neg (show ¬ p.2 = a from fun z => aT (by rw [← z]; exact memT p hp))).trans (if_pos (memT p hp))) (fun b => ?_)
      (.inl (.inr ⟨{ cls := .type "list", data := .seq vs.toArray }, if_pos rfl⟩)) (fun b u z => ?_) (fun b z => ?_) fun _ => hk
    · by_cases hb : b = a
      · exact .inr (.inr ⟨_, _, if_pos hb⟩)
      · by_cases hb2 : b ∈ cs.map (·.2)
        · exact .inr (.inl hb2)
        · exact .inl ((if_neg hb).trans (if_neg hb2))
    · by_cases hb : b = a
      · have z' := (if_pos hb).symm.trans z
        cases z'
        rw [hb]
        exact ⟨ha, by rw [List.length_map]; exact hl, vs, _, rv, ha⟩
      · have z1 := (if_neg hb).symm.trans z
        by_cases hb2 : b ∈ cs.map (·.2)
        · have z' := (if_pos hb2).symm.trans z1
          cases z'
          exact tOk hb2
        · have z' := (if_neg hb2).symm.trans z1
          cases z'
    · by_cases hb : b = a
      · exact .inl hb
      · by_cases hb2 : b ∈ cs.map (·.2)
        · exact .inr hb2
        · exact absurd ((if_neg hb).trans (if_neg hb2)) z
/-- the tables of the defs that stand under these names: empty at the law's entry -/
def OwnT (K : PySem.W.Frag) (h : Heap) (x : Str) (c P : Addr) : Prop := ∀ (f : Addr) (o : Obj) (fd : FuncData) (e : Value) (dd : Option Addr) (vs : Array Value) (sl : Array (Option Value)), PySem.W.nsIn K mainGlobals x = some (some (.ref f)) → K.lookup f = some o → o.data = .func fd → fd.code = .ref c → K.lookup c = some ⟨e, dd, .fields vs, sl⟩ → vs[11]? = some (.ref P) →
  h.get? P = some { cls := .none, data := .fields #[] } ∧ PySem.W.CodeHd h c P
theorem walk_ofE {l : PySem.W.OpenLaw} {n k : Nat} {q : Program} {loose : List Str} {XP : (Str → Option Value) → Heap → Prop} {YP : World → Heap → Prop} {d : DefRec} {K : Params → PySem.W.Frag} {x : Str}
    (hn : l.most = some n) (hn2 : n ≤ sizeLine) (hdf : d.params.defaults = []) (hr : Room k callerA) (hY : ∀ (w : World) (h : Heap), YP w h → (K w.params).In h)
    (F : ∀ (w : World) (mg : Str → Option Value) (fa : Addr) (h : Heap), (K w.params).In h → h.Ns mainGlobals mg → mg d.name = some (.ref fa) → (∀ x c P, ((recsOf q).any fun e => e.name == x) = true → OwnT (K w.params) h x c P) →
      ∃ (fd : FuncData) (cs : List (Addr × Addr)) (sp : Sp), (∀ p ∈ cs, h.get? p.2 = some { cls := .none, data := .fields #[] }) ∧ (∀ p ∈ cs, (K w.params).lookup p.2 = none) ∧ (∀ p ∈ cs, PySem.W.CodeHd h p.1 p.2) ∧ (∀ (s : Shared) (u : Value), BindsTo s fd ⟨[u], []⟩ [(x, u)]) ∧
        (∀ (H : Hp) (a : Addr) (ns : List Int), ns.length ≤ n → (∀ z ∈ ns, Builtin.Int.intBits z ≤ 1048576) → Tabs cs H → SqL (K w.params) H a (ns.map V.int) → sp [.ref a] H (fun v H' => v = .bl true ∧ Tabs cs H') fun _ _ _ => False) ∧
        ∀ base : Heap, (K w.params).In base → base.Ns mainGlobals mg → (∀ p ∈ cs, GxR.TabB base mg p.1 p.2) → FnOk l.prog w (K w.params) mg base CX0 k fa fd [x] sp) :
    PySem.W.WalkO q loose XP YP l.row.toRowW d [] (fun f vs => PySem.call f vs) := by
  refine Att.attach_callB hn hdf fun w s₀ s₁ mg mb fa o pm cd doc a vs ns G Y ho hd hcd hmg hobj hints hlen hbits hg => ?_
  have KX := hY w _ Y
  obtain ⟨fd, cs, sp, hT, nT, C, hb, hsp, hF⟩ := F w mg fa _ KX G.T.g hmg fun x c P hrec f o1 fd1 e dd vs1 sl k0 k1 k2 k3 k4 k5 => by
    obtain ⟨dL, hm, hn1⟩ := List.any_eq_true.mp hrec
    have hn2 : dL.name = x := beq_iff_eq.mp hn1
    obtain ⟨a', o', fd', c', P', h1, h2, h3, h4, h5, h6⟩ := G.T.tab dL hm
    have q0 := PySem.W.mg_of KX G.T.g k0
    rw [hn2, q0] at h1
    cases h1
    have g1 := KX _ _ k1
    rw [g1] at h2
    cases h2
    rw [k2] at h3
    cases h3
    rw [k3] at h4
    cases h4
    have h6' := h6
    obtain ⟨⟨oc, vc, e1, _, e3, e4⟩, hP⟩ := h6
    have g2 := KX _ _ k4
    rw [g2] at e1
    cases e1
    cases e3
    rw [k5] at e4
    cases e4
    exact ⟨hP, PySem.W.CodeHd.of h5 h6'⟩
  exact law_callE KX G.T.g G.T.b G.T.builtins G.T.nolimit hg hT nT C G.T.bmain hobj hints (Nat.le_trans hlen hn2) hr hF hb (fun H hH hS => hsp H a ns hlen hbits hH hS)
end Sw
set_option Elab.async false
set_option maxRecDepth 100000
set_option maxHeartbeats 4000000
namespace Sw
open PySem L2 PySem.Spec PyProof.Rows
/-! ### set comprehensions of texts, of one clause and of two -/
/-- a comprehension's turn: M what a kept item does -/
def turnOf (p : Pos) (it : Value) (tg : Expr) (ifs : List Expr) (env : Env) (M : Sem PySem.Fin) (code : Code) : Sem PySem.Fin := do
  standAt p
  match ← pyNext it with
  | none => pure (.done .next)
  | some v =>
    letOwnedTupleGo tg it v
    assign tg env v
    let mut ok := true
    for c in ifs do
      if ok then ok ← isTrue c env (eval c env)
    if ok then M else again code
theorem turn1 (elt tg iter : Expr) (ifs : List Expr) (scope : Scope) (pos : Pos) (it acc : Value) (env : Env) :
    compTurn (.SetComp elt [⟨tg, iter, ifs, 0⟩] scope pos) 0 it acc env = turnOf iter.pos it tg ifs env (do (do let v ← eval elt env; standAt elt.pos; let _ ← call (.builtin "set.add") [acc, v]); again (.compLoop (.SetComp elt [⟨tg, iter, ifs, 0⟩] scope pos) 0 it acc env)) (.compLoop (.SetComp elt [⟨tg, iter, ifs, 0⟩] scope pos) 0 it acc env) := by rfl
theorem turn2o (elt tg iter tg1 iter1 : Expr) (ifs ifs1 : List Expr) (scope : Scope) (pos : Pos) (it acc : Value) (env : Env) :
    compTurn (.SetComp elt [⟨tg, iter, ifs, 0⟩, ⟨tg1, iter1, ifs1, 0⟩] scope pos) 0 it acc env = turnOf iter.pos it tg ifs env (do
      let x ← eval iter1 env
      standAt iter1.pos
      let x ← foldedSetIterable iter1 env x
      let _ ← runOwn (.compStart (.SetComp elt [⟨tg, iter, ifs, 0⟩, ⟨tg1, iter1, ifs1, 0⟩] scope pos) 1 (← holding [x] (pyIter x)) acc env) env
      again (.compLoop (.SetComp elt [⟨tg, iter, ifs, 0⟩, ⟨tg1, iter1, ifs1, 0⟩] scope pos) 0 it acc env)) (.compLoop (.SetComp elt [⟨tg, iter, ifs, 0⟩, ⟨tg1, iter1, ifs1, 0⟩] scope pos) 0 it acc env) := by rfl
theorem turn2i (elt tg iter tg1 iter1 : Expr) (ifs ifs1 : List Expr) (scope : Scope) (pos : Pos) (it acc : Value) (env : Env) :
    compTurn (.SetComp elt [⟨tg, iter, ifs, 0⟩, ⟨tg1, iter1, ifs1, 0⟩] scope pos) 1 it acc env = turnOf iter1.pos it tg1 ifs1 env (do (do let v ← eval elt env; standAt elt.pos; let _ ← call (.builtin "set.add") [acc, v]); again (.compLoop (.SetComp elt [⟨tg, iter, ifs, 0⟩, ⟨tg1, iter1, ifs1, 0⟩] scope pos) 1 it acc env))
      (.compLoop (.SetComp elt [⟨tg, iter, ifs, 0⟩, ⟨tg1, iter1, ifs1, 0⟩] scope pos) 1 it acc env) := by rfl
/-- a walk with a thing done each turn, told by heaps; the block's slots are σ0 at each turn's begin -/
def CWalk (J : It) (g : TG) (tt : TT) (body : L2.St → Hp → (Hp → Prop) → Prop) (σ0 : L2.St) (vs : List Nat) (QT : Hp → Prop) (W : Nat → Nat → Hp → Prop) : Prop := ∀ i m H, W i m H →
  (J.stop i H ∧ QT H) ∨ (J.go i H ∧ ∃ Nx : Hp → Prop, (∀ H', Nx H' → ∃ m', m' < m ∧ W (i + 1) m' H') ∧ ∀ x H', J.yld i H x H' → g x σ0 H' fun σ2 H2 => wipe σ2 vs = σ0 ∧ tt σ2 H2 fun b H3 => if b = true then body σ2 H3 Nx else Nx H3)
/-- what M does in a block: from σ2, H to the wish, the slots those that were known -/
def Does (Y : Cx) (M : Sem PySem.Fin) (code : Code) (body : L2.St → Hp → (Hp → Prop) → Prop) (vs : List Nat) : Prop := ∀ (pins : List (Addr × Obj)) (s : Shared) (σ2 : L2.St) (H : Hp) (Nx : Hp → Prop), Inv Y pins σ2 H s → body σ2 H Nx →
  wpAny (model Y.prog Y.w) Y.A M (fun fin s' => fin = .again code ∧ ∃ σ3 H', Inv Y pins σ3 H' s' ∧ (∀ (j : Nat) v, (wipe σ2 vs)[j]? = some (some v) → σ3[j]? = some (some v)) ∧ Nx H') (fun _ _ => False) s
theorem loop_turns {Y : Cx} {e : Expr} {d : Nat} {it : Addr} {acc : Value} {p : Pos} {tg : Expr} {ifs : List Expr} {M : Sem PySem.Fin} {fp : List Addr} {tn : Nat → Heap → Prop} {J : It} {g : TG} {tt : TT} {body : L2.St → Hp → (Hp → Prop) → Prop} {σ0 : L2.St} {vs : List Nat} {QT : Hp → Prop} {W : Nat → Nat → Hp → Prop} {pins : List (Addr × Obj)} {R : Result → Shared → Prop}
    (hq : (Code.compLoop e d (.ref it) acc Y.env).quiet = true) (hU : Y.A.under (.compLoop e d (.ref it) acc Y.env) = Y.A) (hden : (model Y.prog Y.w).den (.compLoop e d (.ref it) acc Y.env) = (compTurn e d (.ref it) acc Y.env).onRaise (fun x => do noteFrame x Y.env; theTreesLotGoes x))
    (ht : compTurn e d (.ref it) acc Y.env = turnOf p (.ref it) tg ifs Y.env M (.compLoop e d (.ref it) acc Y.env))
    (hc : Y.calm = true) (hx : Y.xe = fun _ _ => False) (hfp : ∀ b ∈ fp, b ≠ Y.env.locals ∧ b ∉ Y.fs ∧ (b ∈ Y.ex ∨ Y.s_0.heap.objs.size ≤ b) ∧ (∀ x c, Y.env.cells.lookup x = some c → c ≠ b) ∧ ∀ p ∈ Y.pn ++ pins, p.1 ≠ b)
    (T : Turn Y.prog Y.w Y.K tg J fp it tn) (hg : PG Y tg g) (htt : PTs Y ifs tt) (hM : Does Y M (.compLoop e d (.ref it) acc Y.env) body vs) (h0 : wipe σ0 vs = σ0) (walk : CWalk J g tt body σ0 vs QT W)
    (hR : ∀ H s', Inv Y pins σ0 H s' → QT H → R (.ok .next) s') :
    ∀ (m : Nat) (s : Shared), (∃ i H, Inv Y pins σ0 H s ∧ tn i s.heap ∧ (∀ b ∈ fp, H b = none) ∧ W i m H) → codeAny (model Y.prog Y.w) Y.A (.compLoop e d (.ref it) acc Y.env) R s := by
  intro m s hI
  refine codeAny_loop hq (fun m s => ∃ i H, Inv Y pins σ0 H s ∧ tn i s.heap ∧ (∀ b ∈ fp, H b = none) ∧ W i m H) (fun n s hI => ?_) m hI
  obtain ⟨i, H, I, st, fr, w0⟩ := hI
  rw [hU, hden]
  refine wpAny_noted ?_
  rw [ht]
  unfold turnOf
  have stat : ∀ {H' : Hp}, (∀ b ∈ fp, H' b = none) → ∀ b ∈ fp, FpOk Y pins H' b := fun {H'} hn b hb => ⟨hn b hb, hfp b hb⟩
  refine wpAny_bind (wpAny_standAt ?_)
  rcases walk i n H w0 with ⟨stop, qt⟩ | ⟨hgo, Nx, hN, step⟩
  · refine wpAny_bind (thnF (T.done Y rfl rfl rfl hc i pins s σ0 H (fun _ _ => False) I (stat fr) st stop) fun r s1 ⟨hr, I1⟩ => ?_)
    subst hr
    exact wpAny_pure (hR H s1 I1 qt)
  · refine wpAny_bind (thnF (T.item Y rfl rfl rfl hc i pins s σ0 H (fun _ _ => False) I (stat fr) st hgo) fun r s1 ⟨u, hr, h1⟩ => ?_)
    subst hr
    refine wpAny_bind (thnF h1 fun _ s2 ⟨x, H2, I2, r2, y2, st2, fr2⟩ => ?_)
    have I2' := I2.pinned (stat fr2) (T.obj _ _ st2)
    have h3 := hg.run _ s2 σ0 H2 x u _ I2' r2 (step x H2 y2)
    rw [hx] at h3
    refine wpAny_bind (thnF h3 fun _ s3 ⟨σ3, H3, I3, w3, q3⟩ => ?_)
    have h4 := htt.run _ s3 σ3 H3 _ I3 q3
    rw [hx] at h4
    refine wpAny_bind (thnF h4 fun ok s4 ⟨H4, I4, q4⟩ => ?_)
    have hl : σ0.length = σ3.length := by rw [← w3, wipe_length]
    have fin : ∀ {s' : Shared} {H' : Hp} {σ' : L2.St}, Inv Y (pins ++ pinsAt fp s2.heap) σ' H' s' → (∀ (j : Nat) v, σ0[j]? = some (some v) → σ'[j]? = some (some v)) → Nx H' → ∃ m', m' < n ∧ ∃ i H, Inv Y pins σ0 H s' ∧ tn i s'.heap ∧ (∀ b ∈ fp, H b = none) ∧ W i m' H := fun {s' H' σ'} I' hs nx => by
      obtain ⟨m', hm, w'⟩ := hN H' nx
      have pin' : ∀ b ∈ fp, ∀ o, s2.heap.get? b = some o → s'.heap.get? b = some o ∧ H' b = none := fun b hb o e =>
        let z := I'.pin (b, o) (List.mem_append_right _ (List.mem_append_right _ (mem_pinsAt hb e)))
        ⟨z.1, z.2.1⟩
      refine ⟨m', hm, i + 1, H', I'.unpinned.weak (by rw [hl, I3.len, I'.len]) hs, T.keep _ _ _ st2 fun b hb o e => (pin' b hb o e).1, fun b hb => ?_, w'⟩
      obtain ⟨o, e, _⟩ := T.obj _ _ st2 b hb
      exact (pin' b hb o e).2
    cases ok with
    | false =>
      rw [if_neg Bool.false_ne_true] at q4
      refine wpAny_pure ⟨rfl, fin I4 (fun j v e => ?_) q4⟩
      rw [← w3] at e
      exact (wipe_some e).1
    | true =>
      rw [if_pos rfl] at q4
      refine thnF (hM _ s4 σ3 H4 Nx I4 q4) fun f s5 ⟨ef, σ5, H5, I5, k5, n5⟩ => ?_
      subst ef
      refine ⟨rfl, fin I5 (fun j v e => ?_) n5⟩
      rw [← w3] at e
      exact k5 j v e
end Sw
set_option Elab.async false
set_option maxRecDepth 100000
set_option maxHeartbeats 4000000
namespace Sw
open PySem L2 PySem.Spec PyProof.Rows PpSet
/-! ### the frame of a set comprehension -/
theorem setK_fresh (P : Program) (w : World) (h : Heap) : (h.push { cls := .type "set", dict := none, data := .set #[] 0 (.fresh 0 0 (!w.params.followText "set-order")) }).SetOf (mixKind P w) h.objs.size (fun _ => false) 0 :=
  ⟨_, #[], 0, _, Heap.get?_push_size _ rfl, ⟨rfl, rfl, rfl⟩, rfl, (fun e he => by simp at he), (fun k => by simp), (by decide), (by rfl), rfl⟩
def tSetAdd (P : Program) (w : World) (D : Addr) (te : TE) : L2.St → Hp → (Hp → Prop) → Prop := fun σ2 H Nx => te σ2 H fun y H4 => ∃ (k : Key) (S : Key → Bool) (n : Nat), y = kV k ∧ H4 D = some (SetK P w D S n) ∧ n + 1 < scanBound ∧ Nx (upd H4 D (SetK P w D (fun j => S j || decide (j = k)) (if S k = true then n else n + 1)))
theorem does_add {Y : Cx} {elt : Expr} {te : TE} {D : Addr} {code : Code} {vs : List Nat} (he : PE Y elt te) (hx : Y.xe = fun _ _ => False) :
    Does Y (do (do let v ← eval elt Y.env; standAt elt.pos; let _ ← call (.builtin "set.add") [.ref D, v]); again code) code (tSetAdd Y.prog Y.w D te) vs := by
  intro pins s σ2 H Nx I q
  have h1 := he.run _ s σ2 H _ I q
  rw [hx] at h1
  refine wpAny_bind (wpAny_bind (thnF h1 fun v s1 ⟨y, H1, I1, r1, k, S, n, ey, hD, hn, nx⟩ => ?_))
  subst ey
  refine wpAny_bind (wpAny_standAt (wpAny_bind ?_))
  have h2 := mt_saddK (X := Y) pins s1 σ2 H1 (.ref D) [kV k] (.ref D) [v] (fun _ H' => Nx H') I1 rfl (.cons r1 .nil) ⟨D, k, S, n, rfl, rfl, hD, hn, nx⟩
  rw [hx] at h2
  refine thnF h2 fun _ s2 ⟨_, H2, I2, _, n2⟩ => ?_
  exact wpAny_pure (wpAny_pure ⟨rfl, σ2, H2, I2, fun j v e => (wipe_some e).1, n2⟩)
section
variable {X : Cx} {tg elt iter : Expr} {ifs : List Expr} {rest : List Comprehension} {scope : Scope} {own : List (Str × Nat)} {pos : Pos} {wi : TI}
/-- the block in which the walk runs, told to who proves the loop -/
structure SBlk (X : Cx) (σ : L2.St) (vs : List Nat) (scope : Scope) (D it : Addr) (fp : List Addr) (Y : Cx) : Prop where
  isB : ∃ s3 H3 C cl, Y = X.blk s3 H3 scope (compEnvC scope cl C X.env) fp
theorem set_frame {pins : List (Addr × Obj)} {s : Shared} {σ : L2.St} {H : Hp} {Q : VK} (hc : X.calm = true) (hN : X.N.Nodup) (I : Inv X pins σ H s) (hi : PI X tg iter wi) (ok : BlkOk X.N X.env.scope scope own) (hs : ∀ x, foldedSetIterable iter X.env x = pure x)
    {R0 : It → Addr → Hp → Prop} (h : wi σ H fun J H1 => ∀ D, H1 D = none → R0 J D (upd H1 D (SetK X.prog X.w D (fun _ => false) 0)))
    (loop : ∀ (Y : Cx) (D it : Addr) (J : It) (fp : List Addr) (tn : Nat → Heap → Prop) (H3 : Hp) (s4 : Shared) (R : Result → Shared → Prop), SBlk X σ (own.map (·.2)) scope D it fp Y → Inv Y [] (wipe σ (own.map (·.2))) H3 s4 → Turn Y.prog Y.w Y.K tg J fp it tn → tn 0 s4.heap → (∀ b ∈ fp, H3 b = none) → R0 J D H3 →
      (∀ b ∈ fp, b ≠ Y.env.locals ∧ b ∉ Y.fs ∧ (b ∈ Y.ex ∨ Y.s_0.heap.objs.size ≤ b) ∧ (∀ x c, Y.env.cells.lookup x = some c → c ≠ b) ∧ ∀ p ∈ Y.pn ++ [], p.1 ≠ b) →
      (∀ H s', Inv Y [] (wipe σ (own.map (·.2))) H s' → Q (.ref D) H → R (.ok .next) s') → codeAny (model Y.prog Y.w) Y.A (.compLoop (.SetComp elt (⟨tg, iter, ifs, 0⟩ :: rest) scope pos) 0 (.ref it) (.ref D) Y.env) R s4) :
    wpAny (model X.prog X.w) X.A (eval (.SetComp elt (⟨tg, iter, ifs, 0⟩ :: rest) scope pos) X.env) (EP X pins σ Q) X.xe s := by
  have hCap : ∀ y ∈ scope.names, y.2 = .free → ∃ c, X.env.cells.lookup y.1 = some c := fun y hy e => by
    rcases ok.free y hy e with k | k
    · exact I.ok.has _ (.inl k)
    · exact I.ok.has _ (.inr k)
  rw [eval_SetComp]
  show wpAny _ _ (comprehension (.SetComp elt (⟨tg, iter, ifs, 0⟩ :: rest) scope pos) scope X.env _ (newSet (.type "set")) false (eval iter X.env)) _ _ s
  refine wpAny_comprehension_free (g := ⟨tg, iter, ifs, 0⟩) (gs := rest) (use := none) rfl hs (closure_ok hCap) ok.kind (fun y hy e => by rw [ok.uniq y hy, e]) (thn (hi.run pins s σ H _ I h) fun xv s1 hx => thn hx fun itv s2 h2 => ?_)
  obtain ⟨it, fp, tn, J, H2, e, I2, T, st2, f2, q⟩ := h2
  subst e
  refine newSet_ok (newEnv_comp ?_)
  generalize hD : s2.heap.objs.size = D
  have hDn : H2 D = none := I2.hok.fresh (Nat.le_of_eq hD)
  have q0 := q D hDn
  generalize hs3 : ({ s2 with heap := s2.heap.push { cls := .type "set", dict := none, data := .set #[] 0 (.fresh 0 0 (!X.w.params.followText "set-order")) } } : Shared) = s3
  have I3 : Inv X pins σ (upd H2 D (SetK X.prog X.w D (fun _ => false) 0)) s3 := by
    rw [← hs3]
    refine I2.laid (t' := s2.toks) (fun b o e => Heap.get?_push_of_some _ e) (Nat.le_of_eq hD) ?_
    rw [← hD]
    exact setK_new (setK_fresh X.prog X.w s2.heap)
  have h3 : s3.heap = s2.heap.push { cls := .type "set", dict := none, data := .set #[] 0 (.fresh 0 0 (!X.w.params.followText "set-order")) } := by rw [← hs3]
  have sz : ∀ b ∈ fp, b < s2.heap.objs.size := fun b hb => by
    obtain ⟨o, e, _⟩ := T.obj _ _ st2 b hb
    exact Heap.lt_size e
  generalize hH3 : upd H2 D (SetK X.prog X.w D (fun _ => false) 0) = H3 at I3 q0
  have f3 : ∀ b ∈ fp, FpOk X pins H3 b ∧ b < s3.heap.objs.size := fun b hb => by
    have hlt := sz b hb
    refine ⟨⟨?_, (f2 b hb).2⟩, by rw [h3, Heap.size_push]; exact Nat.lt_succ_of_lt hlt⟩
    rw [← hH3, upd_ne (by rw [← hD]; exact Nat.ne_of_lt hlt)]
    exact (f2 b hb).1
  have st3 : tn 0 s3.heap := T.keep _ _ _ st2 fun b _ o e => by rw [h3]; exact Heap.get?_push_of_some _ e
  have I4 := block_start I3 ok hN f3
  have kp4 : ∀ b o, s3.heap.get? b = some o → (pushCells (s3.heap.push { cls := .type "dict", data := .dict #[] }) scope.names).get? b = some o := fun b o e => pushCells_keeps _ _ _ _ (Heap.get?_push_of_some _ e)
  have st4 : tn 0 (pushCells (s3.heap.push { cls := .type "dict", data := .dict #[] }) scope.names) := T.keep _ _ _ st3 fun b _ o e => kp4 b o e
  show codeAny _ _ (.compStart (.SetComp elt (⟨tg, iter, ifs, 0⟩ :: rest) scope pos) 0 (.ref it) (.ref D) (compEnvC scope (cellsFrom (s3.heap.objs.size + 1) scope.names (cloFrom X.env.cells scope.names [])) s3.heap.objs.size X.env)) (compPost (model X.prog X.w) X.A X.xe none (EP X pins σ Q) (.ref D) s3.heap.objs.size) { s3 with heap := pushCells (s3.heap.push { cls := .type "dict", data := .dict #[] }) scope.names }
  have lp := loop _ D it J fp tn H3 _ (compPost (model X.prog X.w) X.A X.xe none (EP X pins σ Q) (.ref D) s3.heap.objs.size) ⟨s3, H3, _, _, rfl⟩ I4 T st4 (fun b hb => (f3 b hb).1.1) q0
    (fun b hb => ⟨(I4.ok.exf b hb).1, I4.ok.exfs b hb, .inl hb, fun x c e => (I4.ok.exf b hb).2 x c e, fun p hp => absurd (show p ∈ ([] : List (Addr × Obj)) ++ [] from hp) (by simp)⟩)
    (fun H' s' I6 qq => by
      have I7 : Inv X pins σ H' s' := I3.call' (ch := fp) I6.os I6.base I6.hok I6.bare fun b hb => ⟨(f3 b hb).1.2.2.2.1, (f3 b hb).1.2.1, (f3 b hb).1.2.2.2.2.1, (f3 b hb).1.2.2.2.2.2⟩
      obtain ⟨m, hn, _⟩ := I6.loc
      refine ⟨m, hn, fun h'' sb => ?_⟩
      obtain ⟨f0, f1, f2, f4, f5, f6⟩ := I3.fpOk (b := s3.heap.objs.size) (Nat.le_refl _) (show H' s3.heap.objs.size = none from I6.free)
      exact ⟨.ref D, H', I7.turned (t' := s'.toks) (fun b o hb e => (sb.2 b hb).trans e) f0 f1 f4 f5 f6, rfl, qq⟩)
  exact codeAny_compStart_set lp (T.self X.A 0 _ _ _ st4 lp)
/-- {elt for tg in iter if ..}, elt a text or a whole number -/
def tSet1 (P : Program) (w : World) (wi : TI) (g : TG) (tt : TT) (te : TE) (vs : List Nat) : TE := fun σ H Q => wi σ H fun J H1 => ∀ D, H1 D = none → ∃ W : Nat → Nat → Hp → Prop, (∃ m, W 0 m (upd H1 D (SetK P w D (fun _ => false) 0))) ∧
  CWalk J g tt (tSetAdd P w D te) (wipe σ vs) vs (fun H => Q (.ref D) H) W
theorem wipeSame (σ : L2.St) (vs : List Nat) : wipe (wipe σ vs) vs = wipe σ vs := wipe2 σ vs
theorem pe_set1 {g : TG} {tt : TT} {te : TE} (hc : X.calm = true) (hN : X.N.Nodup) (hi : PI X tg iter wi) (ok : BlkOk X.N X.env.scope scope own)
    (hg : ∀ (s : Shared) (H : Hp) (C : Addr) (cl : List (Str × Addr)) (fp : List Addr), PG (X.blk s H scope (compEnvC scope cl C X.env) fp) tg g) (ht : ∀ (s : Shared) (H : Hp) (C : Addr) (cl : List (Str × Addr)) (fp : List Addr), PTs (X.blk s H scope (compEnvC scope cl C X.env) fp) ifs tt)
    (he : ∀ (s : Shared) (H : Hp) (C : Addr) (cl : List (Str × Addr)) (fp : List Addr), PE (X.blk s H scope (compEnvC scope cl C X.env) fp) elt te) (hs : ∀ x, foldedSetIterable iter X.env x = pure x := by intro _; rfl) :
    PE X (.SetComp elt [⟨tg, iter, ifs, 0⟩] scope pos) (tSet1 X.prog X.w wi g tt te (own.map (·.2))) := by
  refine ⟨fun pins s σ H Q I h => ?_⟩
  refine set_frame hc hN I hi ok hs (R0 := fun J D H3 => ∃ W : Nat → Nat → Hp → Prop, (∃ m, W 0 m H3) ∧ CWalk J g tt (tSetAdd X.prog X.w D te) (wipe σ (own.map Prod.snd)) (own.map Prod.snd) (fun H => Q (.ref D) H) W) h fun Y D it J fp tn H3 s4 R B I4 T st4 fr q0 hfp hR => ?_
  obtain ⟨s3, H3', C, cl, rfl⟩ := B.isB
  obtain ⟨W, ⟨m0, w0⟩, walk⟩ := q0
  exact loop_turns (Y := X.blk s3 H3' scope (compEnvC scope cl C X.env) fp) rfl rfl rfl (turn1 ..) hc rfl hfp T (hg _ _ _ _ _) (ht _ _ _ _ _) (does_add (he _ _ _ _ _) rfl) (wipe2 σ _) walk hR m0 s4 ⟨0, H3, I4, st4, fr, w0⟩
/-! two clauses -/
variable {tg1 iter1 : Expr} {ifs1 : List Expr}
theorem start1 {prog : Program} {w : World} {A : Around} {R : Result → Shared → Prop} {s : Shared} {it acc : Value} {env : Env} (h0 : codeAny (model prog w) A (.compLoop (.SetComp elt [⟨tg, iter, ifs, 0⟩, ⟨tg1, iter1, ifs1, 0⟩] scope pos) 1 it acc env) R s)
    (h : wpAny (model prog w) A (pyIter it) (fun it' s' => codeAny (model prog w) A (.compLoop (.SetComp elt [⟨tg, iter, ifs, 0⟩, ⟨tg1, iter1, ifs1, 0⟩] scope pos) 1 it' acc env) R s') (notedBy (model prog w) A env fun x s' => R (.error x) s') s) :
    codeAny (model prog w) A (.compStart (.SetComp elt [⟨tg, iter, ifs, 0⟩, ⟨tg1, iter1, ifs1, 0⟩] scope pos) 1 it acc env) R s := by
  refine codeAny_of_tree ?_
  show wpAny _ _ ((compStart (.SetComp elt [⟨tg, iter, ifs, 0⟩, ⟨tg1, iter1, ifs1, 0⟩] scope pos) 1 it acc env).onRaise _) _ _ s
  refine wpAny_notedAt ?_
  unfold compStart
  show wpAny _ _ (ask >>= _) _ _ s
  refine wpAny_bind (wpAny_askSetting (wpAny_ite ?_))
  split
  · first
      | exact wpAny_bind (wpAny_pure (wpAny_pure ⟨rfl, h0⟩))
      | exact wpAny_pure ⟨rfl, h0⟩
  · first
      | exact wpAny_bind (wpAny_rule (wpAny_bind (wpAny_standAt (wpAny_bind (wpAny_mono h (fun it' s' h' => wpAny_pure ⟨rfl, h'⟩) fun _ _ x => x)))))
      | (refine wpAny_bind (wpAny_rule ?_); show wpAny _ _ (standAt iter1.pos >>= _) _ _ s; exact wpAny_bind (wpAny_standAt (wpAny_bind (wpAny_mono h (fun it' s' h' => wpAny_pure ⟨rfl, h'⟩) fun _ _ x => x))))
def tInner (wi1 : TI) (g1 : TG) (tt1 : TT) (add : L2.St → Hp → (Hp → Prop) → Prop) (vs1 : List Nat) : L2.St → Hp → (Hp → Prop) → Prop := fun σ2 H Nx => wi1 σ2 H fun J1 H1 => ∃ W1 : Nat → Nat → Hp → Prop, (∃ m, W1 0 m H1) ∧ CWalk J1 g1 tt1 add (wipe σ2 vs1) vs1 Nx W1
theorem does_inner {Y : Cx} {wi1 : TI} {g1 : TG} {tt1 : TT} {te : TE} {D it : Addr} {vs vs1 : List Nat} (hc : Y.calm = true) (hx : Y.xe = fun _ _ => False) (hv : ∀ i ∈ vs1, i ∈ vs) (hi1 : PI Y tg1 iter1 wi1) (hg1 : PG Y tg1 g1) (ht1 : PTs Y ifs1 tt1) (he : PE Y elt te) (hs1 : ∀ x, foldedSetIterable iter1 Y.env x = pure x) :
    Does Y (do
      let x ← eval iter1 Y.env
      standAt iter1.pos
      let x ← foldedSetIterable iter1 Y.env x
      let _ ← runOwn (.compStart (.SetComp elt [⟨tg, iter, ifs, 0⟩, ⟨tg1, iter1, ifs1, 0⟩] scope pos) 1 (← holding [x] (pyIter x)) (.ref D) Y.env) Y.env
      again (.compLoop (.SetComp elt [⟨tg, iter, ifs, 0⟩, ⟨tg1, iter1, ifs1, 0⟩] scope pos) 0 (.ref it) (.ref D) Y.env))
      (.compLoop (.SetComp elt [⟨tg, iter, ifs, 0⟩, ⟨tg1, iter1, ifs1, 0⟩] scope pos) 0 (.ref it) (.ref D) Y.env) (tInner wi1 g1 tt1 (tSetAdd Y.prog Y.w D te) vs1) vs := by
  intro pins s σ2 H Nx I q
  have h1 := hi1.run pins s σ2 H _ I q
  rw [hx] at h1
  refine wpAny_bind (thnF h1 fun xv s1 hxv => wpAny_bind (wpAny_standAt (wpAny_bind (wpAny_of_eq (hs1 xv) (wpAny_bind (wpAny_holding (thnF hxv fun itv s2 h2 => ?_)))))))
  obtain ⟨it1, fp1, tn1, J1, H1, e1, I1, T1, st1, f1, W1, ⟨m1, w1⟩, walk1⟩ := h2
  subst e1
  refine wpAny_bind (wpAny_runOwn ?_)
  rw [Around.mark_none]
  have lp : codeAny (model Y.prog Y.w) Y.A (.compLoop (.SetComp elt [⟨tg, iter, ifs, 0⟩, ⟨tg1, iter1, ifs1, 0⟩] scope pos) 1 (.ref it1) (.ref D) Y.env)
      (fun r s' => match r with
        | .ok _ => ∃ H', Inv Y pins (wipe σ2 vs1) H' s' ∧ Nx H'
        | .error _ => False) s2 :=
    loop_turns (Y := Y) (pins := pins) rfl rfl rfl (turn2i ..) hc hx (fun b hb => (f1 b hb).2) T1 hg1 ht1 (does_add he hx) (wipe2 σ2 vs1) walk1 (fun H' s' I' nx => ⟨H', I', nx⟩) m1 s2
      ⟨0, H1, I1.weak (wipe_length _ _) (fun i v e => (wipe_some e).1), st1, fun b hb => (f1 b hb).1, w1⟩
  refine codeAny_mono (start1 lp (T1.self Y.A 0 _ _ _ st1 lp)) fun r s' hr => ?_
  cases r with
  | error e => exact hr.elim
  | ok f =>
    obtain ⟨H', I', nx⟩ := hr
    refine wpAny_pure ⟨rfl, wipe σ2 vs1, H', I', fun j v e => ?_, nx⟩
    obtain ⟨e1, e2⟩ := wipe_some e
    rw [wipe_out fun z => e2 (hv j z)]
    exact e1
/-- {elt for tg in iter if .. for tg1 in iter1 if ..} -/
def tSet2 (P : Program) (w : World) (wi : TI) (g : TG) (tt : TT) (wi1 : TI) (g1 : TG) (tt1 : TT) (te : TE) (vs vs1 : List Nat) : TE := fun σ H Q => wi σ H fun J H1 => ∀ D, H1 D = none → ∃ W : Nat → Nat → Hp → Prop, (∃ m, W 0 m (upd H1 D (SetK P w D (fun _ => false) 0))) ∧
  CWalk J g tt (tInner wi1 g1 tt1 (tSetAdd P w D te) vs1) (wipe σ vs) vs (fun H => Q (.ref D) H) W
theorem pe_set2 {wi1 : TI} {g g1 : TG} {tt tt1 : TT} {te : TE} {vs1 : List Nat} (hc : X.calm = true) (hN : X.N.Nodup) (hi : PI X tg iter wi) (ok : BlkOk X.N X.env.scope scope own) (hv : ∀ i ∈ vs1, i ∈ own.map (·.2))
    (hg : ∀ (s : Shared) (H : Hp) (C : Addr) (cl : List (Str × Addr)) (fp : List Addr), PG (X.blk s H scope (compEnvC scope cl C X.env) fp) tg g) (ht : ∀ (s : Shared) (H : Hp) (C : Addr) (cl : List (Str × Addr)) (fp : List Addr), PTs (X.blk s H scope (compEnvC scope cl C X.env) fp) ifs tt)
    (hi1 : ∀ (s : Shared) (H : Hp) (C : Addr) (cl : List (Str × Addr)) (fp : List Addr), PI (X.blk s H scope (compEnvC scope cl C X.env) fp) tg1 iter1 wi1)
    (hg1 : ∀ (s : Shared) (H : Hp) (C : Addr) (cl : List (Str × Addr)) (fp : List Addr), PG (X.blk s H scope (compEnvC scope cl C X.env) fp) tg1 g1) (ht1 : ∀ (s : Shared) (H : Hp) (C : Addr) (cl : List (Str × Addr)) (fp : List Addr), PTs (X.blk s H scope (compEnvC scope cl C X.env) fp) ifs1 tt1)
    (he : ∀ (s : Shared) (H : Hp) (C : Addr) (cl : List (Str × Addr)) (fp : List Addr), PE (X.blk s H scope (compEnvC scope cl C X.env) fp) elt te) (hs : ∀ x, foldedSetIterable iter X.env x = pure x := by intro _; rfl) (hs1 : ∀ env x, foldedSetIterable iter1 env x = pure x := by intro _ _; rfl) :
    PE X (.SetComp elt [⟨tg, iter, ifs, 0⟩, ⟨tg1, iter1, ifs1, 0⟩] scope pos) (tSet2 X.prog X.w wi g tt wi1 g1 tt1 te (own.map (·.2)) vs1) := by
  refine ⟨fun pins s σ H Q I h => ?_⟩
  refine set_frame hc hN I hi ok hs (R0 := fun J D H3 => ∃ W : Nat → Nat → Hp → Prop, (∃ m, W 0 m H3) ∧ CWalk J g tt (tInner wi1 g1 tt1 (tSetAdd X.prog X.w D te) vs1) (wipe σ (own.map Prod.snd)) (own.map Prod.snd) (fun H => Q (.ref D) H) W) h fun Y D it J fp tn H3 s4 R B I4 T st4 fr q0 hfp hR => ?_
  obtain ⟨s3, H3', C, cl, rfl⟩ := B.isB
  obtain ⟨W, ⟨m0, w0⟩, walk⟩ := q0
  exact loop_turns (Y := X.blk s3 H3' scope (compEnvC scope cl C X.env) fp) rfl rfl rfl (turn2o ..) hc rfl hfp T (hg _ _ _ _ _) (ht _ _ _ _ _) (does_inner hc rfl hv (hi1 _ _ _ _ _) (hg1 _ _ _ _ _) (ht1 _ _ _ _ _) (he _ _ _ _ _) (hs1 _)) (wipe2 σ _) walk hR m0 s4 ⟨0, H3, I4, st4, fr, w0⟩
/-- walks over tuples, lists -/
theorem cw_tup {K : PySem.W.Frag} {a : Addr} {xs : List V} {g : TG} {tt : TT} {body : L2.St → Hp → (Hp → Prop) → Prop} {σ0 : L2.St} {vs : List Nat} {QT : Hp → Prop} {H : Hp} (Pv : Nat → Hp → Prop) (h0 : Pv 0 H) (hl : ∀ i H, i ≤ xs.length → Pv i H → SqT K H a xs)
    (hs : ∀ i x H, xs[i]? = some x → Pv i H → g x σ0 H fun σ2 H2 => wipe σ2 vs = σ0 ∧ tt σ2 H2 fun b H3 => if b = true then body σ2 H3 (Pv (i + 1)) else Pv (i + 1) H3) (hd : ∀ H, Pv xs.length H → QT H) :
    ∃ W : Nat → Nat → Hp → Prop, (∃ m, W 0 m H) ∧ CWalk (Itt K a) g tt body σ0 vs QT W := by
  refine ⟨fun i m H => i ≤ xs.length ∧ m = xs.length - i ∧ Pv i H, ⟨xs.length, Nat.zero_le _, by simp, h0⟩, ?_⟩
  rintro i m H ⟨hi, rfl, hp⟩
  have hL := hl i H hi hp
  by_cases e : i = xs.length
  · exact .inl ⟨⟨xs, hL, by omega⟩, hd H (by rw [← e]; exact hp)⟩
  · have hlt : i < xs.length := by omega
    refine .inr ⟨⟨xs, xs[i], hL, List.getElem?_eq_getElem hlt⟩, Pv (i + 1), fun H' hq => ⟨_, by omega, hlt, rfl, hq⟩, fun x H' hy => ?_⟩
    obtain ⟨rfl, hx⟩ := hy
    exact hs i x _ (hx xs hL) hp
theorem cw_list {K : PySem.W.Frag} {a : Addr} {xs : List V} {g : TG} {tt : TT} {body : L2.St → Hp → (Hp → Prop) → Prop} {σ0 : L2.St} {vs : List Nat} {QT : Hp → Prop} {H : Hp} (Pv : Nat → Hp → Prop) (h0 : Pv 0 H) (hl : ∀ i H, i ≤ xs.length → Pv i H → SqL K H a xs)
    (hs : ∀ i x H, xs[i]? = some x → Pv i H → g x σ0 H fun σ2 H2 => wipe σ2 vs = σ0 ∧ tt σ2 H2 fun b H3 => if b = true then body σ2 H3 (Pv (i + 1)) else Pv (i + 1) H3) (hd : ∀ H, Pv xs.length H → QT H) :
    ∃ W : Nat → Nat → Hp → Prop, (∃ m, W 0 m H) ∧ CWalk (Itl K a) g tt body σ0 vs QT W := by
  refine ⟨fun i m H => i ≤ xs.length ∧ m = xs.length - i ∧ Pv i H, ⟨xs.length, Nat.zero_le _, by simp, h0⟩, ?_⟩
  rintro i m H ⟨hi, rfl, hp⟩
  have hL := hl i H hi hp
  by_cases e : i = xs.length
  · exact .inl ⟨⟨xs, hL, by omega⟩, hd H (by rw [← e]; exact hp)⟩
  · have hlt : i < xs.length := by omega
    refine .inr ⟨⟨xs, xs[i], hL, List.getElem?_eq_getElem hlt⟩, Pv (i + 1), fun H' hq => ⟨_, by omega, hlt, rfl, hq⟩, fun x H' hy => ?_⟩
    obtain ⟨rfl, hx⟩ := hy
    exact hs i x _ (hx xs hL) hp
end
end Sw
set_option Elab.async false
set_option maxRecDepth 100000
set_option maxHeartbeats 4000000
namespace Sw
open PySem L2 PySem.Spec PyProof.Rows HT
/-! ### t[::-1] of a tuple -/
theorem adjust_rev (n : Nat) : Builtin.Slice.sliceAdjust none none (-1) (n : Int) = ((n : Int) - 1, -1) := by
  have h1 : ((-1 : Int) < 0) := by omega
  unfold Builtin.Slice.sliceAdjust
  simp only [h1, if_true]
theorem places_rev (n : Nat) : Builtin.Slice.slicePlaces ((n : Int) - 1) (-1) (-1) = n := by
  unfold Builtin.Slice.slicePlaces
  have h1 : ¬ ((-1 : Int) > 0) := by omega
  simp only [h1, if_false]
  split
  · have e : ((n : Int) - 1 - -1 - 1) / (- -1) + 1 = n := by
      have : (- -1 : Int) = 1 := by omega
      rw [this, Int.ediv_one]
      omega
    rw [e]
    omega
  · omega
theorem fm_congr {α β : Type} {f g : α → Option β} : ∀ {l : List α}, (∀ x, x ∈ l → f x = g x) → l.filterMap f = l.filterMap g
  | [], _ => rfl
  | a :: l, h => by
    rw [List.filterMap_cons, List.filterMap_cons, h a List.mem_cons_self, fm_congr (l := l) fun x hx => h x (List.mem_cons_of_mem _ hx)]
theorem pick_rev (xs : Array Value) : ((List.range xs.size).filterMap fun (k : Nat) => xs[(((xs.size : Int) - 1) + (k : Int) * (-1)).toNat]?).toArray = xs.toList.reverse.toArray := by
  have e1 : ((List.range xs.size).filterMap fun (k : Nat) => xs[(((xs.size : Int) - 1) + (k : Int) * (-1)).toNat]?) = ((List.range xs.size).map (fun k => xs.size - 1 - k)).filterMap (xs[·]?) := by
    rw [List.filterMap_map]
    refine fm_congr fun k hk => ?_
    have hk' : k < xs.size := List.mem_range.mp hk
    have : ((((xs.size : Int) - 1) + (k : Int) * (-1)).toNat) = xs.size - 1 - k := by omega
    rw [this]
    rfl
  rw [e1, PySem.W.krv_range, List.filterMap_reverse, PySem.W.krv_all]
section
variable {prog : Program} {w : World} {A : Around} {E : Value → Shared → Prop} {s : Shared}
theorem slicePart_neg {v : Value} {o : Option Int} {Q : Option Int → Shared → Prop} (p : IsPart v o) (h : Q o s) : wpAny (model prog w) A (Builtin.Slice.slicePartIndex v) Q E s := slicePart_ p h
theorem sliceApplied_rev {sl : Addr} {vs : Value} {n : Nat} {Q : Int × Int × Nat → Shared → Prop} (hs : s.heap.IsSliceOf sl .none .none vs) (ps : IsPart vs (some (-1)))
    (h : Q (((n : Int) - 1), -1, n) s) : wpAny (model prog w) A (Builtin.Slice.sliceApplied (.ref sl) (pure (n : Int))) Q E s := by
  obtain ⟨os, hos, hcs, hds⟩ := id hs
  unfold Builtin.Slice.sliceApplied Builtin.Slice.sliceFields
  refine wpAny_bind (wpAny_bind (wpAny_field hos hds (x := .none) rfl (wpAny_bind (wpAny_field hos hds (x := .none) rfl (wpAny_bind (wpAny_field hos hds (x := vs) rfl (wpAny_pure ?_)))))))
  refine wpAny_bind (slicePart_ ps ?_)
  show wpAny _ _ (if ((-1 : Int) == 0) = true then _ else _) _ _ s
  rw [if_neg (by decide)]
  refine wpAny_bind (slicePart_ .none (wpAny_bind (slicePart_ .none (wpAny_bind (wpAny_pure ?_)))))
  show wpAny _ _ (match Builtin.Slice.sliceAdjust none none (-1) (n : Int) with | (lo, hi) => pure (lo, (-1 : Int), Builtin.Slice.slicePlaces lo hi (-1))) _ _ s
  rw [adjust_rev n]
  show wpAny _ _ (pure ((n : Int) - 1, (-1 : Int), Builtin.Slice.slicePlaces ((n : Int) - 1) (-1) (-1))) _ _ s
  rw [places_rev]
  exact wpAny_pure h
theorem getItem_tuple_rev {t sl : Addr} {items : Array Value} {vs : Value} {Q : Value → Shared → Prop} (ht : IsTup s.heap t items) (hs : s.heap.IsSliceOf sl .none .none vs) (ps : IsPart vs (some (-1)))
    (h : Q (.ref s.heap.objs.size) { s with heap := s.heap.push { cls := .type "tuple", data := .seq items.toList.reverse.toArray } })
    (hsz : items.size ≤ sizeLine) : wpAny (model prog w) A (getItem (.ref t) (.ref sl)) Q E s := by
  have htake : sizeOk (.seq items.toList.reverse.toArray) := by
    show items.toList.reverse.toArray.size ≤ sizeLine
    rw [List.size_toArray, List.length_reverse, Array.length_toList]
    exact hsz
  obtain ⟨os, hos, hcs, hds⟩ := id hs
  have hTs : s.TypeIs (.ref sl) "slice" := ⟨os, hos, hcs⟩
  unfold getItem
  try with_reducible refine wpAny_holding ?_
  first | refine wpAny_bind (wpAny_pure ?_) | skip
  refine wpAny_bind (wpAny_sequenceKey ht.typeIs (by decide) ?_)
  refine wpAny_bind (wpAny_callSpecial?_slot (name := Str.ofString "__getitem__") ht.typeIs PyProof.Rows.slot_tuple_getitem
    (wpAny_call_entry PyProof.Rows.slot_tuple_getitem ht.typeIs entry_tuple_getitem ?_ (args_tuple_getitem _ _)))
  show wpAny _ _ (Builtin.Tuple.tupleItemsOf (.ref t) >>= _) _ _ s
  refine wpAny_bind (tupleItemsOf_ ht ?_)
  refine wpAny_bind (wpAny_typeOf hTs ?_)
  rw [if_pos (by decide)]
  refine wpAny_bind (sliceApplied_rev hs ps ?_)
  have hno : ¬ ((((items.size : Int) - 1) == 0 && (-1 : Int) == 1 && items.size == items.size) = true) := by
    intro q
    rw [Bool.and_eq_true, Bool.and_eq_true] at q
    exact absurd q.1.2 (by decide)
  show wpAny _ _ (if ((((items.size : Int) - 1) == 0 && (-1 : Int) == 1 && items.size == items.size) = true) then _ else _) _ _ s
  rw [if_neg hno, pick_rev]
  first
    | exact wpAny_bind (m := Builtin.Tuple.tupleExact _) (wpAny_newObj_type (wpAny_pure ⟨_, rfl, wpAny_pure h⟩) htake)
    | exact wpAny_bind (m := Builtin.Tuple.tupleExact _) (wpAny_newObj_type (wpAny_bind (wpAny_pure (wpAny_pure ⟨_, rfl, wpAny_pure h⟩))) htake)
    | exact wpAny_bind (wpAny_bind (m := Builtin.Tuple.tupleExact _) (wpAny_newObj_type (wpAny_pure (wpAny_pure ⟨_, rfl, wpAny_pure h⟩)) htake))
    | exact wpAny_bind (wpAny_bind (m := Builtin.Tuple.tupleExact _) (wpAny_newObj_type (wpAny_pure ⟨_, rfl, wpAny_pure h⟩) htake))
end
section
variable {X : Cx}
/-- t[::-1] of a tuple: a new tuple -/
def tRevT (K : PySem.W.Frag) (te : TE) : TE := fun σ H Q => te σ H fun x H1 => ∃ a xs, x = .ref a ∧ SqT K H1 a xs ∧ ∀ p, H1 p = none → Q (.ref p) (upd H1 p (.tup xs.reverse))
theorem pe_revT {e : Expr} {te : TE} {k : Nat} {p1 p2 p3 pos : Pos} (he : PE X e te) : PE X (.Subscript e (.Slice none none (some (.UnaryOp .USub (.Constant (.int 1) k p1) p2)) p3) pos) (tRevT X.K te) := by
  refine ⟨fun pins s σ H Q I h => ?_⟩
  refine Subscript_ (thn (he.run pins s σ H _ I h) fun v s1 ⟨x, H1, I1, r1, q1⟩ => ?_)
  obtain ⟨a, xs, ex, hx, q⟩ := q1
  subst ex
  cases r1
  have hst : PO X (some (.UnaryOp .USub (.Constant (.int 1) k p1) p2)) (tPart (tUn (rU fun i => .int (-i)) (tC (.int 1)))) := po_some (pe_un un_neg pe_int)
  refine wpAny_Slice (thn (po_none.run pins s1 σ H1 (fun o H2 => o = none ∧ H2 = H1) I1 ⟨rfl, rfl⟩) fun vl s2 ⟨l, H2, I2, pl, el, e2⟩ => ?_)
  subst el e2
  refine thn (po_none.run pins s2 σ H2 (fun o H3 => o = none ∧ H3 = H2) I2 ⟨rfl, rfl⟩) fun vu s3 ⟨u, H3, I3, pu, eu, e3⟩ => ?_
  subst eu e3
  refine thn (hst.run pins s3 σ H3 (fun o H4 => o = some (-1) ∧ H4 = H3) I3 ⟨1, rfl, -1, rfl, rfl, rfl⟩) fun vs s4 ⟨o, H4, I4, ps, eo, e4⟩ => ?_
  subst eo e4
  cases pl
  cases pu
  have I5 : Inv X pins σ H4 { s4 with heap := s4.heap.push { cls := .type "slice", data := .fields #[.none, .none, vs] } } := I4.kept (t' := s4.toks) fun b ob q => Heap.get?_push_of_some _ q
  obtain ⟨its, r, ht, hz⟩ := I5.tuple hx
  have hlen := r.length
  have hz2 : its.length ≤ sizeLine := by first | exact hz | omega
  show wpAny (model X.prog X.w) X.A (subscriptTail e (.Slice none none (some (.UnaryOp .USub (.Constant (.int 1) k p1) p2)) p3) (.ref a) (.ref s4.heap.objs.size)) (EP X pins σ Q) X.xe { s4 with heap := s4.heap.push { cls := .type "slice", data := .fields #[.none, .none, vs] } }
  refine tail_any (ops := [.ref a, .ref s4.heap.objs.size]) ht.typeIs (PyProof.Rows.slot_tuple_getitem.lookup) ?_ (by with_unfolding_all rfl)
  refine getItem_tuple_rev ht (Heap.IsSliceOf.new _ .none .none vs) ps ?_ (by rw [List.size_toArray]; exact hz2)
  refine ⟨.ref _, _, I5.laid (t' := s4.toks) (o := .tup xs.reverse) (fun b ob q => Heap.get?_push_of_some _ q) (Nat.le_refl _) ?_, rfl, q _ (I5.hok.fresh (Nat.le_refl _))⟩
  exact ⟨by rw [List.length_reverse]; omega, _, r.reverse, _, Heap.get?_push_size _ rfl, rfl, 0, rfl⟩
end
end Sw
set_option Elab.async false
set_option maxRecDepth 100000
set_option maxHeartbeats 4000000
namespace Sw
open PySem L2 PySem.Spec PyProof.Rows
/-! ### walks told by an invariant over the turn -/
theorem for_enum {K : PySem.W.Frag} {a : Addr} {xs : List V} {g : TG} {tb : TS} {D : Ends} {σ : L2.St} {H : Hp} (Pv : Nat → L2.St → Hp → Prop) (h0 : Pv 0 σ H) (hl : ∀ i σ H, i ≤ xs.length → Pv i σ H → SqL K H a xs)
    (hs : ∀ i x T σ H, xs[i]? = some x → Pv i σ H → H T = none → g (.ref T) σ (upd H T (.tup [.int (i : Nat), x])) fun σ2 H2 => tb { D with nx := Pv (i + 1), ct := Pv (i + 1), bk := D.nx } σ2 H2) (hd : ∀ σ H, Pv xs.length σ H → D.nx σ H) :
    ∃ W : Nat → Nat → L2.St → Hp → Prop, (∃ m, W 0 m σ H) ∧ ∀ i m σ H, W i m σ H →
      ((Ite K a).stop i H ∧ D.nx σ H) ∨ ((Ite K a).go i H ∧ ∃ N : L2.St → Hp → Prop, (∀ σ' H', N σ' H' → ∃ m', m' < m ∧ W (i + 1) m' σ' H') ∧ ∀ x H', (Ite K a).yld i H x H' → g x σ H' fun σ2 H2 => tb { D with nx := N, ct := N, bk := D.nx } σ2 H2) := by
  refine ⟨fun i m σ H => m = xs.length - i ∧ i ≤ xs.length ∧ Pv i σ H, ⟨xs.length, by simp, Nat.zero_le _, h0⟩, ?_⟩
  rintro i m σ H ⟨rfl, hi, hp⟩
  have hL := hl i σ H hi hp
  by_cases e : i = xs.length
  · exact .inl ⟨⟨xs, hL, by omega⟩, hd σ H (by rw [← e]; exact hp)⟩
  · have hlt : i < xs.length := by omega
    refine .inr ⟨⟨xs, xs[i], hL, List.getElem?_eq_getElem hlt⟩, Pv (i + 1), fun σ' H' hq => ⟨_, by omega, rfl, hlt, hq⟩, fun x H' hy => ?_⟩
    obtain ⟨T, y, rfl, hT, rfl, hx⟩ := hy
    exact hs i y T σ H (hx xs hL) hp hT
theorem lc_enum {K : PySem.W.Frag} {a : Addr} {xs : List V} {g : TG} {tt : TT} {te : TE} {vs : List Nat} {σ : L2.St} {H1 : Hp} {D : Addr} {Qd : Hp → Prop} (Pv : Nat → Hp → Prop) (h0 : Pv 0 (upd H1 D (.lst []))) (hl : ∀ i H, i ≤ xs.length → Pv i H → SqL K H a xs)
    (hs : ∀ i x T H, xs[i]? = some x → Pv i H → H T = none → g (.ref T) (wipe σ vs) (upd H T (.tup [.int (i : Nat), x])) fun σ2 H2 => wipe σ2 vs = wipe σ vs ∧ tt σ2 H2 fun b H3 => if b = true then te σ2 H3 fun y H4 => ∃ acc, H4 D = some (.lst acc) ∧ acc.length < sizeLine ∧ Pv (i + 1) (upd H4 D (.lst (acc ++ [y]))) else Pv (i + 1) H3)
    (hd : ∀ H, Pv xs.length H → Qd H) : ∃ W : Nat → Nat → Hp → Prop, (∃ m, W 0 m (upd H1 D (.lst []))) ∧ ∀ i m H, W i m H →
      ((Ite K a).stop i H ∧ Qd H) ∨ ((Ite K a).go i H ∧ ∃ Nx : Hp → Prop, (∀ H', Nx H' → ∃ m', m' < m ∧ W (i + 1) m' H') ∧ ∀ x H', (Ite K a).yld i H x H' → g x (wipe σ vs) H' fun σ2 H2 => wipe σ2 vs = wipe σ vs ∧ tt σ2 H2 fun b H3 =>
        if b = true then te σ2 H3 fun y H4 => ∃ acc, H4 D = some (.lst acc) ∧ acc.length < sizeLine ∧ Nx (upd H4 D (.lst (acc ++ [y]))) else Nx H3) := by
  refine ⟨fun i m H => m = xs.length - i ∧ i ≤ xs.length ∧ Pv i H, ⟨xs.length, by simp, Nat.zero_le _, h0⟩, ?_⟩
  rintro i m H ⟨rfl, hi, hp⟩
  have hL := hl i H hi hp
  by_cases e : i = xs.length
  · exact .inl ⟨⟨xs, hL, by omega⟩, hd H (by rw [← e]; exact hp)⟩
  · have hlt : i < xs.length := by omega
    refine .inr ⟨⟨xs, xs[i], hL, List.getElem?_eq_getElem hlt⟩, Pv (i + 1), fun H' hq => ⟨_, by omega, rfl, hlt, hq⟩, fun x H' hy => ?_⟩
    obtain ⟨T, y, rfl, hT, rfl, hx⟩ := hy
    exact hs i y T H (hx xs hL) hp hT
/-- a dict's entries, the dict locked meanwhile -/
theorem for_items {d : Addr} {od : Obj} {kvs : List (Key × V)} {g : TG} {tb : TS} {D : Ends} {σ : L2.St} {H : Hp} (Pv : Nat → L2.St → Hp → Prop) (h0 : Pv 0 σ H) (hl : ∀ i σ H, i ≤ kvs.length → Pv i σ H → H d = some (.frz od (.dK kvs)))
    (hs : ∀ i k v T σ H, kvs[i]? = some (k, v) → Pv i σ H → H T = none → g (.ref T) σ (upd H T (.tup [kV k, v])) fun σ2 H2 => tb { D with nx := Pv (i + 1), ct := Pv (i + 1), bk := D.nx } σ2 H2) (hd : ∀ σ H, Pv kvs.length σ H → D.nx σ H) :
    ∃ W : Nat → Nat → L2.St → Hp → Prop, (∃ m, W 0 m σ H) ∧ ∀ i m σ H, W i m σ H →
      ((Iti d od kvs).stop i H ∧ D.nx σ H) ∨ ((Iti d od kvs).go i H ∧ ∃ N : L2.St → Hp → Prop, (∀ σ' H', N σ' H' → ∃ m', m' < m ∧ W (i + 1) m' σ' H') ∧ ∀ x H', (Iti d od kvs).yld i H x H' → g x σ H' fun σ2 H2 => tb { D with nx := N, ct := N, bk := D.nx } σ2 H2) := by
  refine ⟨fun i m σ H => m = kvs.length - i ∧ i ≤ kvs.length ∧ Pv i σ H, ⟨kvs.length, by simp, Nat.zero_le _, h0⟩, ?_⟩
  rintro i m σ H ⟨rfl, hi, hp⟩
  have hL := hl i σ H hi hp
  by_cases e : i = kvs.length
  · exact .inl ⟨⟨hL, by omega⟩, hd σ H (by rw [← e]; exact hp)⟩
  · have hlt : i < kvs.length := by omega
    refine .inr ⟨⟨hL, hlt⟩, Pv (i + 1), fun σ' H' hq => ⟨_, by omega, rfl, hlt, hq⟩, fun x H' hy => ?_⟩
    obtain ⟨T, k, v, hk, rfl, hT, rfl⟩ := hy
    exact hs i k v T σ H hk hp hT
/-! ### max(xs, default=d) of whole numbers -/
def rMaxD (K : PySem.W.Frag) : List V → List V → Hp → VK → Prop := fun vs zs H Q => ∃ (a : Addr) (ns : List Int) (d m : Int), vs = [V.ref a] ∧ zs = [V.int d] ∧ SqL K H a (ns.map V.int) ∧ (ns = [] → m = d) ∧ (∀ n r, ns = n :: r → m = r.foldl max n) ∧ Q (.int m) H
theorem depthInts : ∀ ns : List Int, PyData.depthAll (ns.map PyData.int) = 0
  | [] => by simp [PyData.depthAll]
  | n :: r => by simp [PyData.depthAll, PyData.depth, depthInts r]
theorem dpInts {K : PySem.W.Frag} {H : Hp} : ∀ ns : List Int, DpAll K H (ns.map V.int) (ns.map PyData.int)
  | [] => .nil
  | n :: r => .cons (.int n) (dpInts r)
theorem cr_maxD {X : Cx} (hc : X.calm = true) (hu : X.A.units + 64 < cLine) : CallRK X (.builtin "max") [Str.ofString "default"] (rMaxD X.K) := by
  intro pins s σ H vs zs us ws Q I r1 r2 h
  obtain ⟨a, ns, d, m, rfl, rfl, hs, q0, q1, q⟩ := h
  obtain ⟨its, rv, hl, _⟩ := I.list hs
  cases r1 with
  | cons x1 x2 =>
    cases x1
    cases x2
    cases r2 with
    | cons y1 y2 =>
      obtain ⟨td, rfl⟩ := y1
      cases y2
      obtain ⟨as, hr⟩ := Dp.readsAll I (ns.map PyData.int) (ns.map V.int) its (dpInts ns) rv
      have hal : PySem.W.AlikeAll (ns.map PyData.int) := ⟨fun x hx y hy => by
        obtain ⟨i, _, rfl⟩ := List.mem_map.mp hx
        obtain ⟨j, _, rfl⟩ := List.mem_map.mp hy
        rfl, fun x hx => by
        obtain ⟨i, _, rfl⟩ := List.mem_map.mp hx
        intro z
        cases z⟩
      have hun : X.A.units + 1 + PyData.depthAll (ns.map PyData.int) < cLine := by
        rw [depthInts]
        omega
      refine PySem.W.max_list_default (vs := its.toArray) (I.ok.hd hc) hl.isList (by simpa using hr) hal hun (fun e h' tk hk => ?_) (fun y ys i v h' tk bs e hv hrd hk => ?_)
      · have : ns = [] := by simpa using e
        exact ⟨.int d, H, I.kept hk, ⟨_, rfl⟩, by rw [← q0 this]; exact q⟩
      · cases ns with
        | nil => cases e
        | cons n r =>
          rw [List.map_cons] at e
          injection e with e1 e2
          subst e1 e2
          rw [PySem.W.maxD_ints] at hrd
          cases hrd
          exact ⟨.int _, H, I.kept hk, ⟨_, rfl⟩, by rw [← q1 n r rfl]; exact q⟩
end Sw
set_option Elab.async false
set_option maxRecDepth 100000
set_option maxHeartbeats 4000000
namespace PySem
open Sem (wp)
open AutoSeq1 (wpAny_loadPart')
/-! ### enumerate of a tuple, at the library's level -/
theorem meets_enumerate_newT (l : Addr) (items : Array Value) (n : Nat) (dct : Option Addr) (sl : Array (Option Value)) :
    Meets (Builtin.«enumerate.__new__» ⟨[.type "enumerate", .ref l], []⟩) (fun _ R s => s.heap.get? l = some { cls := .type "tuple", dict := dct, data := .seq items n, slots := sl } ∧
      R (.ok (.ret (.ref (s.heap.push { cls := .type "tuple_iterator", data := .fields #[.ref l, .int 0 0] }).objs.size)))
        { s with heap := (s.heap.push { cls := .type "tuple_iterator", data := .fields #[.ref l, .int 0 0] }).push { cls := .type "enumerate", data := .fields #[.none, .bool false, .ref s.heap.objs.size, rawInt 0, .none, .none] } }) :=
  .of_wp fun prog w A R s h => by
    obtain ⟨hp, g, d, tk, os⟩ := s; obtain ⟨hl, h⟩ := h
    have hsub := sub_enumerate
    have hL : Heap.IsTuple (Shared.heap ⟨hp, g, d, tk, os⟩) l items := ⟨_, hl, rfl, n, rfl⟩
    wp_walk using wpAny_loadPart' hl
    refine wpAny_stack_any fun st => wpAny_pure ?_
    split
    · rename_i c _ _ _ _ _
      cases (c == Value.type "enumerate")
      · wp_walk using wpAny_loadPart' hl, wpAny_pyIter_tuple hL
        exact ⟨_, rfl, h⟩
      · wp_walk using wpAny_loadPart' hl, wpAny_pyIter_tuple hL
        exact ⟨_, rfl, h⟩
    · wp_walk using wpAny_loadPart' hl, wpAny_pyIter_tuple hL
      exact ⟨_, rfl, h⟩
section
variable {prog : Program} {w : World} {A : Around} {E : Value → Shared → Prop} {s : Shared}
theorem call_enumerate_tuple {l : Addr} {items : Array Value} {Q : Value → Shared → Prop} (hL : s.heap.IsTuple l items)
    (h : ∀ h', IsEnum h' (s.heap.objs.size + 1) s.heap.objs.size 0 .none → h'.IsTupleIter s.heap.objs.size l 0 → h'.objs.size = s.heap.objs.size + 2 →
      (∀ b o, s.heap.get? b = some o → h'.get? b = some o) → Q (.ref (s.heap.objs.size + 1)) { s with heap := h' }) :
    wpAny (model prog w) A (call (.type "enumerate") [.ref l]) Q E s := by
  obtain ⟨⟨c, dct, dt, sl⟩, hl, hc, n, hd⟩ := hL
  replace hc : c = .type "tuple" := hc
  replace hd : dt = .seq items n := hd
  subst hc hd
  refine callType_new F.called_enumerate (by decide) (F.typeCall_enumerate_1 _) (F.newCall_enumerate_1 _) (fun obj => F.args_object_init_2 obj _) F.entry_enumerate_new
    (meets_enumerate_newT l items n dct sl) ⟨hl, ?_⟩
  have hz : (s.heap.push { cls := .type "tuple_iterator", data := .fields #[.ref l, .int 0 0] }).objs.size = s.heap.objs.size + 1 := Heap.size_push ..
  show _ ∧ _
  rw [hz]
  have he : IsEnum ((s.heap.push { cls := .type "tuple_iterator", data := .fields #[.ref l, .int 0 0] }).push
      { cls := .type "enumerate", data := .fields #[.none, .bool false, .ref s.heap.objs.size, rawInt 0, .none, .none] }) (s.heap.objs.size + 1) s.heap.objs.size 0 .none := by
    have := Heap.get?_push_size (s.heap.push { cls := .type "tuple_iterator", data := .fields #[.ref l, .int 0 0] })
      (o := { cls := .type "enumerate", data := .fields #[.none, .bool false, .ref s.heap.objs.size, rawInt 0, .none, .none] }) rfl
    rw [hz] at this; exact this
  refine ⟨⟨_, he, rfl⟩, h _ he ⟨_, Heap.get?_push_of_some _ (Heap.get?_push_size _ rfl), rfl, rfl⟩ (by rw [Heap.size_push, hz]) fun b o x => Heap.get?_push_of_some _ (Heap.get?_push_of_some _ x)⟩
end
end PySem
namespace Sw
open PySem L2 PySem.Spec PyProof.Rows HT
/-- the tuple at a, each item in a new pair -/
def IteT (K : PySem.W.Frag) (a : Addr) : It :=
  ⟨fun i H => ∃ (xs : List V) (x : V), SqT K H a xs ∧ xs[i]? = some x, fun i H v H' => ∃ T x, v = .ref T ∧ H T = none ∧ H' = upd H T (.tup [.int (i : Nat), x]) ∧ ∀ xs, SqT K H a xs → xs[i]? = some x, fun i H => ∃ xs : List V, SqT K H a xs ∧ xs.length ≤ i⟩
theorem turn_enumT {P : Program} {w : World} {K : PySem.W.Frag} {elts : List Expr} {kk : Nat} {tpos : Pos} (a e it : Addr) :
    Turn P w K (.Tuple elts kk tpos) (IteT K a) [e, it] e (fun i h => (∃ old, IsEnum h e it ((i : Nat) : Int) old) ∧ h.IsTupleIter it a i ∧ e ≠ it ∧ a ≠ it ∧ a ≠ e) where
  mem := by simp
  obj := fun i h st b hb => by
    obtain ⟨⟨old, he⟩, ⟨o, ho, hc, hd⟩, _⟩ := st
    have e' : b = e ∨ b = it := by simpa using hb
    rcases e' with z | z
    · rw [z]; exact ⟨_, he, fun v q => nomatch q⟩
    · rw [z]; exact ⟨o, ho, fun v q => by rw [hd] at q; cases q⟩
  keep := fun i h h' st k => let ⟨⟨old, he⟩, hi, hne⟩ := st; ⟨⟨old, k e (by simp) _ he⟩, hi.at fun o q => k it (by simp) o q, hne⟩
  item := by
    intro X hP hw hK hc i pins s σ H E I hf st hg
    subst hP hw hK
    obtain ⟨⟨old, he⟩, hit, hne, hai, hae⟩ := st
    obtain ⟨xs, x, hq, hx⟩ := hg
    obtain ⟨its, rv, p, hz⟩ := I.tuple hq
    obtain ⟨u, hu, ru⟩ := rv.get hx
    have hel : e < s.heap.objs.size := Heap.lt_size he
    have hil : it < s.heap.objs.size := by obtain ⟨_, q, _⟩ := hit; exact Heap.lt_size q
    have hlt : i < its.toArray.size := by
      have : its[i]? = some u := by simpa using hu
      obtain ⟨q, _⟩ := List.getElem?_eq_some_iff.mp this
      simpa using q
    have D := PySem.Draws.tuple (prog := X.prog) (w := X.w) (A := X.A.in1) (I.ok.hd hc) it a hai its.toArray
    refine wpAny_pyNext_enum_itemD D he ⟨hit, p⟩ hlt hne (by simp [hne, hae.symm]) fun y h' tk hy ho hst' hT hsz hk => ?_
    obtain ⟨hit', hp'⟩ := hst'
    have ey : y = u := by
      have : its.toArray[i]? = some u := by simpa using hu
      rw [this] at hy
      exact (Option.some.inj hy).symm
    subst ey
    refine ⟨_, rfl, wpAny_letOwnedTupleGo_enum (s := { s with heap := h', toks := tk + 1 }) ho fun h'' he' sb => ?_⟩
    have hT2 : h''.get? s.heap.objs.size = some { cls := .type "tuple", data := .seq #[.int i tk, y] } := (sb.2 _ (Nat.ne_of_gt hel)).trans hT
    have new : ObjOk X.prog X.w (upd H s.heap.objs.size (.tup [.int (i : Nat), x])) h'' s.heap.objs.size (.tup [.int (i : Nat), x]) :=
      ⟨by show 2 ≤ sizeLine; decide, [.int i tk, y], .cons ⟨_, rfl⟩ (.cons ru .nil), ⟨_, hT2, rfl, _, rfl⟩⟩
    have I1 : Inv X pins σ (upd H s.heap.objs.size (.tup [.int (i : Nat), x])) { s with heap := h'', toks := tk + 1 } :=
      I.turnedNew (ch := [e, it]) (fun b ob hb q => (sb.2 b (fun z => hb (by simp [z]))).trans (hk b ob (fun z => hb (by simp [z])) (fun z => hb (by simp [z])) q)) hf (Nat.le_refl _) new
    refine ⟨.ref s.heap.objs.size, _, I1, rfl, ⟨_, x, rfl, I.hok.fresh (Nat.le_refl _), rfl, fun ys hy => by rw [I.tuple_inj hy hq]; exact hx⟩, ⟨⟨y, ?_⟩, hit'.at fun o q => (sb.2 it (Ne.symm hne)).trans q, hne, hai, hae⟩, fun b hb => ?_⟩
    · have e1 : ((i + 1 : Nat) : Int) = (i : Int) + 1 := by omega
      rw [e1]; exact he'
    · have hb' : b < s.heap.objs.size := by
        have e' : b = e ∨ b = it := by simpa using hb
        rcases e' with z | z
        · rw [z]; exact hel
        · rw [z]; exact hil
      rw [upd_ne (Nat.ne_of_lt hb')]
      exact (hf b hb).1
  done := by
    intro X hP hw hK hc i pins s σ H E I hf st hg
    subst hP hw hK
    obtain ⟨⟨old, he⟩, hit, hne, hai, hae⟩ := st
    obtain ⟨xs, hq, hx⟩ := hg
    obtain ⟨its, rv, p, hz⟩ := I.tuple hq
    obtain ⟨f0, f1, f2, f3, f4, f5⟩ := hf it (by simp)
    have hl := rv.length
    have hle : xs.length ≤ i := hx
    have D := PySem.Draws.tuple (prog := X.prog) (w := X.w) (A := X.A.in1) (I.ok.hd hc) it a hai its.toArray
    have hT : s.TypeIs (.ref e) "enumerate" := ⟨_, he, rfl⟩
    unfold pyNext
    refine wpAny_bind (wpAny_attempt (wpAny_callSpecial?_slot (name := Str.ofString "__next__") hT F.slot_enumerate_next
      (wpAny_call_entry F.slot_enumerate_next hT F.entry_enumerate_next ?_ (F.args_enumerate_next_1 _))))
    show wpAny _ _ (field (.ref e) 2 >>= _) _ _ _
    refine wpAny_bind (wpAny_field he rfl (x := .ref it) rfl ?_)
    refine wpAny_bind (wpAny_nextOf_tuple_end (I.ok.hd hc) hit p (by simp; omega) fun h' x eb hx' => ?_)
    obtain ⟨o, ho, hc'⟩ := hx'
    refine wpAny_bind (wpAny_isInstance (T := "StopIteration") (b := true) ⟨o, ho, hc'⟩ isSubtype_stop ?_)
    exact wpAny_pure ⟨rfl, I.turned (t' := s.toks) (fun b o hb q => eb b o hb q) f0 f1 f3 f4 f5⟩
  self := fun A i s Q E st h => let ⟨⟨_, he⟩, _⟩ := st; wpAny_pyIter_enum he h
def iEnumT (K : PySem.W.Frag) (ta : TA) : TI := fun σ H R => ta σ H fun vs H1 => ∃ a xs, vs = [.ref a] ∧ SqT K H1 a xs ∧ R (IteT K a) H1
theorem pi_enumT {X : Cx} {e : Expr} {ta : TA} {p pos tpos : Pos} {elts : List Expr} {kk : Nat} (hg : Gl X "enumerate") (hm : X.mg "enumerate" = none) (ha : PA X [e] ta) (hs : starEach [e] X.env = [(false, eval e X.env)] := by rfl) :
    PI X (.Tuple elts kk tpos) (.Call (.Name "enumerate" p) [e] [] pos) (iEnumT X.K ta) := by
  refine ⟨fun pins s σ H R I h => ?_⟩
  refine Call_ (ld_blt I hg hm boot_enumerate (PyProof.Rows.callWith_type1 (thn (ha.run pos pins s σ H _ I h) fun us s1 ⟨vs, H1, I1, r1, q1⟩ => ?_) hs rfl))
  obtain ⟨a, xs, ex, hq, q⟩ := q1
  subst ex
  cases r1 with
  | cons r rr =>
    cases rr
    cases r
    obtain ⟨its, rv, p', hz⟩ := I1.tuple hq
    have hal : a < s1.heap.objs.size := by
      obtain ⟨o, ho, _⟩ := p'
      exact Heap.lt_size ho
    refine call_enumerate_tuple p' fun h' he hit hsz hk => wpAny_pyIter_enum he ?_
    have I2 : Inv X pins σ H1 { s1 with heap := h' } := I1.kept (t' := s1.toks) hk
    refine ⟨s1.heap.objs.size + 1, [s1.heap.objs.size + 1, s1.heap.objs.size], _, _, H1, rfl, I2, turn_enumT a (s1.heap.objs.size + 1) s1.heap.objs.size, ⟨⟨.none, he⟩, hit, Nat.succ_ne_self _, Nat.ne_of_lt hal, Nat.ne_of_lt (Nat.lt_succ_of_lt hal)⟩, fun b hb => ?_, q⟩
    have e' : b = s1.heap.objs.size + 1 ∨ b = s1.heap.objs.size := by simpa using hb
    have hle : s1.heap.objs.size ≤ b := by
      rcases e' with z | z
      · rw [z]; exact Nat.le_add_right _ _
      · rw [z]; exact Nat.le_refl _
    exact I1.fpOk hle (I1.hok.fresh hle)
theorem for_enumT {K : PySem.W.Frag} {a : Addr} {xs : List V} {g : TG} {tb : TS} {D : Ends} {σ : L2.St} {H : Hp} (Pv : Nat → L2.St → Hp → Prop) (h0 : Pv 0 σ H) (hl : ∀ i σ H, i ≤ xs.length → Pv i σ H → SqT K H a xs)
    (hs : ∀ i x T σ H, xs[i]? = some x → Pv i σ H → H T = none → g (.ref T) σ (upd H T (.tup [.int (i : Nat), x])) fun σ2 H2 => tb { D with nx := Pv (i + 1), ct := Pv (i + 1), bk := D.nx } σ2 H2) (hd : ∀ σ H, Pv xs.length σ H → D.nx σ H) :
    ∃ W : Nat → Nat → L2.St → Hp → Prop, (∃ m, W 0 m σ H) ∧ ∀ i m σ H, W i m σ H →
      ((IteT K a).stop i H ∧ D.nx σ H) ∨ ((IteT K a).go i H ∧ ∃ N : L2.St → Hp → Prop, (∀ σ' H', N σ' H' → ∃ m', m' < m ∧ W (i + 1) m' σ' H') ∧ ∀ x H', (IteT K a).yld i H x H' → g x σ H' fun σ2 H2 => tb { D with nx := N, ct := N, bk := D.nx } σ2 H2) := by
  refine ⟨fun i m σ H => m = xs.length - i ∧ i ≤ xs.length ∧ Pv i σ H, ⟨xs.length, by simp, Nat.zero_le _, h0⟩, ?_⟩
  rintro i m σ H ⟨rfl, hi, hp⟩
  have hL := hl i σ H hi hp
  by_cases e : i = xs.length
  · exact .inl ⟨⟨xs, hL, by omega⟩, hd σ H (by rw [← e]; exact hp)⟩
  · have hlt : i < xs.length := by omega
    refine .inr ⟨⟨xs, xs[i], hL, List.getElem?_eq_getElem hlt⟩, Pv (i + 1), fun σ' H' hq => ⟨_, by omega, rfl, hlt, hq⟩, fun x H' hy => ?_⟩
    obtain ⟨T, y, rfl, hT, rfl, hx⟩ := hy
    exact hs i y T σ H (hx xs hL) hp hT
end Sw
set_option Elab.async false
namespace Sw
/-! ### ways along edges -/
inductive RT (E : Nat → List Nat) : Nat → Nat → Prop where
  | refl (a : Nat) : RT E a a
  | step {a b c : Nat} : b ∈ E a → RT E b c → RT E a c
variable {E : Nat → List Nat}
theorem RT.trans {a b c : Nat} (h : RT E a b) (g : RT E b c) : RT E a c := by
  induction h with
  | refl _ => exact g
  | step e _ ih => exact .step e (ih g)
theorem RT.one {a b : Nat} (h : b ∈ E a) : RT E a b := .step h (.refl _)
theorem RT.snoc {a b c : Nat} (h : RT E a b) (g : c ∈ E b) : RT E a c := h.trans (.one g)
/-- what is closed along edges holds what is come to -/
theorem RT.closed {p : Nat → Prop} (hp : ∀ a b, p a → b ∈ E a → p b) {a b : Nat} (h : RT E a b) (pa : p a) : p b := by
  induction h with
  | refl _ => exact pa
  | step e _ ih => exact ih (hp _ _ pa e)
/-- .. and backwards -/
theorem RT.back {p : Nat → Prop} (hp : ∀ a b, p b → b ∈ E a → p a) {a b : Nat} (h : RT E a b) (pb : p b) : p a := by
  induction h with
  | refl _ => exact pb
  | step e _ ih => exact hp _ _ (ih pb) e
/-- of one orbit -/
def Mu (E : Nat → List Nat) (a b : Nat) : Prop := RT E a b ∧ RT E b a
theorem Mu.refl (a : Nat) : Mu E a a := ⟨.refl a, .refl a⟩
theorem Mu.symm {a b : Nat} (h : Mu E a b) : Mu E b a := ⟨h.2, h.1⟩
theorem Mu.trans {a b c : Nat} (h : Mu E a b) (g : Mu E b c) : Mu E a c := ⟨h.1.trans g.1, g.2.trans h.2⟩
/-! ### the walk -/
abbrev Ent := Nat × Bool
def Xd (S : List Ent) (F : List Nat) (v : Nat) : Prop := v ∈ F ∨ (v, true) ∈ S
structure DI (E : Nat → List Nat) (n : Nat) (S : List Ent) (F : List Nat) : Prop where
  bS : ∀ e, e ∈ S → e.1 < n
  bF : ∀ v, v ∈ F → v < n
  nd : (F ++ (S.filter (·.2)).map (·.1)).Nodup
  up : S.Pairwise fun e e' => e'.2 = true → RT E e'.1 e.1
  fin : ∀ v, v ∈ F → ∀ w, w ∈ E v → Xd S F w
  gray : ∀ A v B, S = A ++ (v, true) :: B → ∀ w, w ∈ E v → Xd S F w ∨ (w, false) ∈ A
  all : ∀ k, k < n → Xd S F k ∨ (k, false) ∈ S
  last : ∀ v, v ∈ F → (∃ z, (z, true) ∈ S ∧ Mu E z v) ∨ ∃ A z B, F = A ++ z :: B ∧ Mu E z v ∧ ∀ w, RT E v w → w ∈ A ++ [z]
theorem DI.start (n : Nat) : DI E n ((List.range n).reverse.map fun k => (k, false)) [] := by
  refine ⟨?_, ?_, ?_, ?_, ?_, ?_, ?_, ?_⟩
  · intro e he
    simp at he
    obtain ⟨a, h, rfl⟩ := he
    exact h
  · intro v h; cases h
  · have : (((List.range n).reverse.map fun k => ((k, false) : Ent)).filter (·.2)) = [] := by
      rw [List.filter_eq_nil_iff]
      intro e he
      simp at he
      obtain ⟨a, h, rfl⟩ := he
      simp
    rw [this]
    exact List.nodup_nil
  · rw [List.pairwise_map]
    exact List.pairwise_of_forall (fun _ _ h => by cases h)
  · intro v h; cases h
  · intro A v B h
    exfalso
    have : (v, true) ∈ ((List.range n).reverse.map fun k => ((k, false) : Ent)) := by rw [h]; simp
    simp at this
  · intro k hk
    refine .inr ?_
    simp
    exact hk
  · intro v h; cases h
/-- the top one has been entered -/
theorem DI.skip {n v : Nat} {S : List Ent} {F : List Nat} (h : DI E n ((v, false) :: S) F) (hx : Xd ((v, false) :: S) F v) : DI E n S F := by
  have X : ∀ w, Xd ((v, false) :: S) F w → Xd S F w := by
    intro w hw
    rcases hw with hw | hw
    · exact .inl hw
    · simp at hw
      exact .inr hw
  refine ⟨fun e he => h.bS e (List.mem_cons_of_mem _ he), h.bF, ?_, (List.pairwise_cons.mp h.up).2, fun v hv w hw => X w (h.fin v hv w hw), ?_, ?_, ?_⟩
  · have := h.nd
    simpa using this
  · intro A u B e w hw
    have := h.gray ((v, false) :: A) u B (by rw [e]; rfl) w hw
    rcases this with g | g
    · exact .inl (X w g)
    · rcases List.mem_cons.mp g with g | g
      · obtain rfl : w = v := congrArg Prod.fst g
        exact .inl (X _ hx)
      · exact .inr g
  · intro k hk
    rcases h.all k hk with g | g
    · exact .inl (X k g)
    · rcases List.mem_cons.mp g with g | g
      · obtain rfl : k = v := congrArg Prod.fst g
        exact .inl (X _ hx)
      · exact .inr g
  · intro u hu
    rcases h.last u hu with ⟨z, hz, m⟩ | r
    · simp at hz
      exact .inl ⟨z, hz, m⟩
    · exact .inr r
/-- the top one is entered -/
theorem DI.enter {n v : Nat} {S : List Ent} {F : List Nat} (hE : ∀ k, k < n → ∀ j, j ∈ E k → j < n) (h : DI E n ((v, false) :: S) F) (hx : ¬ Xd ((v, false) :: S) F v) :
    DI E n (((E v).reverse.map fun k => (k, false)) ++ (v, true) :: S) F := by
  have hv : v < n := h.bS _ List.mem_cons_self
  have X : ∀ w, Xd ((v, false) :: S) F w → Xd (((E v).reverse.map fun k => ((k, false) : Ent)) ++ (v, true) :: S) F w := by
    intro w hw
    rcases hw with hw | hw
    · exact .inl hw
    · simp at hw
      exact .inr (by simp [hw])
  have Xv : Xd (((E v).reverse.map fun k => ((k, false) : Ent)) ++ (v, true) :: S) F v := .inr (by simp)
  have ff : (((E v).reverse.map fun k => ((k, false) : Ent)).filter (·.2)) = [] := by
    rw [List.filter_eq_nil_iff]
    intro e he
    simp at he
    obtain ⟨a, _, rfl⟩ := he
    simp
  refine ⟨?_, h.bF, ?_, ?_, fun u hu w hw => X w (h.fin u hu w hw), ?_, ?_, ?_⟩
  · intro e he
    rcases List.mem_append.mp he with he | he
    · simp at he
      obtain ⟨a, ha, rfl⟩ := he
      exact hE v hv a ha
    · rcases List.mem_cons.mp he with rfl | he
      · exact hv
      · exact h.bS e (List.mem_cons_of_mem _ he)
  · rw [List.filter_append, ff, List.nil_append]
    have nd := h.nd
    have e1 : ((v, false) :: S).filter (·.2) = S.filter (·.2) := by simp
    rw [e1] at nd
    have e2 : ((v, true) :: S).filter (·.2) = (v, true) :: S.filter (·.2) := by simp
    rw [e2, List.map_cons]
    have p : (F ++ v :: (S.filter (·.2)).map (·.1)).Perm (v :: (F ++ (S.filter (·.2)).map (·.1))) := List.perm_middle
    rw [p.nodup_iff, List.nodup_cons]
    refine ⟨fun hm => hx ?_, nd⟩
    rcases List.mem_append.mp hm with hm | hm
    · exact .inl hm
    · simp at hm
      exact .inr (List.mem_cons_of_mem _ hm)
  · rw [List.pairwise_append]
    refine ⟨?_, ?_, ?_⟩
    · rw [List.pairwise_map]
      exact List.pairwise_of_forall (fun _ _ h => by cases h)
    · have up := h.up
      rw [List.pairwise_cons] at up ⊢
      exact ⟨fun e he ht => up.1 e he ht, up.2⟩
    · intro a ha b hb ht
      simp at ha
      obtain ⟨c, hc, rfl⟩ := ha
      rcases List.mem_cons.mp hb with rfl | hb
      · exact .one hc
      · exact ((List.pairwise_cons.mp h.up).1 b hb ht).snoc hc
  · intro A u B e w hw
    rcases List.append_eq_append_iff.mp e with ⟨A', e1, e2⟩ | ⟨A', e1, e2⟩
    · -- A = children ++ A'
      cases A' with
      | nil =>
        simp at e2
        obtain ⟨e3, e4⟩ := e2
        subst e3
        refine .inr ?_
        rw [e1]
        simp
        exact hw
      | cons x A' =>
        simp at e2
        obtain ⟨rfl, e4⟩ := e2
        have := h.gray ((v, false) :: A') u B (by rw [e4]; rfl) w hw
        rcases this with g | g
        · exact .inl (X w g)
        · rcases List.mem_cons.mp g with g | g
          · obtain rfl : w = v := congrArg Prod.fst g
            exact .inl Xv
          · refine .inr ?_
            rw [e1]
            simp [g]
    · cases A' with
      | nil =>
        simp at e2
        obtain ⟨rfl, e4⟩ := e2
        simp at e1
        refine .inr ?_
        rw [← e1]
        simp
        exact hw
      | cons x A' =>
        exfalso
        have : (u, true) ∈ ((E v).reverse.map fun k => ((k, false) : Ent)) := by
          rw [e1]
          simp at e2
          rw [← e2.1]
          simp
        simp at this
  · intro k hk
    rcases h.all k hk with g | g
    · exact .inl (X k g)
    · rcases List.mem_cons.mp g with g | g
      · obtain rfl : k = v := congrArg Prod.fst g
        exact .inl Xv
      · exact .inr (by simp [g])
  · intro u hu
    rcases h.last u hu with ⟨z, hz, m⟩ | r
    · simp at hz
      exact .inl ⟨z, by simp [hz], m⟩
    · exact .inr r
/-- the top one is left -/
theorem DI.leave {n v : Nat} {S : List Ent} {F : List Nat} (h : DI E n ((v, true) :: S) F) : DI E n S (F ++ [v]) := by
  have X : ∀ w, Xd ((v, true) :: S) F w → Xd S (F ++ [v]) w := by
    intro w hw
    rcases hw with hw | hw
    · exact .inl (by simp [hw])
    · rcases List.mem_cons.mp hw with g | g
      · obtain rfl : w = v := congrArg Prod.fst g
        exact .inl (by simp)
      · exact .inr g
  have edge : ∀ w, w ∈ E v → Xd ((v, true) :: S) F w := fun w hw => by
    rcases h.gray [] v S rfl w hw with g | g
    · exact g
    · cases g
  have fin : ∀ u, u ∈ F ++ [v] → ∀ w, w ∈ E u → Xd ((v, true) :: S) F w := by
    intro u hu w hw
    rcases List.mem_append.mp hu with hu | hu
    · exact h.fin u hu w hw
    · obtain rfl : u = v := by simpa using hu
      exact edge w hw
  -- either all that v comes to is left, or some that stands yet is of its orbit
  have key : (∃ z, (z, true) ∈ S ∧ Mu E z v) ∨ ∀ w, RT E v w → w ∈ F ++ [v] := by
    by_cases c : ∃ y, (y, true) ∈ S ∧ RT E v y
    · obtain ⟨y, hy, r⟩ := c
      exact .inl ⟨y, hy, (List.pairwise_cons.mp h.up).1 _ hy rfl, r⟩
    · refine .inr fun w hw => ?_
      have : (w ∈ F ++ [v] ∧ RT E v w) := by
        refine RT.closed (p := fun w => w ∈ F ++ [v] ∧ RT E v w) (fun a b ha hb => ⟨?_, ha.2.snoc hb⟩) hw ⟨by simp, .refl v⟩
        rcases fin a ha.1 b hb with g | g
        · simp [g]
        · rcases List.mem_cons.mp g with g | g
          · obtain rfl : b = v := congrArg Prod.fst g
            simp
          · exact absurd ⟨b, g, ha.2.snoc hb⟩ c
      exact this.1
  have mine : (∃ z, (z, true) ∈ S ∧ Mu E z v) ∨ ∃ A z B, F ++ [v] = A ++ z :: B ∧ Mu E z v ∧ ∀ w, RT E v w → w ∈ A ++ [z] := by
    rcases key with k | k
    · exact .inl k
    · exact .inr ⟨F, v, [], rfl, .refl v, k⟩
  refine ⟨fun e he => h.bS e (List.mem_cons_of_mem _ he), ?_, ?_, (List.pairwise_cons.mp h.up).2, fun u hu w hw => X w (fin u hu w hw), ?_, ?_, ?_⟩
  · intro u hu
    rcases List.mem_append.mp hu with hu | hu
    · exact h.bF u hu
    · obtain rfl : u = v := by simpa using hu
      exact h.bS _ List.mem_cons_self
  · have nd := h.nd
    have e2 : ((v, true) :: S).filter (·.2) = (v, true) :: S.filter (·.2) := by simp
    rw [e2, List.map_cons] at nd
    rw [List.append_assoc]
    exact nd
  · intro A u B e w hw
    have := h.gray ((v, true) :: A) u B (by rw [e]; rfl) w hw
    rcases this with g | g
    · exact .inl (X w g)
    · rcases List.mem_cons.mp g with g | g
      · cases g
      · exact .inr g
  · intro k hk
    rcases h.all k hk with g | g
    · exact .inl (X k g)
    · rcases List.mem_cons.mp g with g | g
      · cases g
      · exact .inr g
  · intro u hu
    rcases List.mem_append.mp hu with hu | hu
    · rcases h.last u hu with ⟨z, hz, m⟩ | ⟨A, z, B, e, m, c⟩
      · rcases List.mem_cons.mp hz with g | g
        · obtain rfl : z = v := congrArg Prod.fst g
          rcases mine with ⟨y, hy, my⟩ | ⟨A, y, B, e, my, c⟩
          · exact .inl ⟨y, hy, my.trans m⟩
          · exact .inr ⟨A, y, B, e, my.trans m, fun w hw => c w (m.1.trans hw)⟩
        · exact .inl ⟨z, g, m⟩
      · exact .inr ⟨A, z, B ++ [v], by rw [e]; simp, m, c⟩
    · obtain rfl : u = v := by simpa using hu
      exact mine
/-- the order in which rooms are left -/
structure Left (E : Nat → List Nat) (n : Nat) (F : List Nat) : Prop where
  nd : F.Nodup
  mem : ∀ k, k ∈ F ↔ k < n
  last : ∀ v, v < n → ∃ A z B, F = A ++ z :: B ∧ Mu E z v ∧ ∀ w, RT E v w → w ∈ A ++ [z]
theorem DI.end {n : Nat} {F : List Nat} (h : DI E n [] F) : Left E n F := by
  refine ⟨by simpa using h.nd, fun k => ⟨h.bF k, fun hk => ?_⟩, fun v hv => ?_⟩
  · rcases h.all k hk with g | g
    · rcases g with g | g
      · exact g
      · cases g
    · cases g
  · have hF : v ∈ F := by
      rcases h.all v hv with g | g
      · rcases g with g | g
        · exact g
        · cases g
      · cases g
    rcases h.last v hF with ⟨z, hz, _⟩ | r
    · cases hz
    · exact r
/-! ### a measure of the walk -/
theorem nodup_le : ∀ {n : Nat} {l : List Nat}, l.Nodup → (∀ x, x ∈ l → x < n) → l.length ≤ n := by
  intro n
  induction n with
  | zero =>
    intro l _ h
    cases l with
    | nil => exact Nat.le_refl _
    | cons x l => exact absurd (h x List.mem_cons_self) (Nat.not_lt_zero _)
  | succ n ih =>
    intro l nd h
    by_cases m : n ∈ l
    · have e1 := List.length_erase_of_mem m
      have := ih (nd.erase n) (fun x hx => by
        have h1 := h x (List.mem_of_mem_erase hx)
        have h2 : x ≠ n := fun e => by
          subst e
          exact (List.Nodup.mem_erase_iff nd).mp hx |>.1 rfl
        omega)
      have : 0 < l.length := List.length_pos_of_mem m
      omega
    · have := ih nd (fun x hx => by
        have h1 := h x hx
        have h2 : x ≠ n := fun e => m (e ▸ hx)
        omega)
      omega
def ents (S : List Ent) (F : List Nat) : Nat := F.length + (S.filter (·.2)).length
theorem DI.ents_le {n : Nat} {S : List Ent} {F : List Nat} (h : DI E n S F) : ents S F ≤ n := by
  have := nodup_le (n := n) h.nd (fun x hx => by
    rcases List.mem_append.mp hx with hx | hx
    · exact h.bF x hx
    · simp at hx
      exact h.bS _ hx)
  simp at this
  simpa [ents] using this
/-- D: more than the most steps from a room -/
def meas (n D : Nat) (S : List Ent) (F : List Nat) : Nat := (n - ents S F) * (D + 2) + S.length
theorem meas_skip (n D v : Nat) (S : List Ent) (F : List Nat) : meas n D S F < meas n D ((v, false) :: S) F := by
  simp [meas, ents]
theorem meas_leave (n D v : Nat) (S : List Ent) (F : List Nat) : meas n D S (F ++ [v]) < meas n D ((v, true) :: S) F := by
  have : ents S (F ++ [v]) = ents ((v, true) :: S) F := by simp [ents]; omega
  simp [meas, this]
theorem meas_enter {n D v : Nat} {S : List Ent} {F : List Nat} (hE : ∀ k, k < n → ∀ j, j ∈ E k → j < n) (h : DI E n ((v, false) :: S) F) (hx : ¬ Xd ((v, false) :: S) F v) (hD : (E v).length ≤ D) :
    meas n D (((E v).reverse.map fun k => (k, false)) ++ (v, true) :: S) F < meas n D ((v, false) :: S) F := by
  have h2 := (h.enter hE hx).ents_le
  have ff : (((E v).reverse.map fun k => ((k, false) : Ent)).filter (·.2)) = [] := by
    rw [List.filter_eq_nil_iff]
    intro e he
    simp at he
    obtain ⟨a, _, rfl⟩ := he
    simp
  have e1 : ents (((E v).reverse.map fun k => (k, false)) ++ (v, true) :: S) F = ents ((v, false) :: S) F + 1 := by
    unfold ents
    rw [List.filter_append, ff, List.nil_append]
    simp
    omega
  rw [e1] at h2
  unfold meas
  rw [e1]
  have : n - ents ((v, false) :: S) F = (n - (ents ((v, false) :: S) F + 1)) + 1 := by omega
  rw [this, Nat.add_mul, Nat.one_mul]
  simp
  omega
/-! ### rooms collected backwards from one of them -/
structure Pl (E : Nat → List Nat) (n : Nat) (first : Nat) (P0 T A : List Nat) : Prop where
  me : first ∈ T
  nd : T.Nodup
  off : ∀ t, t ∈ T → t ∉ P0
  lt : ∀ t, t ∈ T → t < n
  sub : ∀ t, t ∈ A → t ∈ T
  r : ∀ t, t ∈ T → RT E t first
  cl : ∀ t, t ∈ T → t ∉ A → ∀ y, y < n → t ∈ E y → y ∈ P0 ∨ y ∈ T
theorem Pl.start {n first : Nat} {P0 : List Nat} (h : first ∉ P0) (hl : first < n) : Pl E n first P0 [first] [first] := by
  refine ⟨by simp, by simp, fun t ht => ?_, fun t ht => ?_, fun t ht => ht, fun t ht => ?_, fun t ht ha => absurd ht ha⟩
  · obtain rfl : t = first := by simpa using ht
    exact h
  · obtain rfl : t = first := by simpa using ht
    exact hl
  · obtain rfl : t = first := by simpa using ht
    exact .refl _
/-- what a list of rooms that lead to x adds: those not placed yet -/
def adds (P0 T : List Nat) : List Nat → List Nat
  | [] => []
  | y :: ys => if y ∈ P0 ∨ y ∈ T then adds P0 T ys else y :: adds P0 (T ++ [y]) ys
theorem adds_mem {P0 : List Nat} : ∀ {ys T : List Nat} {x : Nat}, x ∈ adds P0 T ys → x ∈ ys ∧ x ∉ P0 ∧ x ∉ T
  | [], _, _, h => by cases h
  | y :: ys, T, x, h => by
    unfold adds at h
    split at h
    · obtain ⟨a, b, c⟩ := adds_mem h
      exact ⟨List.mem_cons_of_mem _ a, b, c⟩
    · rename_i hn
      rcases List.mem_cons.mp h with rfl | h
      · exact ⟨List.mem_cons_self, fun q => hn (.inl q), fun q => hn (.inr q)⟩
      · obtain ⟨a, b, c⟩ := adds_mem h
        exact ⟨List.mem_cons_of_mem _ a, b, fun q => c (by simp [q])⟩
theorem adds_all {P0 : List Nat} : ∀ {ys T : List Nat} {x : Nat}, x ∈ ys → x ∈ P0 ∨ x ∈ T ++ adds P0 T ys
  | [], _, _, h => by cases h
  | y :: ys, T, x, h => by
    unfold adds
    split
    · rename_i hy
      rcases List.mem_cons.mp h with rfl | h
      · rcases hy with q | q
        · exact .inl q
        · exact .inr (by simp [q])
      · exact adds_all h
    · rcases List.mem_cons.mp h with rfl | h
      · exact .inr (by simp)
      · rcases adds_all (P0 := P0) (T := T ++ [y]) h with q | q
        · exact .inl q
        · refine .inr ?_
          simpa using q
theorem adds_nd {P0 : List Nat} : ∀ {ys T : List Nat}, T.Nodup → (T ++ adds P0 T ys).Nodup
  | [], T, h => by simpa [adds] using h
  | y :: ys, T, h => by
    unfold adds
    split
    · exact adds_nd h
    · rename_i hn
      have : (T ++ [y]).Nodup := by
        have p : (T ++ [y]).Perm (y :: T) := List.perm_append_singleton y T
        rw [p.nodup_iff, List.nodup_cons]
        exact ⟨fun q => hn (.inr q), h⟩
      have := adds_nd (P0 := P0) (ys := ys) this
      simpa using this
theorem adds_cons {P0 T : List Nat} {ys : List Nat} {y : Nat} : adds P0 T (ys ++ [y]) = if y ∈ P0 ∨ y ∈ T ++ adds P0 T ys then adds P0 T ys else adds P0 T ys ++ [y] := by
  induction ys generalizing T with
  | nil => simp [adds]
  | cons z ys ih =>
    show adds P0 T (z :: (ys ++ [y])) = _
    unfold adds
    split
    · rename_i hz
      rw [ih]
    · rename_i hz
      rw [ih]
      simp only [List.append_assoc, List.singleton_append]
      split <;> rfl
theorem Pl.turn {n first x : Nat} {P0 T A ys : List Nat} (hn : ∀ y, y ∈ ys ↔ y < n ∧ x ∈ E y) (h : Pl E n first P0 T (A ++ [x])) :
    Pl E n first P0 (T ++ adds P0 T ys) (A ++ adds P0 T ys) := by
  have hx : x ∈ T := h.sub x (by simp)
  refine ⟨by simp [h.me], adds_nd h.nd, ?_, ?_, ?_, ?_, ?_⟩
  · intro t ht
    rcases List.mem_append.mp ht with ht | ht
    · exact h.off t ht
    · exact (adds_mem ht).2.1
  · intro t ht
    rcases List.mem_append.mp ht with ht | ht
    · exact h.lt t ht
    · exact ((hn t).mp (adds_mem ht).1).1
  · intro t ht
    rcases List.mem_append.mp ht with ht | ht
    · exact List.mem_append_left _ (h.sub t (by simp [ht]))
    · exact List.mem_append_right _ ht
  · intro t ht
    rcases List.mem_append.mp ht with ht | ht
    · exact h.r t ht
    · exact .step ((hn t).mp (adds_mem ht).1).2 (h.r x hx)
  · intro t ht ha y hy e
    by_cases c : t = x
    · subst c
      exact adds_all ((hn y).mpr ⟨hy, e⟩)
    · rcases List.mem_append.mp ht with ht | ht
      · rcases h.cl t ht (fun q => by
          rcases List.mem_append.mp q with q | q
          · exact ha (List.mem_append_left _ q)
          · exact c (by simpa using q)) y hy e with q | q
        · exact .inl q
        · exact .inr (by simp [q])
      · exact absurd (List.mem_append_right _ ht) ha
theorem split_nd {α : Type} {x : α} : ∀ {A B C D : List α}, (A ++ x :: B).Nodup → A ++ x :: B = C ++ x :: D → A = C ∧ B = D
  | [], B, [], D, _, e => by simp at e; exact ⟨rfl, e⟩
  | [], B, c :: C, D, nd, e => by
    simp at e
    obtain ⟨rfl, e⟩ := e
    simp at nd
    exact absurd (by rw [e]; simp) nd.1
  | a :: A, B, [], D, nd, e => by
    simp at e
    obtain ⟨rfl, e⟩ := e
    simp at nd
  | a :: A, B, c :: C, D, nd, e => by
    simp at e
    obtain ⟨rfl, e⟩ := e
    simp only [List.cons_append, List.nodup_cons] at nd
    obtain ⟨h1, h2⟩ := split_nd nd.2 e
    exact ⟨by rw [h1], h2⟩
/-- rooms placed by whole orbits -/
def Whole (E : Nat → List Nat) (n : Nat) (P : List Nat) : Prop := ∀ a b, a ∈ P → b < n → Mu E a b → b ∈ P
/-- collected is just the orbit -/
theorem Pl.all {n first : Nat} {P0 T F L R : List Nat} (hE : ∀ k, k < n → ∀ j, j ∈ E k → j < n) (hF : Left E n F) (hs : F = L ++ first :: R) (hp : ∀ x, x ∈ R → x ∈ P0) (hw : Whole E n P0) (h : Pl E n first P0 T []) :
    ∀ y, y ∈ T ↔ y < n ∧ Mu E first y := by
  have hf : first < n := h.lt _ h.me
  have stay : ∀ a b, RT E a b → a < n → b < n := fun a b r ha => RT.closed (p := (· < n)) (fun a b ha hb => hE a ha b hb) r ha
  intro y
  constructor
  · intro hy
    have hyn := h.lt y hy
    refine ⟨hyn, ?_⟩
    obtain ⟨A, z, B, e, m, c⟩ := hF.last y hyn
    have hz : z < n := (hF.mem z).mp (by rw [e]; simp)
    have hz0 : z ∉ P0 := fun q => h.off y hy (hw z y q hyn m)
    have h1 := c first (h.r y hy)
    -- z is not behind first
    have nd := hF.nd
    have zf : z = first := by
      have hzF : z ∈ L ++ first :: R := by rw [← hs]; exact (hF.mem z).mpr hz
      rcases List.mem_append.mp h1 with h1 | h1
      · -- first is ahead of z
        exfalso
        obtain ⟨A1, A2, rfl⟩ := List.append_of_mem h1
        rw [e] at hs
        have hs' : A1 ++ first :: (A2 ++ z :: B) = L ++ first :: R := by simpa using hs
        have nd' : (A1 ++ first :: (A2 ++ z :: B)).Nodup := by rw [e] at nd; simpa using nd
        have := split_nd nd' hs'
        exact hz0 (hp z (by rw [← this.2]; simp))
      · exact (by simpa using h1 : first = z).symm
    subst zf
    exact m
  · rintro ⟨hy, m⟩
    have f0 : first ∉ P0 := h.off _ h.me
    have go : ∀ a b, RT E a b → b = first → a < n → RT E first a → a ∈ T := by
      intro a b r
      induction r with
      | refl a => intro e _ _; subst e; exact h.me
      | step e r ih =>
        rename_i a b c
        intro ec ha hfa
        subst ec
        have hb := ih rfl (hE a ha b e) (hfa.snoc e)
        rcases h.cl b hb (by simp) a ha e with q | q
        · exact absurd (hw a _ q hf ⟨.step e r, hfa⟩) f0
        · exact q
    exact go y first m.2 rfl hy m.1
/-! ### lists of orbits -/
theorem sorted_ext {α : Type} {R : α → α → Prop} (as : ∀ a b, R a b → R b a → False) : ∀ {l m : List α}, l.Pairwise R → m.Pairwise R → (∀ x, x ∈ l ↔ x ∈ m) → l = m
  | [], [], _, _, _ => rfl
  | [], y :: m, _, _, h => by have := (h y).mpr (by simp); cases this
  | x :: l, [], _, _, h => by have := (h x).mp (by simp); cases this
  | x :: l, y :: m, hl, hm, h => by
    rw [List.pairwise_cons] at hl hm
    have ir : ∀ a, ¬ R a a := fun a r => as a a r r
    have e : x = y := by
      rcases List.mem_cons.mp ((h x).mp (by simp)) with e | hx
      · exact e
      · rcases List.mem_cons.mp ((h y).mpr (by simp)) with e | hy
        · exact e.symm
        · exact absurd (hl.1 y hy) (fun r => as _ _ r (hm.1 x hx))
    subst e
    rw [sorted_ext as hl.2 hm.2 fun z => ?_]
    constructor
    · intro hz
      rcases List.mem_cons.mp ((h z).mp (by simp [hz])) with e | q
      · subst e
        exact absurd (hl.1 _ hz) (ir _)
      · exact q
    · intro hz
      rcases List.mem_cons.mp ((h z).mpr (by simp [hz])) with e | q
      · subst e
        exact absurd (hm.1 _ hz) (ir _)
      · exact q
def up (l : List Nat) : Prop := l.Pairwise (· < ·)
/-- c is an orbit, rising -/
structure IsOrb (E : Nat → List Nat) (n : Nat) (c : List Nat) : Prop where
  up : up c
  ne : c ≠ []
  mem : ∀ x, x ∈ c → ∀ y, y ∈ c ↔ y < n ∧ Mu E x y
def hd (l : List Nat) : Nat := l.headD 0
theorem hd_mem {l : List Nat} (h : l ≠ []) : hd l ∈ l := by
  cases l with
  | nil => exact absurd rfl h
  | cons x l => simp [hd]
theorem IsOrb.eq {n : Nat} {c d : List Nat} (h : IsOrb E n c) (g : IsOrb E n d) {x : Nat} (hx : x ∈ c) (gx : x ∈ d) : c = d :=
  sorted_ext (fun a b p q => Nat.lt_asymm p q) h.up g.up fun y => by rw [h.mem x hx, g.mem x gx]
structure Orbs (E : Nat → List Nat) (n : Nat) (L : List (List Nat)) : Prop where
  o : ∀ c, c ∈ L → IsOrb E n c
  all : ∀ k, k < n → ∃ c, c ∈ L ∧ k ∈ c
  up : L.Pairwise fun c d => hd c < hd d
theorem Orbs.uniq {n : Nat} {L M : List (List Nat)} (h : Orbs E n L) (g : Orbs E n M) : L = M := by
  have one : ∀ {L M : List (List Nat)}, Orbs E n L → Orbs E n M → ∀ c, c ∈ L → c ∈ M := by
    intro L M h g c hc
    have o := h.o c hc
    have hm := hd_mem o.ne
    have hn := ((o.mem _ hm _).mp hm).1
    obtain ⟨d, hd1, hd2⟩ := g.all _ hn
    rw [o.eq (g.o d hd1) hm hd2]
    exact hd1
  exact sorted_ext (fun a b p q => Nat.lt_asymm p q) h.up g.up fun c => ⟨one h g c, one g h c⟩
end Sw
namespace Sw
variable {E : Nat → List Nat}
theorem hd_le {l : List Nat} (h : up l) {x : Nat} (hx : x ∈ l) : hd l ≤ x := by
  cases l with
  | nil => cases hx
  | cons y l =>
    rcases List.mem_cons.mp hx with rfl | hx
    · exact Nat.le_refl _
    · exact Nat.le_of_lt ((List.pairwise_cons.mp h).1 x hx)
/-- the orbits of the first rooms -/
structure OrbTo (E : Nat → List Nat) (n : Nat) (L : List (List Nat)) (i : Nat) : Prop where
  o : ∀ c, c ∈ L → IsOrb E n c
  all : ∀ k, k < i → ∃ c, c ∈ L ∧ k ∈ c
  up : L.Pairwise fun c d => hd c < hd d
  lt : ∀ c, c ∈ L → hd c < i
theorem OrbTo.start (n : Nat) : OrbTo E n [] 0 := ⟨fun c h => (by cases h), fun k h => absurd h (Nat.not_lt_zero _), .nil, fun c h => (by cases h)⟩
theorem OrbTo.stay {n i : Nat} {L : List (List Nat)} {c : List Nat} (h : OrbTo E n L i) (hc : c ∈ L) (hi : i ∈ c) : OrbTo E n L (i + 1) := by
  refine ⟨h.o, fun k hk => ?_, h.up, fun d hd => Nat.lt_succ_of_lt (h.lt d hd)⟩
  by_cases e : k = i
  · subst e; exact ⟨c, hc, hi⟩
  · exact h.all k (by omega)
theorem OrbTo.more {n i : Nat} {L : List (List Nat)} {c : List Nat} (h : OrbTo E n L i) (o : IsOrb E n c) (hc : c ∉ L) (hi : i ∈ c) : OrbTo E n (L ++ [c]) (i + 1) := by
  have e : hd c = i := by
    have h1 := hd_le o.up hi
    by_cases e : hd c = i
    · exact e
    · obtain ⟨d, hd1, hd2⟩ := h.all (hd c) (by omega)
      have := (h.o d hd1).eq o hd2 (hd_mem o.ne)
      subst this
      exact absurd hd1 hc
  refine ⟨fun d hd => ?_, fun k hk => ?_, ?_, fun d hd => ?_⟩
  · rcases List.mem_append.mp hd with hd | hd
    · exact h.o d hd
    · rw [List.mem_singleton.mp hd]; exact o
  · by_cases e : k = i
    · subst e; exact ⟨c, by simp, hi⟩
    · obtain ⟨d, h1, h2⟩ := h.all k (by omega)
      exact ⟨d, by simp [h1], h2⟩
  · rw [List.pairwise_append]
    refine ⟨h.up, List.pairwise_singleton _ _, fun a ha b hb => ?_⟩
    rw [List.mem_singleton.mp hb, e]
    exact h.lt a ha
  · rcases List.mem_append.mp hd with hd | hd
    · exact Nat.lt_succ_of_lt (h.lt d hd)
    · rw [List.mem_singleton.mp hd, e]; exact Nat.lt_succ_self i
theorem OrbTo.end {n : Nat} {L : List (List Nat)} (h : OrbTo E n L n) : Orbs E n L := ⟨h.o, h.all, h.up⟩
/-- the orbits found so far, in any order: they hold just what is placed -/
structure Par (E : Nat → List Nat) (n : Nat) (P : List Nat) (L : List (List Nat)) : Prop where
  o : ∀ c, c ∈ L → IsOrb E n c
  mem : ∀ x, x ∈ P ↔ ∃ c, c ∈ L ∧ x ∈ c
  dis : L.Pairwise fun c d => hd c ≠ hd d
theorem Par.whole {n : Nat} {P : List Nat} {L : List (List Nat)} (h : Par E n P L) : Whole E n P := by
  intro a b ha hb m
  obtain ⟨c, hc, hac⟩ := (h.mem a).mp ha
  exact (h.mem b).mpr ⟨c, hc, ((h.o c hc).mem a hac b).mpr ⟨hb, m⟩⟩
theorem Par.more {n : Nat} {P T c : List Nat} {L : List (List Nat)} (h : Par E n P L) (o : IsOrb E n c) (hT : ∀ x, x ∈ c ↔ x ∈ T) (hoff : ∀ t, t ∈ T → t ∉ P) : Par E n (P ++ T) (L ++ [c]) := by
  refine ⟨fun d hd => ?_, fun x => ?_, ?_⟩
  · rcases List.mem_append.mp hd with hd | hd
    · exact h.o d hd
    · rw [List.mem_singleton.mp hd]; exact o
  · rw [List.mem_append, h.mem x, ← hT x]
    constructor
    · rintro (⟨d, h1, h2⟩ | h1)
      · exact ⟨d, by simp [h1], h2⟩
      · exact ⟨c, by simp, h1⟩
    · rintro ⟨d, h1, h2⟩
      rcases List.mem_append.mp h1 with h1 | h1
      · exact .inl ⟨d, h1, h2⟩
      · rw [List.mem_singleton.mp h1] at h2; exact .inr h2
  · rw [List.pairwise_append]
    refine ⟨h.dis, List.pairwise_singleton _ _, fun d hd b hb => ?_⟩
    rw [List.mem_singleton.mp hb]
    intro e
    have h1 := hd_mem (h.o d hd).ne
    rw [e] at h1
    exact hoff _ ((hT _).mp (hd_mem o.ne)) ((h.mem _).mpr ⟨d, hd, h1⟩)
/-- sorted by their first rooms they are the orbits -/
theorem Par.end {n : Nat} {P : List Nat} {L M : List (List Nat)} (h : Par E n P L) (hP : ∀ k, k < n → k ∈ P) (hp : M.Perm L) (hs : M.Pairwise fun c d => hd c ≤ hd d) : Orbs E n M := by
  refine ⟨fun c hc => h.o c (hp.mem_iff.mp hc), fun k hk => ?_, ?_⟩
  · obtain ⟨c, h1, h2⟩ := (h.mem k).mp (hP k hk)
    exact ⟨c, hp.mem_iff.mpr h1, h2⟩
  · have hd' : M.Pairwise fun c d => hd c ≠ hd d := (hp.pairwise_iff fun {a b} (q : hd a ≠ hd b) => Ne.symm q).mpr h.dis
    exact (hs.and hd').imp fun ⟨q1, q2⟩ => Nat.lt_of_le_of_ne q1 q2
end Sw
set_option Elab.async false
set_option maxRecDepth 100000
set_option maxHeartbeats 4000000
namespace Sw
open PySem L2 PySem.Spec PyProof.Rows
def top (i : Nat) : Stmt := PySem.Challenge.pw_soleway_k83_whole_rows_of_parts.main.body.getD i (.Pass ⟨0, 0, 0, 0⟩)
abbrev s_is_whole : Stmt := top 2
abbrev s_is_sign : Stmt := top 3
abbrev s_is_machine : Stmt := top 7
abbrev s_is_room : Stmt := top 8
abbrev s_is_step : Stmt := top 9
abbrev s_all_come_to : Stmt := top 10
abbrev s_runs : Stmt := top 11
abbrev s_least_from : Stmt := top 12
abbrev s_renumbered : Stmt := top 13
abbrev s_kinds : Stmt := top 14
abbrev s_orbits : Stmt := top 16
abbrev s_orbits_onward : Stmt := top 17
abbrev s_in_order_left : Stmt := top 18
abbrev s_placed_by : Stmt := top 19
abbrev s_gates : Stmt := top 20
abbrev s_steps_out : Stmt := top 21
abbrev s_steady : Stmt := top 22
abbrev s_cut : Stmt := top 23
abbrev s_cut_orbits : Stmt := top 24
abbrev s_cut_gates : Stmt := top 25
abbrev s_part_of : Stmt := top 26
abbrev s_law_gpen : Stmt := top 28
abbrev s_law_gdraw : Stmt := top 29
abbrev s_law_gsigns : Stmt := top 30
abbrev s_law_gto_end : Stmt := top 31
abbrev s_law_gtrim : Stmt := top 32
abbrev s_law_gmachine : Stmt := top 33
abbrev s_law_ggoal : Stmt := top 34
abbrev s_law_gsame : Stmt := top 35
abbrev s_law_gstep : Stmt := top 36
abbrev s_law_gends_so : Stmt := top 37
abbrev s_law_grow : Stmt := top 38
abbrev s_law_gpart_right : Stmt := top 39
abbrev s_law : Stmt := top 40
end Sw
set_option Elab.async false
set_option maxRecDepth 100000
set_option maxHeartbeats 8000000
namespace Sw
open PySem L2 PySem.Spec PyProof.Rows
theorem szb {n : Nat} (h : n ≤ 16000000) : n < sizeLine := by rw [sizeLine_eq]; omega
theorem szl {n : Nat} (h : n ≤ 16000000) : n ≤ sizeLine := by rw [sizeLine_eq]; omega
theorem take_snoc {α : Type} {l : List α} {i : Nat} {x : α} (h : l[i]? = some x) : l.take (i + 1) = l.take i ++ [x] := by rw [List.take_add_one, h]; rfl
theorem cut_take (xs : List V) (n : Nat) : cutV xs none (some (n : Int)) = xs.take n := by
  unfold cutV
  rw [HT.sIx_nat, HT.sIx_none, List.drop_zero, Nat.sub_zero]
  by_cases h : n ≤ xs.length
  · rw [Nat.min_eq_left h]
  · rw [Nat.min_eq_right (by omega), List.take_of_length_le (by omega), List.take_of_length_le (by omega)]
theorem pairedMap {α β : Type} {F G : α → β → Prop} : ∀ {l₁ : List α} {l₂ : List β}, Paired F l₁ l₂ → (∀ a b, F a b → G a b) → Paired G l₁ l₂
  | _, _, .nil, _ => .nil
  | _, _, .cons r t, f => .cons (f _ _ r) (pairedMap t f)
theorem pairedApp {α β : Type} {F : α → β → Prop} : ∀ {a₁ : List α} {b₁ : List β} {a₂ : List α} {b₂ : List β}, Paired F a₁ b₁ → Paired F a₂ b₂ → Paired F (a₁ ++ a₂) (b₁ ++ b₂)
  | _, _, _, _, .nil, g => g
  | _, _, _, _, .cons r t, g => .cons r (pairedApp t g)
theorem pairedAtL {α β : Type} {F : α → β → Prop} : ∀ {l₁ : List α} {l₂ : List β} {i : Nat} {a : α}, Paired F l₁ l₂ → l₁[i]? = some a → ∃ b, l₂[i]? = some b ∧ F a b
  | _, _, _, _, .nil, h => by simp at h
  | _, _, 0, _, .cons r t, h => by simp at h; subst h; exact ⟨_, rfl, r⟩
  | _, _, i + 1, _, .cons r t, h => by
    simp at h
    obtain ⟨a, h1, h2⟩ := pairedAtL t h
    exact ⟨a, by simpa using h1, h2⟩
theorem keepTup {K : PySem.W.Frag} {H : Hp} {p : Addr} {xs : List V} {o : HO} (h : H p = some (.lst xs)) (a : Addr) (ys : List V) (r : Rd H a (.tup ys)) : Rd (upd H p o) a (.tup ys) := by
  have n : a ≠ p := by
    rintro rfl
    rcases r with r | ⟨o, r⟩ <;> (rw [h] at r; cases r)
  rcases r with r | ⟨o, r⟩
  · exact .inl (by rw [upd_ne n]; exact r)
  · exact .inr ⟨o, by rw [upd_ne n]; exact r⟩
theorem sqTW {K : PySem.W.Frag} {H : Hp} {p a : Addr} {xs ys : List V} {o : HO} (h : H p = some (.lst xs)) (t : SqT K H a ys) : SqT K (upd H p o) a ys := by
  rcases t with t | t
  · exact .inl (keepTup (K := K) h _ _ t)
  · exact .inr t
theorem catA {K : PySem.W.Frag} {H : Hp} {a b : Addr} {xs ys : List V} {Q : VK} (ha : SqT K H a xs) (hb : SqT K H b ys) (hl : xs.length + ys.length ≤ sizeLine) (k : ∀ (H' : Hp) (q : Addr), Same H H' → SqT K H' q (xs ++ ys) → Q (.ref q) H') : rCatA K (.ref a) (.ref b) H Q := by
  refine ⟨a, b, xs, ys, rfl, rfl, ha, hb, hl, fun e => ?_, fun _ e => ?_, fun _ _ p hp => k _ p (.new hp) (sT upd_same)⟩
  · subst e
    exact k H b (Same.refl _) hb
  · subst e
    exact k H a (Same.refl _) (by rw [List.append_nil]; exact ha)
end Sw
set_option Elab.async false
set_option maxRecDepth 100000
set_option maxHeartbeats 8000000
namespace Sw
open PySem L2 PySem.Spec PyProof.Rows
/-! ### the pen: a dict of a number, of the turns, of a list of great cells -/
def penK (m t : Nat) (wl : Addr) : List (Key × V) := [(.inr "mixed", .int (m : Int)), (.inr "turn", .int (t : Int)), (.inr "wide", .ref wl)]
theorem penK_put (m t u : Nat) (wl : Addr) : putK (penK m t wl) (.inr "turn") (.int (u : Int)) = penK m u wl := by rfl
def PenAt (H : Hp) (pen wl : Addr) (T : Nat) : Prop := ∃ (m t : Nat) (ws : List Int), H pen = some (.dK (penK m t wl)) ∧ H wl = some (.lst (ws.map V.int)) ∧ m < 2147483629 ∧ t ≤ T ∧ ws.length ≤ 63
theorem penNe {H : Hp} {pen wl : Addr} {k : List (Key × V)} {xs : List V} (h1 : H pen = some (.dK k)) (h2 : H wl = some (.lst xs)) : wl ≠ pen := by
  rintro rfl
  rw [h1] at h2
  cases h2
theorem PenAt.same {H H' : Hp} {pen wl : Addr} {T : Nat} (h : PenAt H pen wl T) (s : Same H H') : PenAt H' pen wl T := by
  obtain ⟨m, t, ws, h1, h2, r⟩ := h
  exact ⟨m, t, ws, s _ _ h1, s _ _ h2, r⟩
theorem PenAt.le {H : Hp} {pen wl : Addr} {T U : Nat} (h : PenAt H pen wl T) (l : T ≤ U) : PenAt H pen wl U := by
  obtain ⟨m, t, ws, h1, h2, h3, h4, h5⟩ := h
  exact ⟨m, t, ws, h1, h2, h3, by omega, h5⟩
/-- all but the pen and its list is as it was -/
def Bt (p q : Addr) (H H' : Hp) : Prop := ∀ b o, H b = some o → b ≠ p → b ≠ q → H' b = some o
theorem Bt.of {p q : Addr} {H H' : Hp} (h : Same H H') : Bt p q H H' := fun b o e _ _ => h b o e
theorem Bt.refl {p q : Addr} {H : Hp} : Bt p q H H := fun _ _ e _ _ => e
theorem Bt.trans {p q : Addr} {H H1 H2 : Hp} (a : Bt p q H H1) (b : Bt p q H1 H2) : Bt p q H H2 := fun c o e n m => b c o (a c o e n m) n m
theorem Bt.p {p q : Addr} {H H' : Hp} {o : HO} (a : Bt p q H H') : Bt p q H (upd H' p o) := fun b u e n m => by rw [upd_ne n]; exact a b u e n m
theorem Bt.q {p q : Addr} {H H' : Hp} {o : HO} (a : Bt p q H H') : Bt p q H (upd H' q o) := fun b u e n m => by rw [upd_ne m]; exact a b u e n m
/-- another list may be written that was not there -/
theorem Bt.w {p q D : Addr} {H H' : Hp} {o : HO} (a : Bt p q H H') (hD : H D = none) : Bt p q H (upd H' D o) := fun b u e n m => by rw [upd_ne (ne_of_none e hD)]; exact a b u e n m
theorem PenAt.ne {H : Hp} {pen wl D : Addr} {T : Nat} (h : PenAt H pen wl T) (hD : H D = none) : D ≠ pen ∧ D ≠ wl := by
  obtain ⟨m, t, ws, h1, h2, _⟩ := h
  exact ⟨(ne_of_none h1 hD).symm, (ne_of_none h2 hD).symm⟩
theorem PenAt.w {H : Hp} {pen wl D : Addr} {T : Nat} {o : HO} (h : PenAt H pen wl T) (n : D ≠ pen ∧ D ≠ wl) : PenAt (upd H D o) pen wl T := by
  obtain ⟨m, t, ws, h1, h2, r⟩ := h
  exact ⟨m, t, ws, by rw [upd_ne n.1.symm]; exact h1, by rw [upd_ne n.2.symm]; exact h2, r⟩
/-- tuples stay -/
theorem PenAt.sqT {K : PySem.W.Frag} {H H' : Hp} {pen wl a : Addr} {T : Nat} {xs : List V} (h : PenAt H pen wl T) (b : Bt pen wl H H') (hq : SqT K H a xs) : SqT K H' a xs := by
  obtain ⟨m, t, ws, h1, h2, _⟩ := h
  have n : ∀ u, H a = some u → (∀ l, u ≠ .lst l) → (∀ l, u ≠ .dK l) → a ≠ pen ∧ a ≠ wl := fun u r e e' => by
    constructor
    · rintro rfl
      rw [h1] at r
      exact e' _ (Option.some.inj r).symm
    · rintro rfl
      rw [h2] at r
      exact e _ (Option.some.inj r).symm
  rcases hq with hq | hq
  · rcases hq with hq | ⟨o, hq⟩
    · obtain ⟨n1, n2⟩ := n _ hq (fun l e => by cases e) (fun l e => by cases e)
      exact .inl (.inl (b _ _ hq n1 n2))
    · obtain ⟨n1, n2⟩ := n _ hq (fun l e => by cases e) (fun l e => by cases e)
      exact .inl (.inr ⟨o, b _ _ hq n1 n2⟩)
  · exact .inr hq
mutual
def noL : PyData → Bool
  | .list _ => false
  | .dict _ => false
  | .tuple ds => noLs ds
  | _ => true
def noLs : List PyData → Bool
  | [] => true
  | d :: ds => noL d && noLs ds
end
mutual
theorem dpSameT {K : PySem.W.Frag} {H H' : Hp} (s : ∀ a xs, SqT K H a xs → SqT K H' a xs) : ∀ (d : PyData) (v : V), noL d = true → Dp K H v d → Dp K H' v d
  | .none, _, _, h => by cases h; exact .non
  | .bool b, _, _, h => by cases h; exact .bl b
  | .int i, _, _, h => by cases h; exact .int i
  | .str x, _, _, h => by cases h; exact .str x
  | .list ds, _, e, h => by cases e
  | .tuple ds, _, e, h => by
    cases h with
    | tup h1 h2 => exact .tup (s _ _ h1) (dpAllSameT s ds _ (by unfold noL at e; exact e) h2)
  | .dict _, _, e, h => by cases e
theorem dpAllSameT {K : PySem.W.Frag} {H H' : Hp} (s : ∀ a xs, SqT K H a xs → SqT K H' a xs) : ∀ (ds : List PyData) (vs : List V), noLs ds = true → DpAll K H vs ds → DpAll K H' vs ds
  | [], _, _, h => by cases h; exact .nil
  | d :: ds, _, e, h => by
    cases h with
    | cons h1 h2 =>
      unfold noLs at e
      rw [Bool.and_eq_true] at e
      exact .cons (dpSameT s d _ e.1 h1) (dpAllSameT s ds _ e.2 h2)
end
theorem PenAt.dp {K : PySem.W.Frag} {H H' : Hp} {pen wl : Addr} {T : Nat} {v : V} {d : PyData} (h : PenAt H pen wl T) (b : Bt pen wl H H') (n : noL d = true) (hd : Dp K H v d) : Dp K H' v d := dpSameT (fun _ _ q => h.sqT b q) d v n hd
theorem PenAt.dps {K : PySem.W.Frag} {H H' : Hp} {pen wl : Addr} {T : Nat} {vs : List V} {ds : List PyData} (h : PenAt H pen wl T) (b : Bt pen wl H H') (n : noLs ds = true) (hd : DpAll K H vs ds) : DpAll K H' vs ds := dpAllSameT (fun _ _ q => h.sqT b q) ds vs n hd
theorem iteT' {c A B : Prop} [Decidable c] (hc : c) (h : A) : if c then A else B := by rw [if_pos hc]; exact h
theorem iteF' {c A B : Prop} [Decidable c] (hc : ¬ c) (h : B) : if c then A else B := by rw [if_neg hc]; exact h
theorem modLt (c : Int) {m : Int} (h : 0 < m) : 0 ≤ c % m ∧ c % m < m := ⟨Int.emod_nonneg _ (by omega), Int.emod_lt_of_pos _ h⟩
section
variable {P : Program} {w : World} {K : PySem.W.Frag} {mg : Str → Option Value} {base : Heap}
abbrev n_law_gpen : List Str := ["script", "mixed", "cell"]
theorem sc_law_gpen : FnScope n_law_gpen ["script"] (defScope s_law_gpen) := ⟨rfl, rfl, rfl, by decide +kernel, rfl, by decide +kernel, by decide +kernel⟩
def spPen (K : PySem.W.Frag) : Sp := fun vs H Q _ => ∃ (a : Addr) (ns : List Int), vs = [.ref a] ∧ SqL K H a (ns.map V.int) ∧ ns.length ≤ 63 ∧ ∀ H' pen wl, Same H H' → H pen = none → H wl = none → PenAt H' pen wl 0 → Q (.ref pen) H'
theorem ok_law_gpen (F : DefAt K mg "_law_gpen" s_law_gpen ["script"]) : DefOk P w K mg base "_law_gpen" 1 ["script"] (spPen K) := by
  refine F.ok sc_law_gpen (fun vs H Q E h => ?_) (fun f cdv A outer s H vs Q E hr h => ?_)
  · obtain ⟨_, _, rfl, _⟩ := h
    rfl
  obtain ⟨a, ns, rfl, hS, hlen, k⟩ := h
  refine ⟨_, (pss_cons (ps_set (i := 1) sc_law_gpen.nd rfl (Or.inl rfl) pe_int)
    (pss_cons (ps_for PassesOwn.never rfl (pi_list (pv 0)) (pg_name (i := 2) sc_law_gpen.nd rfl (Or.inl rfl))
      (pss_one (ps_set (i := 1) sc_law_gpen.nd rfl (Or.inl rfl) (pe_op op_mod (pe_op op_add (pe_op op_add (pe_op op_mul (pv 1) pe_int) (pe_op op_mod (pv 2) pe_int)) pe_int) pe_int))))
    (pss_one (ps_ret (pe_disp (pps_cons pe_str (pv 1) (pps_cons pe_str pe_int (pps_cons pe_str (pe_lc (own := [("cell", 2)]) (g := gName 2) rfl sc_law_gpen.nd (pi_list (pv 0)) (blkOk_by (own := [("cell", 2)]) (N := n_law_gpen) (sc := defScope s_law_gpen) (by decide +kernel)) (fun _ _ _ _ _ => (pg_name (i := 2) sc_law_gpen.nd rfl (Or.inl rfl))) (fun _ _ _ _ _ => (pts_one (pt_cmpR op_ge (pv 2) (pe_op op_pow pe_int pe_int) (nomark _)))) (fun _ _ _ _ _ => (pv 2))) pps_nil))) (by rfl) (by rfl) (fun z => by cases z) (by decide)))))), ?_⟩
  refine ⟨_, rfl, a, rfl, ⟨_, hS⟩, ?_⟩
  refine for_list (K := K) (a := a) (xs := ns.map V.int) (fun i σ H' => ∃ (m : Nat) (o2 : Option V), σ = [some (.ref a), some (.int (m : Int)), o2] ∧ m < 2147483629 ∧ H' = H) ⟨7, none, rfl, by decide, rfl⟩ (fun i σ H' _ ⟨_, _, _, _, e⟩ => by rw [e]; exact hS) ?_ ?_
  · rintro i v σ H1 hv ⟨m, o2, rfl, hm, rfl⟩
    rw [List.getElem?_map] at hv
    obtain ⟨c, hc, rfl⟩ : ∃ c, ns[i]? = some c ∧ v = V.int c := by
      cases e : ns[i]? with
      | none => rw [e] at hv; cases hv
      | some c => rw [e] at hv; exact ⟨c, rfl, (Option.some.inj hv).symm⟩
    refine ⟨_, rfl, _, _, rfl, rfl, .inr ⟨by decide, by decide⟩, _, rfl, _, _, rfl, rfl, (by show (0 : Int) < 1000000007; decide), _, _, rfl, rfl, _, _, rfl, rfl, _, _, rfl, rfl, (by show (0 : Int) < 2147483629; decide), ?_⟩
    dsimp only
    obtain ⟨m1, m2⟩ := modLt ((m : Int) * 48271 + c % 1000000007 + 11) (m := 2147483629) (by decide)
    generalize ((m : Int) * 48271 + c % 1000000007 + 11) % 2147483629 = x at m1 m2 ⊢
    obtain ⟨j, hj⟩ : ∃ j : Nat, x = (j : Int) := ⟨x.toNat, by omega⟩
    subst hj
    exact ⟨j, _, rfl, by omega, rfl⟩
  · rintro σ H1 ⟨m, o2, rfl, hm, rfl⟩
    intro st hst
    have s1 : Same H1 (upd H1 st (.dK [])) := .new hst
    refine ⟨_, rfl, _, rfl, a, rfl, ⟨_, s1.seq hS⟩, fun D nD => ?_⟩
    have nDst : D ≠ st := fun e => by rw [e, upd_same] at nD; cases nD
    refine lc_list (K := K) (a := a) (xs := ns.map V.int) (fun i H' => ∃ ws : List Int, Same (upd H1 st (.dK [])) H' ∧ H' D = some (.lst (ws.map V.int)) ∧ ws.length ≤ i)
      ⟨[], .new nD, upd_same, Nat.zero_le _⟩ (fun i H' _ ⟨_, g, _, _⟩ => (s1.trans g).seq hS) ?_ ?_
    · rintro i v H2 hv ⟨ws, g2, hD, hw⟩
      rw [List.getElem?_map] at hv
      obtain ⟨c, hc, rfl⟩ : ∃ c, ns[i]? = some c ∧ v = V.int c := by
        cases e : ns[i]? with
        | none => rw [e] at hv; cases hv
        | some c => rw [e] at hv; exact ⟨c, rfl, (Option.some.inj hv).symm⟩
      have hi := (List.getElem?_eq_some_iff.mp hc).1
      refine ⟨rfl, ?_⟩
      refine ⟨_, rfl, _, _, rfl, rfl, ⟨by decide, by decide, by decide⟩, _, _, rfl, rfl, _, rfl, ite2 (fun _ => ?_) (fun _ => ?_)⟩
      · refine ⟨_, rfl, _, hD, szb (by rw [List.length_map]; omega), ws ++ [c], g2.mut nD, by rw [upd_same, List.map_append]; rfl, by rw [List.length_append, List.length_singleton]; omega⟩
      · exact ⟨ws, g2, hD, by omega⟩
    · rintro H2 ⟨ws, g2, hD, hw⟩
      rw [List.length_map] at hw
      have hst2 := g2 _ _ (upd_same (H := H1) (a := st) (o := .dK []))
      refine ⟨hst2, penK m 0 D, rfl, (by show 3 ≤ 15; decide), ?_⟩
      refine k _ st D ((s1.trans g2).mut hst) hst (by rw [upd_ne nDst] at nD; exact nD) ⟨m, 0, ws, upd_same, by rw [upd_ne nDst]; exact hD, hm, Nat.le_refl _, by omega⟩
abbrev n_law_gdraw : List Str := ["pen", "many", "found", "one", "two"]
theorem sc_law_gdraw : FnScope n_law_gdraw ["pen", "many"] (defScope s_law_gdraw) := ⟨rfl, rfl, rfl, by decide +kernel, rfl, by decide +kernel, by decide +kernel⟩
def spDraw : Sp := fun vs H Q _ => ∃ (pen wl : Addr) (T m : Nat), vs = [.ref pen, .int (m : Int)] ∧ 0 < m ∧ m ≤ 1000 ∧ T ≤ 100000 ∧ PenAt H pen wl T ∧ ∀ H' (k : Nat), k < m → Bt pen wl H H' → PenAt H' pen wl (T + 1) → Q (.int (k : Int)) H'
theorem ok_law_gdraw (F : DefAt K mg "_law_gdraw" s_law_gdraw ["pen", "many"]) (b_len : mg "len" = none) : DefOk P w K mg base "_law_gdraw" 1 ["pen", "many"] spDraw := by
  refine F.ok sc_law_gdraw (fun vs H Q E h => ?_) (fun f cdv A outer s H vs Q E hr h => ?_)
  · obtain ⟨_, _, _, _, rfl, _⟩ := h
    rfl
  obtain ⟨pen, wl, T, m, rfl, hm0, hm1, hT, hp, k⟩ := h
  have hu := hu_of hr
  have gW : ∀ (H' : Hp) (mm tt : Nat), H' pen = some (.dK (penK mm tt wl)) → DGet H' pen (.str "wide") (some (.ref wl)) := fun H' mm tt h => DGet.k (k := .inr "wide") h
  have gT : ∀ (H' : Hp) (mm tt : Nat), H' pen = some (.dK (penK mm tt wl)) → DGet H' pen (.str "turn") (some (.int (tt : Int))) := fun H' mm tt h => DGet.k (k := .inr "turn") h
  have gM : ∀ (H' : Hp) (mm tt : Nat), H' pen = some (.dK (penK mm tt wl)) → DGet H' pen (.str "mixed") (some (.int (mm : Int))) := fun H' mm tt h => DGet.k (k := .inr "mixed") h
  -- behind the first test
  obtain ⟨t2, h2, f2⟩ : ∃ t2, PSs (cxOf CX0 P w K mg base n_law_gdraw "_law_gdraw" (defScope s_law_gdraw) f cdv A outer s H E).nox ((defBody s_law_gdraw).drop 1) t2 ∧
      ∀ (H' : Hp), Bt pen wl H H' → PenAt H' pen wl T → t2 { nx := fun _ H' => Q .non H', rt := Q } [some (.ref pen), some (.int (m : Int)), none, none, none] H' := by
    refine ⟨_, (pss_cons (ps_if (pt_cmpR op_gt (pe_callB call_len_seq (by rfl) b_len PySem.boot_len (pa_cons (pe_dget hu (pv 0) pe_str (fun _ _ => rfl)) pa_nil)) pe_int (nomark _)) (pss_cons (ps_set (i := 2) sc_law_gdraw.nd rfl (Or.inl rfl) (pe_op op_mod (pe_ix ix_list (pe_dget hu (pv 0) pe_str (fun _ _ => rfl)) pe_int (fun _ _ => rfl)) (pv 1)))
    (pss_cons (ps_asg (pe_op op_fdiv (pe_ix ix_list (pe_dget hu (pv 0) pe_str (fun _ _ => rfl)) pe_int (fun _ _ => rfl)) (pv 1)) (pg_sub (pe_dget hu (pv 0) pe_str (fun _ _ => rfl)) pe_int set_list))
    (pss_one (ps_ret (pv 2))))) pss_nil)
    (pss_cons (ps_dput hu (pv 0) pe_str (pe_op op_add (pe_dget hu (pv 0) pe_str (fun _ _ => rfl)) pe_int) rfl)
    (pss_cons (ps_set (i := 3) sc_law_gdraw.nd rfl (Or.inl rfl) (pe_op op_mod (pe_op op_add (pe_dget hu (pv 0) pe_str (fun _ _ => rfl)) (pe_op op_mul (pe_op op_mul pe_int (pe_dget hu (pv 0) pe_str (fun _ _ => rfl))) (pe_dget hu (pv 0) pe_str (fun _ _ => rfl)))) pe_int))
    (pss_cons (ps_set (i := 4) sc_law_gdraw.nd rfl (Or.inl rfl) (pe_op op_mod (pe_op op_add (pe_op op_add (pe_op op_mul (pv 3) (pv 3)) (pe_op op_mul pe_int (pe_dget hu (pv 0) pe_str (fun _ _ => rfl)))) pe_int) pe_int))
    (pss_one (ps_ret (pe_op op_mod (pe_op op_fdiv (pe_op op_mod (pe_op op_add (pe_op op_mul (pv 4) (pv 4)) (pv 3)) pe_int) pe_int) (pv 1)))))))), ?_⟩
    rintro H' b ⟨mm, tt, ws, h1, hw, hmm, htt, hl⟩
    have nw := penNe h1 hw
    refine ⟨_, rfl, pen, _, rfl, gW _ _ _ h1, wl, _, rfl, .inl (sL hw), _, _, rfl, rfl, _, rfl, ?_⟩
    cases ws with
    | cons c ws =>
      refine iteT' (by simp) ?_
      refine ⟨_, rfl, pen, _, rfl, gW _ _ _ h1, wl, _, 0, _, rfl, rfl, sL hw, atI_nat (j := 0) (v := V.int c) rfl, _, rfl, _, _, rfl, rfl, (by show (0 : Int) < (m : Int); omega), ?_⟩
      refine ⟨_, rfl, pen, _, rfl, gW _ _ _ h1, wl, _, 0, _, rfl, rfl, sL hw, atI_nat (j := 0) (v := V.int c) rfl, _, rfl, _, _, rfl, rfl, ⟨(by show (0 : Int) < (m : Int); omega), (by show (m : Int) < 1073741824; omega)⟩, ?_⟩
      refine ⟨_, rfl, pen, _, rfl, gW _ _ _ h1, wl, _, 0, 0, rfl, rfl, hw, (by simp [ixN]), _, rfl, ?_⟩
      obtain ⟨q1, q2⟩ := modLt c (m := (m : Int)) (by omega)
      obtain ⟨j, hj⟩ : ∃ j : Nat, c % (m : Int) = (j : Int) := ⟨(c % (m : Int)).toNat, by omega⟩
      show Q (V.int (c % (m : Int))) _
      rw [hj]
      refine k _ j (by omega) b.q ⟨mm, tt, (c / (m : Int)) :: ws, by rw [upd_ne nw.symm]; exact h1, by rw [upd_same]; rfl, hmm, by omega, hl⟩
    | nil =>
      refine iteF' (by simp) ?_
      refine ⟨_, rfl, pen, _, rfl, gT _ _ _ h1, _, _, rfl, rfl, _, rfl, pen, _, rfl, DPut.k (k := .inr "turn") h1 (by show 3 < sizeLine; decide), ?_⟩
      have e0 : (((tt : Nat) : Int) + 1 : Int) = ((tt + 1 : Nat) : Int) := by omega
      dsimp only
      rw [e0, penK_put]
      have h3 : (upd H' pen (.dK (penK mm (tt + 1) wl))) pen = some (.dK (penK mm (tt + 1) wl)) := upd_same
      have h4 : (upd H' pen (.dK (penK mm (tt + 1) wl))) wl = some (.lst (([] : List Int).map V.int)) := by rw [upd_ne nw]; exact hw
      have p3 : PenAt (upd H' pen (.dK (penK mm (tt + 1) wl))) pen wl (T + 1) := ⟨mm, tt + 1, [], h3, h4, hmm, by omega, Nat.zero_le _⟩
      have b3 : Bt pen wl H (upd H' pen (.dK (penK mm (tt + 1) wl))) := b.p
      generalize upd H' pen (.dK (penK mm (tt + 1) wl)) = H3 at h3 p3 b3 ⊢
      have ht : (tt : Int) + 1 ≤ 100001 := by omega
      refine ⟨_, rfl, pen, _, rfl, gM _ _ _ h3, _, rfl, pen, _, rfl, gT _ _ _ h3, _, _, rfl, rfl, .inl ⟨by decide, by decide⟩, _, rfl, pen, _, rfl, gT _ _ _ h3, _, _, rfl, rfl, .inr ⟨by omega, by omega⟩, _, _, rfl, rfl, _, _, rfl, rfl, (by show (0 : Int) < 2147483629; decide), ?_⟩
      dsimp only
      obtain ⟨m1, m2⟩ := modLt ((mm : Int) + 7919 * ((tt + 1 : Nat) : Int) * ((tt + 1 : Nat) : Int)) (m := 2147483629) (by decide)
      generalize ((mm : Int) + 7919 * ((tt + 1 : Nat) : Int) * ((tt + 1 : Nat) : Int)) % 2147483629 = x at m1 m2 ⊢
      refine ⟨_, rfl, _, rfl, _, _, rfl, rfl, .inl ⟨by omega, by omega⟩, _, rfl, pen, _, rfl, gT _ _ _ h3, _, _, rfl, rfl, .inl ⟨by decide, by decide⟩, _, _, rfl, rfl, _, _, rfl, rfl, _, _, rfl, rfl, (by show (0 : Int) < 998244353; decide), ?_⟩
      dsimp only
      obtain ⟨m3, m4⟩ := modLt (x * x + 40692 * ((tt + 1 : Nat) : Int) + 3) (m := 998244353) (by decide)
      generalize (x * x + 40692 * ((tt + 1 : Nat) : Int) + 3) % 998244353 = y at m3 m4 ⊢
      refine ⟨_, rfl, _, rfl, _, _, rfl, rfl, .inl ⟨by omega, by omega⟩, _, rfl, _, _, rfl, rfl, _, _, rfl, rfl, (by show (0 : Int) < 2147483587; decide), _, _, rfl, rfl, ⟨by decide, by decide⟩, _, rfl, _, _, rfl, rfl, (by show (0 : Int) < (m : Int); omega), ?_⟩
      dsimp only
      obtain ⟨q1, q2⟩ := modLt ((y * y + x) % 2147483587 / 16) (m := (m : Int)) (by omega)
      obtain ⟨j, hj⟩ : ∃ j : Nat, (y * y + x) % 2147483587 / 16 % (m : Int) = (j : Int) := ⟨((y * y + x) % 2147483587 / 16 % (m : Int)).toNat, by omega⟩
      rw [hj]
      exact k _ j (by omega) b3 p3
  refine ⟨_, (pss_cons (ps_if (PW.pt (pw_and (pt_cmpR op_gt (pe_callB call_len_seq (by rfl) b_len PySem.boot_len (pa_cons (pe_dget hu (pv 0) pe_str (fun _ _ => rfl)) pa_nil)) pe_int (nomark _)) (pw_and1 (pt_cmpR op_lt (pe_ix ix_list (pe_dget hu (pv 0) pe_str (fun _ _ => rfl)) pe_int (fun _ _ => rfl)) (pv 1) (nomark _))))) (pss_one (ps_expr (pe_bm PySem.F.plainAttrs_list PySem.F.slot_list_pop PySem.F.type_list_pop mt_popAt (pe_dget hu (pv 0) pe_str (fun _ _ => rfl)) (pa_cons pe_int pa_nil)))) pss_nil) h2), ?_⟩
  obtain ⟨mm, tt, ws, h1, hw, hmm, htt, hl⟩ := id hp
  have nw := penNe h1 hw
  refine ⟨_, rfl, pen, _, rfl, gW _ _ _ h1, wl, _, rfl, .inl (sL hw), _, _, rfl, rfl, _, rfl, ?_⟩
  cases ws with
  | nil =>
    refine iteF' (by simp) ?_
    exact iteF (f2 _ .refl hp)
  | cons c ws =>
    refine iteT' (by simp) ?_
    refine ⟨_, rfl, pen, _, rfl, gW _ _ _ h1, wl, _, 0, _, rfl, rfl, sL hw, atI_nat (j := 0) (v := V.int c) rfl, _, rfl, _, _, rfl, rfl, _, rfl, ite2 (fun _ => ?_) (fun _ => f2 _ .refl hp)⟩
    refine ⟨_, rfl, pen, _, rfl, gW _ _ _ h1, .inl ⟨rfl, _, .inl (.inl hw)⟩, wl, _, 0, 0, _, rfl, rfl, hw, by decide, by decide, seqIndex_of (k := 0) (by decide) (by simp), rfl, ?_⟩
    refine f2 _ (Bt.refl.q) ⟨mm, tt, ws, by rw [upd_ne nw.symm]; exact h1, by rw [upd_same]; rfl, hmm, htt, by simp at hl; omega⟩
end
end Sw
set_option Elab.async false
set_option maxRecDepth 100000
set_option maxHeartbeats 8000000
namespace Sw
open PySem L2 PySem.Spec PyProof.Rows
/-! ### dicts whose keys are tuples of any depth -/
mutual
/-- data as a key -/
def nkD : PyData → Option NestedKey
  | .none => some .none
  | .int i => some (.num i)
  | .bool b => some (.num (if b = true then 1 else 0))
  | .str x => some (.text x)
  | .tuple ds => (nkDs ds).map .tup
  | _ => none
def nkDs : List PyData → Option (List NestedKey)
  | [] => some []
  | d :: ds => (nkD d).bind fun k => (nkDs ds).map fun ks => k :: ks
end
mutual
theorem keyD_noL : ∀ (d : PyData) (k : NestedKey), nkD d = some k → noL d = true
  | .none, _, _ => by simp [noL]
  | .int _, _, _ => by simp [noL]
  | .bool _, _, _ => by simp [noL]
  | .str _, _, _ => by simp [noL]
  | .tuple ds, k, h => by
    rw [nkD] at h
    obtain ⟨ks, h1, _⟩ := Option.map_eq_some_iff.mp h
    rw [noL]
    exact keyDs_noL ds ks h1
  | .list _, _, h => by simp [nkD] at h
  | .dict _, _, h => by simp [nkD] at h
theorem keyDs_noL : ∀ (ds : List PyData) (ks : List NestedKey), nkDs ds = some ks → noLs ds = true
  | [], _, _ => by simp [noLs]
  | d :: ds, ks, h => by
    rw [nkDs] at h
    obtain ⟨k, h1, h2⟩ := Option.bind_eq_some_iff.mp h
    obtain ⟨ks', h3, _⟩ := Option.map_eq_some_iff.mp h2
    rw [noLs, keyD_noL d k h1, keyDs_noL ds ks' h3]
    rfl
end
mutual
theorem readsKey {h : Heap} : ∀ (d : PyData) (k : NestedKey) (v : Value) (as : List Addr), Reads h v d as → nkD d = some k → NestedIs h k v
  | .none, k, v, as, r, e => by rw [nkD] at e; cases e; cases r; exact .none
  | .int i, k, v, as, r, e => by rw [nkD] at e; cases e; cases r; exact .int _ _
  | .bool b, k, v, as, r, e => by rw [nkD] at e; cases e; cases r; exact .bool rfl
  | .str x, k, v, as, r, e => by rw [nkD] at e; cases e; cases r; exact .text _ _
  | .tuple ds, k, v, as, r, e => by
    rw [nkD] at e
    obtain ⟨ks, h1, h2⟩ := Option.map_eq_some_iff.mp e
    subst h2
    cases r with
    | tuple r1 r2 r3 r4 => exact .tup r1 r2 r3 (readsKeys ds ks _ _ r4 h1)
  | .list _, _, _, _, _, e => by simp [nkD] at e
  | .dict _, _, _, _, _, e => by simp [nkD] at e
theorem readsKeys {h : Heap} : ∀ (ds : List PyData) (ks : List NestedKey) (vs : List Value) (as : List Addr), ReadsAll h vs ds as → nkDs ds = some ks → NestedAll h ks vs
  | [], ks, vs, as, r, e => by rw [nkDs] at e; cases e; cases r; exact .nil
  | d :: ds, ks, vs, as, r, e => by
    rw [nkDs] at e
    obtain ⟨k, h1, h2⟩ := Option.bind_eq_some_iff.mp e
    obtain ⟨ks', h3, h4⟩ := Option.map_eq_some_iff.mp h2
    subst h4
    cases r with
    | cons r1 r2 => exact .cons (readsKey d k _ _ r1 h1) (readsKeys ds ks' _ _ r2 h3)
end
abbrev NX := NestedKey × Addr × Value
def rawD (d : Addr) (es : List DictEntry) : HO := .ext fun h => ∃ o ep, h.get? d = some o ∧ o.ExactDict ∧ o.data = .dict es.toArray ep
/-- the tuple at a is the key k -/
def KeyAt (K : PySem.W.Frag) (H : Hp) (k : NestedKey) (a : Addr) : Prop := ∃ d : PyData, Dp K H (.ref a) d ∧ nkD d = some k ∧ k.depth ≤ 8
def ndGet (kvs : List (NestedKey × V)) (k : NestedKey) : Option V := (kvs.find? fun p => decide (p.1 = k)).map (·.2)
def NdAt (P : Program) (w : World) (K : PySem.W.Frag) (H : Hp) (d : Addr) (kvs : List (NestedKey × V)) : Prop :=
  kvs.length ≤ sizeLine ∧ (d == sysModules) = false ∧ ∃ xs : List NX, H d = some (rawD d (xs.map (entryOfKey (nestedKind P w)))) ∧ (xs.map (·.1)).Nodup ∧ Paired (fun (p : NestedKey × V) (q : NX) => p.1 = q.1 ∧ RelV p.2 q.2.2 ∧ KeyAt K H q.1 q.2.1) kvs xs
theorem KeyAt.same {K : PySem.W.Frag} {H H' : Hp} {k : NestedKey} {a : Addr} (h : KeyAt K H k a) (s : Same H H') : KeyAt K H' k a := by
  obtain ⟨d, h1, h2⟩ := h
  exact ⟨d, dpS s h1, h2⟩
theorem NdAt.same {P : Program} {w : World} {K : PySem.W.Frag} {H H' : Hp} {d : Addr} {kvs : List (NestedKey × V)} (h : NdAt P w K H d kvs) (s : Same H H') : NdAt P w K H' d kvs := by
  obtain ⟨h1, h2, xs, h3, h4, h5⟩ := h
  exact ⟨h1, h2, xs, s _ _ h3, h4, Paired.mapP h5 fun p q ⟨g1, g2, g3⟩ => ⟨g1, g2, g3.same s⟩⟩
/-- what is no tuple may change -/
theorem KeyAt.upd {K : PySem.W.Frag} {H : Hp} {k : NestedKey} {a b : Addr} {o o' : HO} (h : KeyAt K H k a) (hb : H b = some o) (nt : ∀ xs, o ≠ .tup xs) (nf : ∀ z xs, o ≠ .frz z (.tup xs)) : KeyAt K (upd H b o') k a := by
  obtain ⟨d, h1, h2, h3⟩ := h
  refine ⟨d, dpSameT (fun c xs q => ?_) d _ (keyD_noL d k h2) h1, h2, h3⟩
  rcases q with q | q
  · rcases q with q | ⟨z, q⟩
    · exact .inl (.inl (by rw [upd_ne (fun e => by rw [e, hb] at q; exact nt _ (Option.some.inj q))]; exact q))
    · exact .inl (.inr ⟨z, by rw [upd_ne (fun e => by rw [e, hb] at q; exact nf _ _ (Option.some.inj q))]; exact q⟩)
  · exact .inr q
theorem NdAt.lst {P : Program} {w : World} {K : PySem.W.Frag} {H : Hp} {d b : Addr} {kvs : List (NestedKey × V)} {xs : List V} {o : HO} (h : NdAt P w K H d kvs) (hb : H b = some (.lst xs)) : NdAt P w K (upd H b o) d kvs := by
  obtain ⟨h1, h2, ys, h3, h4, h5⟩ := h
  have n : d ≠ b := fun e => by rw [e, hb] at h3; cases h3
  exact ⟨h1, h2, ys, by rw [upd_ne n]; exact h3, h4, Paired.mapP h5 fun p q ⟨g1, g2, g3⟩ => ⟨g1, g2, g3.upd hb (fun _ e => by cases e) (fun _ _ e => by cases e)⟩⟩
theorem ndAtKey {K : PySem.W.Frag} {H : Hp} (k : NestedKey) : ∀ {kvs : List (NestedKey × V)} {xs : List NX}, Paired (fun (p : NestedKey × V) (q : NX) => p.1 = q.1 ∧ RelV p.2 q.2.2 ∧ KeyAt K H q.1 q.2.1) kvs xs →
    (ndGet kvs k = none ∧ atKey xs k = none) ∨ ∃ v p, ndGet kvs k = some v ∧ atKey xs k = some p ∧ RelV v p.2
  | _, _, .nil => .inl ⟨rfl, rfl⟩
  | p :: kvs, q :: xs, .cons r t => by
    by_cases e : p.1 = k
    · refine .inr ⟨p.2, q.2, ?_, ?_, r.2.1⟩
      · unfold ndGet; rw [List.find?_cons, decide_eq_true e]; rfl
      · unfold atKey; rw [List.find?_cons, decide_eq_true (r.1 ▸ e)]; rfl
    · have e1 : ndGet (p :: kvs) k = ndGet kvs k := by unfold ndGet; rw [List.find?_cons, decide_eq_false e]
      have e2 : atKey (q :: xs) k = atKey xs k := by unfold atKey; rw [List.find?_cons, decide_eq_false (r.1 ▸ e)]
      rw [e1, e2]
      exact ndAtKey k t
section
variable {X : Cx} {pins : List (Addr × Obj)} {σ : L2.St} {H : Hp} {s : Shared}
theorem keyIs (I : Inv X pins σ H s) {k : NestedKey} {a : Addr} (h : KeyAt X.K H k a) : (nestedKind X.prog X.w).is s.heap k a := by
  obtain ⟨d, h1, h2, h3⟩ := h
  obtain ⟨as, r⟩ := Dp.reads I d _ _ h1 (show RelV (.ref a) (Value.ref a) from rfl)
  exact ⟨readsKey d k _ _ r h2, h3⟩
theorem ndIs (I : Inv X pins σ H s) {d : Addr} {xs : List NX} {kvs : List (NestedKey × V)} (hd : H d = some (rawD d (xs.map (entryOfKey (nestedKind X.prog X.w))))) (hn : (xs.map (·.1)).Nodup)
    (hp : Paired (fun (p : NestedKey × V) (q : NX) => p.1 = q.1 ∧ RelV p.2 q.2.2 ∧ KeyAt X.K H q.1 q.2.1) kvs xs) : s.heap.DictOfH (nestedKind X.prog X.w) d xs := by
  obtain ⟨⟨o, ep, h1, h2, h3⟩, _⟩ := (show ObjOk X.prog X.w H s.heap d (rawD d _) from I.hok d _ hd)
  refine ⟨o, _, ep, h1, h2, h3, rfl, ?_, hn⟩
  have : ∀ {kvs : List (NestedKey × V)} {xs : List NX}, Paired (fun (p : NestedKey × V) (q : NX) => p.1 = q.1 ∧ RelV p.2 q.2.2 ∧ KeyAt X.K H q.1 q.2.1) kvs xs → ∀ x, x ∈ xs → (nestedKind X.prog X.w).is s.heap x.1 x.2.1 := by
    intro kvs xs h
    induction h with
    | nil => intro x hx; cases hx
    | cons r t ih =>
      intro x hx
      rcases List.mem_cons.mp hx with rfl | hx
      · exact keyIs I r.2.2
      · exact ih x hx
  exact this hp
theorem rawOk {P : Program} {w : World} {H : Hp} {h : Heap} {d : Addr} {es : List DictEntry} {o : Obj} {ep : Nat} (h1 : h.get? d = some o) (h2 : o.ExactDict) (h3 : o.data = .dict es.toArray ep) : ObjOk P w H h d (rawD d es) :=
  ⟨⟨o, ep, h1, h2, h3⟩, ⟨o, h1⟩, fun g1 g2 ⟨o', ep', q1, q2, q3⟩ k => ⟨o', ep', k _ q1, q2, q3⟩⟩
end
/-- d.setdefault(t, v) -/
def rSetD (P : Program) (w : World) (K : PySem.W.Frag) : V → List V → Hp → VK → Prop := fun x vs H Q => ∃ (d a : Addr) (k : NestedKey) (dv : V) (kvs : List (NestedKey × V)), x = .ref d ∧ vs = [.ref a, dv] ∧ NdAt P w K H d kvs ∧ KeyAt K H k a ∧ kvs.length < sizeLine ∧
  (∀ v, ndGet kvs k = some v → Q v H) ∧ (ndGet kvs k = none → ∀ o, NdAt P w K (upd H d o) d (kvs ++ [(k, dv)]) → Q dv (upd H d o))
section
variable {X : Cx}
theorem mt_setdN (hu : X.A.units + 9 < cLine) : MtR X "dict.setdefault" (rSetD X.prog X.w X.K) := by
  intro pins s σ H x vs v us Q I rx rvs h
  obtain ⟨d, a, k, dv, kvs, rfl, rfl, hN, hk, hlt, q1, q2⟩ := h
  obtain ⟨u, r, rfl, ru, rr⟩ := vals2 rvs
  cases rx
  obtain rfl : u = Value.ref a := ru
  obtain ⟨hl, hd, xs, hx, hn, hp⟩ := hN
  have hxl : kvs.length = xs.length := by
    clear hx hn q1 q2 hl hlt
    induction hp with
    | nil => rfl
    | cons _ _ ih => simp [ih]
  have hm := ndIs I hx hn hp
  have room : (nestedKind X.prog X.w).room X.A.in1 := by
    show X.A.in1.units + 8 < cLine
    have : X.A.in1.units = X.A.units + 1 := rfl
    omega
  refine call_setdefault_heap (hsz := by omega) room (keyIs I hk) hd hm (fun p hp' => ?_) (fun hnone h' dd' hs => ?_)
  · rcases ndAtKey k hp with ⟨_, e2⟩ | ⟨v, p', e1, e2, rv⟩
    · rw [e2] at hp'; cases hp'
    · rw [e2] at hp'
      cases hp'
      exact ⟨v, H, I.tok _, rv, q1 v e1⟩
  · rcases ndAtKey k hp with ⟨e1, _⟩ | ⟨v, p', e1, e2, rv⟩
    · rw [storedH_new hnone] at dd'
      obtain ⟨o, es, ep, g1, g2, g3, g4, g5, g6⟩ := dd'
      have hes : es = ((xs ++ [(k, a, r)]).map (entryOfKey (nestedKind X.prog X.w))).toArray := by rw [← g4]
      subst hes
      have I' := d_write (t' := s.toks + (nestedKind X.prog X.w).draws k) I (ob := rawD d ((xs ++ [(k, a, r)]).map (entryOfKey (nestedKind X.prog X.w)))) (by rw [hx]; exact True.intro) hs ⟨o, g1⟩ (rawOk g1 g2 g3)
      refine ⟨dv, _, I', rr, q2 e1 _ ⟨?_, hd, xs ++ [(k, a, r)], upd_same, g6, ?_⟩⟩
      · rw [List.length_append, List.length_singleton]; omega
      · have up : ∀ {k' : NestedKey} {b : Addr}, KeyAt X.K H k' b → KeyAt X.K (upd H d (rawD d ((xs ++ [(k, a, r)]).map (entryOfKey (nestedKind X.prog X.w))))) k' b := fun z => z.upd hx (fun _ e => by cases e) (fun _ _ e => by cases e)
        have snoc : ∀ {l : List (NestedKey × V)} {m : List NX}, Paired (fun (p : NestedKey × V) (q : NX) => p.1 = q.1 ∧ RelV p.2 q.2.2 ∧ KeyAt X.K H q.1 q.2.1) l m → Paired (fun (p : NestedKey × V) (q : NX) => p.1 = q.1 ∧ RelV p.2 q.2.2 ∧ KeyAt X.K (upd H d (rawD d ((xs ++ [(k, a, r)]).map (entryOfKey (nestedKind X.prog X.w))))) q.1 q.2.1) (l ++ [(k, dv)]) (m ++ [(k, a, r)]) := by
          intro l m z
          induction z with
          | nil => exact .cons ⟨rfl, rr, up hk⟩ .nil
          | cons z1 _ ih => exact .cons ⟨z1.1, z1.2.1, up z1.2.2⟩ ih
        exact snoc hp
    · rw [e2] at hnone; cases hnone
theorem isN_at {pins : List (Addr × Obj)} {σ : L2.St} {H : Hp} {s : Shared} (I : Inv X pins σ H s) {a : Addr} {kvs : List (NestedKey × V)} (h : NdAt X.prog X.w X.K H a kvs) : s.TypeIs (.ref a) "dict" ∧ ∀ b, Value.ref a = .ref b → ∃ ob, s.heap.get? b = some ob ∧ ob.dict = none := by
  obtain ⟨_, _, xs, hx, _⟩ := h
  obtain ⟨⟨o, ep, h1, h2, h3⟩, _⟩ := (show ObjOk X.prog X.w H s.heap a (rawD a _) from I.hok a _ hx)
  refine ⟨⟨o, h1, h2.1⟩, fun b e => ?_⟩
  cases e
  exact ⟨o, h1, h2.2.1⟩
def tDSetN (P : Program) (w : World) (K : PySem.W.Frag) (td ty tx : TE) : TE := fun σ H Q => td σ H fun x H1 => ∃ a kvs, x = .ref a ∧ NdAt P w K H1 a kvs ∧ ty σ H1 fun y H2 => tx σ H2 fun z H3 => rSetD P w K (.ref a) [y, z] H3 Q
theorem pe_dsetN {o e f : Expr} {td ty tx : TE} {apos cpos : Pos} (hu : X.A.units + 9 < cLine) (ho : PE X o td) (he : PE X e ty) (hf : PE X f tx) (m : M2 X o "setdefault" apos e f cpos) : PE X (.Call (.Attribute o "setdefault" apos) [e, f] [] cpos) (tDSetN X.prog X.w X.K td ty tx) := by
  refine ⟨fun pins s σ H Q I h => ?_⟩
  refine wpAny_Call_method m.base m.few m.line PySem.F.plainAttrs_dict PySem.F.slot_dict_setdefault PySem.F.type_dict_setdefault (thn (ho.run pins s σ H _ I h) fun u s1 ⟨x, H1, I1, rx, a, kvs, ex, d, q1⟩ => ?_)
  subst ex
  obtain rfl : u = Value.ref a := rx
  obtain ⟨t1, t2⟩ := isN_at I1 d
  refine ⟨t1, t2, ?_⟩
  rw [m.trees]
  refine Calls.callWith_builtin rfl (Calls.evalArgs_plain (Calls.spliced_cons (thn (he.run pins s1 σ H1 _ I1 q1) fun iv s2 ⟨y, H2, I2, ry, q2⟩ =>
    Calls.spliced_cons (thn (hf.run pins s2 σ H2 _ I2 q2) fun fv s3 ⟨z, H3, I3, rz, q3⟩ => Calls.spliced_nil ?_))))
  exact mt_setdN hu pins s3 σ H3 (.ref a) [y, z] (.ref a) [iv, fv] Q I3 rfl (.cons ry (.cons rz .nil)) q3
/-- len(d) -/
theorem call_len_nd : CallR X (.builtin "len") (fun xs H Q => ∃ d kvs, xs = [V.ref d] ∧ NdAt X.prog X.w X.K H d kvs ∧ Q (.int kvs.length) H) := by
  intro pins s σ H xs us Q I r h
  obtain ⟨d, kvs, rfl, ⟨hl, hd, xs, hx, hn, hp⟩, q⟩ := h
  obtain ⟨u, rfl, rx⟩ := vals1 r
  cases rx
  have hxl : kvs.length = xs.length := by
    clear hx hn q hl
    induction hp with
    | nil => rfl
    | cons _ _ ih => simp [ih]
  have hm := ndIs I hx hn hp
  refine call_len_dictH hd hm (by rw [sizeLine_eq] at hl; omega) ?_
  rw [← hxl]
  exact ⟨.int kvs.length, H, I.tok _, ⟨_, rfl⟩, q⟩
def tDNewN (P : Program) (w : World) (K : PySem.W.Frag) : TE := fun _ H Q => ∀ p o, H p = none → NdAt P w K (upd H p o) p [] → Q (.ref p) (upd H p o)
theorem pe_dnewN {pos : Pos} : PE X (.Dict [] [] pos) (tDNewN X.prog X.w X.K) := ⟨fun pins s σ H Q I h => by
  refine wpAny_Dict_empty ⟨.ref s.heap.objs.size, _, I.laid (a := s.heap.objs.size) (o := rawD s.heap.objs.size []) (t' := s.toks) (fun _ _ q => Heap.get?_push_of_some _ q) (Nat.le_refl _) (rawOk (ep := 0) (Heap.get?_push_size _ rfl) ⟨rfl, rfl, rfl⟩ rfl), rfl, h _ _ (I.hok.fresh (Nat.le_refl _)) ?_⟩
  exact ⟨Nat.zero_le _, beq_eq_false_iff_ne.mpr (Ne.symm (Nat.ne_of_lt I.big)), [], upd_same, List.nodup_nil, .nil⟩⟩
end
end Sw
set_option Elab.async false
set_option maxRecDepth 100000
set_option maxHeartbeats 8000000
namespace Sw
open PySem L2 PySem.Spec PyProof.Rows
/-- strictly ahead in the order of texts -/
def SL (x y : Str) : Prop := x.cps.toList < y.cps.toList
theorem SL.asymm {x y : Str} (h : SL x y) (g : SL y x) : False := List.lt_asymm h g
theorem SL.trans {x y z : Str} (h : SL x y) (g : SL y z) : SL x z := List.lt_trans h g
theorem str_ext {x y : Str} (h : x.cps.toList = y.cps.toList) : x = y := by
  cases x; cases y
  have := Array.toList_inj.mp h
  simp at this
  subst this
  rfl
theorem SL.of {x y : Str} (h : ltCps y.cps.toList x.cps.toList = false) (n : x ≠ y) : SL x y := by
  rw [ltCps_eq] at h
  have h' : ¬ y.cps.toList < x.cps.toList := of_decide_eq_false h
  have hle : x.cps.toList ≤ y.cps.toList := h'
  by_cases q : x.cps.toList < y.cps.toList
  · exact q
  · have hge : y.cps.toList ≤ x.cps.toList := q
    exact absurd (str_ext (List.le_antisymm hle hge)) n
theorem risingS_up : ∀ (p : Str) (l : List Str), risingS p l = true → (p :: l).Nodup → (p :: l).Pairwise SL
  | p, [], _, _ => List.pairwise_singleton _ _
  | p, x :: r, h, nd => by
    have h' : (!ltCps x.cps.toList p.cps.toList && risingS x r) = true := h
    rw [Bool.and_eq_true] at h'
    rw [List.nodup_cons] at nd
    have t := risingS_up x r h'.2 nd.2
    have h1 : SL p x := SL.of (by simpa using h'.1) (fun e => nd.1 (by rw [e]; simp))
    refine List.pairwise_cons.mpr ⟨fun y hy => ?_, t⟩
    rcases List.mem_cons.mp hy with rfl | hy
    · exact h1
    · exact h1.trans ((List.pairwise_cons.mp t).1 y hy)
theorem sortedS_up {l : List Str} (h : sortedS l = true) (nd : l.Nodup) : l.Pairwise SL := by
  cases l with
  | nil => exact .nil
  | cons x r => exact risingS_up x r h nd
theorem SL.nd {l : List Str} (h : l.Pairwise SL) : l.Nodup := h.imp fun {a b} q e => by subst e; exact q.asymm q
/-- sorted of what rises is itself -/
theorem sortedS_same {l m : List Str} (hl : l.Pairwise SL) (hp : m.Perm l) (hm : sortedS m = true) : m = l := by
  have nd : m.Nodup := hp.nodup_iff.mpr (SL.nd hl)
  exact sorted_ext (fun a b => SL.asymm) (sortedS_up hm nd) hl fun x => hp.mem_iff
/-- the signs of steps rise -/
def Inc (L : List (Str × Nat)) : Prop := (L.map (·.1)).Pairwise SL
theorem Inc.sub {L N : List (Str × Nat)} (h : Inc L) (s : (N.map (·.1)).Sublist (L.map (·.1))) : Inc N := List.Pairwise.sublist s h
theorem Inc.snoc_sub {L N : List (Str × Nat)} {p q : Str × Nat} (s : (N.map (·.1)).Sublist (L.map (·.1))) (e : q.1 = p.1) : ((N ++ [q]).map (·.1)).Sublist ((L ++ [p]).map (·.1)) := by
  rw [List.map_append, List.map_append]
  simp only [List.map_cons, List.map_nil, e]
  exact s.append (List.Sublist.refl _)
/-! ### signs: one to six letters -/
def letter (c : Nat) : Bool := decide (97 ≤ c) && decide (c ≤ 122)
def signS (t : Str) : Bool := decide (1 ≤ t.length) && decide (t.length ≤ 6) && t.cps.toList.all letter
/-! ### signs that are drawn -/
def letL : List Nat := (Str.ofString "abcdefghijklmnopqrstuvwxyz").cps.toList
def letC (k : Nat) : Nat := letL.getD k 0
theorem letL_len : letL.length = 26 := by decide +kernel
theorem letC_at {k : Nat} (h : k < 26) : letL[k]? = some (letC k) := by
  have hk : k < letL.length := by rw [letL_len]; exact h
  unfold letC
  rw [List.getD_eq_getElem?_getD, List.getElem?_eq_getElem hk]
  rfl
theorem letC_ok {k : Nat} (h : k < 26) : letC k < 0x110000 := by
  have : ∀ c, c ∈ letL → c < 0x110000 := by decide +kernel
  exact this _ (List.mem_of_getElem? (letC_at h))
theorem letC_letter {k : Nat} (h : k < 26) : letter (letC k) = true := by
  have : ∀ c, c ∈ letL → letter c = true := by decide +kernel
  exact this _ (List.mem_of_getElem? (letC_at h))
theorem letC_inj {k j : Nat} (hk : k < 26) (hj : j < 26) (h : letC k = letC j) : k = j := by
  have nd : letL.Nodup := by decide +kernel
  have h1 := letC_at hk
  have h2 := letC_at hj
  rw [h] at h1
  obtain ⟨a1, b1⟩ := List.getElem?_eq_some_iff.mp h1
  obtain ⟨a2, b2⟩ := List.getElem?_eq_some_iff.mp h2
  have pw := List.pairwise_iff_getElem.mp nd
  rcases Nat.lt_trichotomy k j with q | q | q
  · exact absurd (b1.trans b2.symm) (pw k j a1 a2 q)
  · exact q
  · exact absurd (b2.trans b1.symm) (pw j k a2 a1 q)
def sgn (hd : Str) (u k : Nat) : Str := hd ++ (⟨#[letC ((u + 7 * k) % 26)]⟩ : Str)
theorem sgn_inj {hd : Str} {u k j : Nat} (hk : k < 6) (hj : j < 6) (h : sgn hd u k = sgn hd u j) : k = j := by
  have h1 : (hd.cps ++ #[letC ((u + 7 * k) % 26)]) = (hd.cps ++ #[letC ((u + 7 * j) % 26)]) := congrArg Str.cps h
  have h2 := congrArg Array.toList h1
  rw [Array.toList_append, Array.toList_append] at h2
  have h3 := List.append_cancel_left h2
  have h4 : letC ((u + 7 * k) % 26) = letC ((u + 7 * j) % 26) := by simpa using h3
  have h5 := letC_inj (Nat.mod_lt _ (by decide)) (Nat.mod_lt _ (by decide)) h4
  omega
theorem sgns_nd {hd : Str} {u m : Nat} (h : m ≤ 6) : ((List.range m).map (sgn hd u)).Nodup := by
  show ((List.range m).map (sgn hd u)).Pairwise (· ≠ ·)
  rw [List.pairwise_map]
  refine List.Pairwise.imp_of_mem (fun {a b} ha hb q e => ?_) List.nodup_range
  exact q (sgn_inj (by have := List.mem_range.mp ha; omega) (by have := List.mem_range.mp hb; omega) e)
end Sw
set_option Elab.async false
set_option maxRecDepth 100000
set_option maxHeartbeats 8000000
namespace Sw
open PySem L2 PySem.Spec PyProof.Rows
theorem strOk_app {a b : Str} (ha : PyData.strOk a = true) (hb : PyData.strOk b = true) : PyData.strOk (a ++ b) = true := by
  show (a.cps ++ b.cps).all _ = true
  rw [Array.all_append, Bool.and_eq_true]
  exact ⟨ha, hb⟩
theorem strOk_fold : ∀ (l : List Str) (x : Array Nat), x.all (fun c => decide (c < 0x110000)) = true → (∀ s, s ∈ l → PyData.strOk s = true) → (l.foldl (fun acc p => acc ++ (Str.ofString "").cps ++ p.cps) x).all (fun c => decide (c < 0x110000)) = true
  | [], x, hx, _ => hx
  | s :: l, x, hx, h => by
    rw [List.foldl_cons]
    refine strOk_fold l _ ?_ (fun s hs => h s (List.mem_cons_of_mem _ hs))
    rw [Array.all_append, Array.all_append, hx]
    have := h s List.mem_cons_self
    rw [show s.cps.all (fun c => decide (c < 0x110000)) = true from this]
    decide +kernel
theorem strOk_join {ws : List Str} (h : ∀ s, s ∈ ws → PyData.strOk s = true) : PyData.strOk (Txt.join "" ws) = true := by
  show ((ws.drop 1).foldl (fun acc p => acc ++ (Str.ofString "").cps ++ p.cps) (ws.headD Str.empty).cps).all (fun c => decide (c < 0x110000)) = true
  refine strOk_fold _ _ ?_ (fun s hs => h s (List.mem_of_mem_drop hs))
  cases ws with
  | nil => decide +kernel
  | cons s l => exact h s List.mem_cons_self
def ltrS (t : Str) : Bool := t.cps.all letter
theorem ltr_app {a b : Str} (ha : ltrS a = true) (hb : ltrS b = true) : ltrS (a ++ b) = true := by
  show (a.cps ++ b.cps).all _ = true
  rw [Array.all_append, Bool.and_eq_true]
  exact ⟨ha, hb⟩
theorem ltr_fold : ∀ (l : List Str) (x : Array Nat), x.all letter = true → (∀ s, s ∈ l → ltrS s = true) → (l.foldl (fun acc p => acc ++ (Str.ofString "").cps ++ p.cps) x).all letter = true
  | [], x, hx, _ => hx
  | s :: l, x, hx, h => by
    rw [List.foldl_cons]
    refine ltr_fold l _ ?_ (fun s hs => h s (List.mem_cons_of_mem _ hs))
    rw [Array.all_append, Array.all_append, hx]
    have := h s List.mem_cons_self
    rw [show s.cps.all letter = true from this]
    decide +kernel
theorem ltr_join {ws : List Str} (h : ∀ s, s ∈ ws → ltrS s = true) : ltrS (Txt.join "" ws) = true := by
  show ((ws.drop 1).foldl (fun acc p => acc ++ (Str.ofString "").cps ++ p.cps) (ws.headD Str.empty).cps).all letter = true
  refine ltr_fold _ _ ?_ (fun s hs => h s (List.mem_of_mem_drop hs))
  cases ws with
  | nil => decide +kernel
  | cons s l => exact h s List.mem_cons_self
theorem ltr_one {c : Nat} (h : letter c = true) : ltrS ⟨#[c]⟩ = true := by
  show (#[c]).all letter = true
  simp [h]
theorem ltr_sign {t : Str} (h : ltrS t = true) (h1 : 1 ≤ t.length) (h6 : t.length ≤ 6) : signS t = true := by
  unfold signS
  have e : t.cps.toList.all letter = true := by
    have : t.cps.all letter = true := h
    rw [← Array.all_toList] at this
    exact this
  rw [decide_eq_true h1, decide_eq_true h6, e]
  rfl
theorem letterAt {k : Nat} (h : k < 26) : ∃ c, atI (Str.ofString "abcdefghijklmnopqrstuvwxyz").cps.toList (k : Int) = some c ∧ c < 0x110000 ∧ letter c = true := by
  have hl : (Str.ofString "abcdefghijklmnopqrstuvwxyz").cps.toList.length = 26 := by decide +kernel
  have hk : k < (Str.ofString "abcdefghijklmnopqrstuvwxyz").cps.toList.length := by omega
  refine ⟨_, atI_nat (List.getElem?_eq_getElem hk), ?_⟩
  have : ∀ c, c ∈ (Str.ofString "abcdefghijklmnopqrstuvwxyz").cps.toList → c < 0x110000 ∧ letter c = true := by decide +kernel
  exact this _ (List.getElem_mem hk)
theorem strOk_one {c : Nat} (h : c < 0x110000) : PyData.strOk ⟨#[c]⟩ = true := by
  show (#[c]).all (fun c => decide (c < 0x110000)) = true
  simp [h]
section
variable {P : Program} {w : World} {K : PySem.W.Frag} {mg : Str → Option Value} {base : Heap}
abbrev n_law_gsigns : List Str := ["pen", "many", "letters", "ahead", "k", "first"]
theorem sc_law_gsigns : FnScope n_law_gsigns ["pen", "many"] (defScope s_law_gsigns) := ⟨rfl, rfl, rfl, by decide +kernel, rfl, by decide +kernel, by decide +kernel⟩
def spSigns : Sp := fun vs H Q _ => ∃ (pen wl : Addr) (T m : Nat), vs = [.ref pen, .int (m : Int)] ∧ 0 < m ∧ m ≤ 6 ∧ T ≤ 90000 ∧ PenAt H pen wl T ∧
  ∀ H' sg (ss : List Str), Bt pen wl H H' → PenAt H' pen wl (T + 7) → H' sg = some (.lst (ss.map V.str)) → sg ≠ wl → sg ≠ pen → ss.length = m → (∀ s, s ∈ ss → PyData.strOk s = true) → ss.Nodup → (∀ s, s ∈ ss → signS s = true) → Q (.ref sg) H'
theorem ok_law_gsigns (F : DefAt K mg "_law_gsigns" s_law_gsigns ["pen", "many"]) (d__law_gdraw : DefOk P w K mg base "_law_gdraw" 1 ["pen", "many"] spDraw) (b_range : mg "range" = none) : DefOk P w K mg base "_law_gsigns" 2 ["pen", "many"] spSigns := by
  refine F.ok sc_law_gsigns (fun vs H Q E h => ?_) (fun f cdv A outer s H vs Q E hr h => ?_)
  · obtain ⟨_, _, _, _, rfl, _⟩ := h
    rfl
  obtain ⟨pen, wl, T, m, rfl, hm0, hm1, hT, hp, k⟩ := h
  refine ⟨_, (pss_cons (ps_set (i := 2) sc_law_gsigns.nd rfl (Or.inr rfl) pe_str)
    (pss_cons (ps_set (i := 3) sc_law_gsigns.nd rfl (Or.inr rfl) (pe_join pe_str (pe_lc (own := [("k", 4)]) (g := gName 4) rfl sc_law_gsigns.nd (pi_range1 rfl b_range (pa_cons (pe_ix ix_list (pe_lst (pa_cons pe_int (pa_cons pe_int (pa_cons pe_int (pa_cons pe_int (pa_cons pe_int pa_nil)))))) (pe_callD d__law_gdraw (hr.mono (by decide)) rfl (pa_cons (pv 0) (pa_cons pe_int pa_nil))) (fun _ _ => rfl)) pa_nil)) (blkOk_by (own := [("k", 4)]) (N := n_law_gsigns) (sc := defScope s_law_gsigns) (by decide +kernel)) (fun _ _ _ _ _ => (pg_name (i := 4) sc_law_gsigns.nd rfl (Or.inl rfl))) (fun _ _ _ _ _ => pts_nil) (fun _ _ _ _ _ => (pe_ix ix_str (pv 2) (pe_callD d__law_gdraw (hr.mono (by decide)) rfl (pa_cons (pv 0) (pa_cons pe_int pa_nil))) (fun _ _ => rfl))))))
    (pss_cons (ps_set (i := 5) sc_law_gsigns.nd rfl (Or.inr rfl) (pe_callD d__law_gdraw (hr.mono (by decide)) rfl (pa_cons (pv 0) (pa_cons pe_int pa_nil))))
    (pss_one (ps_ret (pe_lc (own := [("k", 4)]) (g := gName 4) rfl sc_law_gsigns.nd (pi_range1 rfl b_range (pa_cons (pv 1) pa_nil)) (blkOk_by (own := [("k", 4)]) (N := n_law_gsigns) (sc := defScope s_law_gsigns) (by decide +kernel)) (fun _ _ _ _ _ => (pg_name (i := 4) sc_law_gsigns.nd rfl (Or.inl rfl))) (fun _ _ _ _ _ => pts_nil) (fun _ _ _ _ _ => (pe_op op_add_str (pv 3) (pe_ix ix_str (pv 2) (pe_op op_mod (pe_op op_add (pv 5) (pe_op op_mul pe_int (pv 4))) pe_int) (fun _ _ => rfl)))))))))), ?_⟩
  refine ⟨⟨_, rfl⟩, (by show 5 ≤ sizeLine; decide), fun l nl => ?_⟩
  have pl := hp.ne nl
  have q1 : Same H (upd H l (.lst [.int 0, .int 0, .int 1, .int 2, .int 5])) := .new nl
  have hl1 : (upd H l (.lst [.int 0, .int 0, .int 1, .int 2, .int 5])) l = some (.lst [.int 0, .int 0, .int 1, .int 2, .int 5]) := upd_same
  generalize upd H l (.lst [.int 0, .int 0, .int 1, .int 2, .int 5]) = H1 at q1 hl1 ⊢
  have p1 := hp.same q1
  refine ⟨_, rfl, pen, wl, T, 5, rfl, by decide, by decide, by omega, p1, fun H2 y hy b2 p2 => ?_⟩
  have hl2 := b2 _ _ hl1 pl.1 pl.2
  obtain ⟨z, hz, hz5⟩ : ∃ z : Nat, ([.int 0, .int 0, .int 1, .int 2, .int 5] : List V)[y]? = some (.int (z : Int)) ∧ z ≤ 5 := by
    match y, hy with
    | 0, _ => exact ⟨0, rfl, by decide⟩
    | 1, _ => exact ⟨0, rfl, by decide⟩
    | 2, _ => exact ⟨1, rfl, by decide⟩
    | 3, _ => exact ⟨2, rfl, by decide⟩
    | 4, _ => exact ⟨5, rfl, by decide⟩
  refine ⟨l, _, _, _, rfl, rfl, sL hl2, atI_nat hz, _, rfl, by omega, by omega, fun D nD => ?_⟩
  have pD := p2.ne nD
  refine lc_range (lo := 0) (n := ((z : Int)).toNat) (fun i H' => ∃ ws : List Str, Bt pen wl H2 H' ∧ PenAt H' pen wl (T + 1 + i) ∧ H' D = some (.lst (ws.map V.str)) ∧ ws.length = i ∧ ∀ x, x ∈ ws → x.length = 1 ∧ PyData.strOk x = true ∧ ltrS x = true)
    ⟨[], .of (.new nD), p2.same (.new nD), upd_same, rfl, fun x h => by cases h⟩ ?_ ?_
  · rintro j H3 hj ⟨ws, b3, p3, hw, hwl, hw1⟩
    refine ⟨rfl, ?_⟩
    refine ⟨_, rfl, _, rfl, pen, wl, T + 1 + j, 26, rfl, by decide, by decide, by omega, p3, fun H4 c hc b4 p4 => ?_⟩
    obtain ⟨ch, hch, hcok, hclt⟩ := letterAt hc
    refine ⟨_, _, ch, rfl, rfl, by decide +kernel, hch, ?_⟩
    have hw4 := b4 _ _ hw pD.1 pD.2
    refine ⟨_, hw4, szb (by rw [List.length_map]; omega), ws ++ [⟨#[ch]⟩], (b3.trans b4).w nD, p4.w pD, by rw [upd_same, List.map_append]; rfl, by rw [List.length_append, hwl]; rfl, ?_⟩
    intro x hx
    rcases List.mem_append.mp hx with hx | hx
    · exact hw1 x hx
    · rw [List.mem_singleton.mp hx]; exact ⟨rfl, strOk_one hcok, ltr_one hclt⟩
  · rintro H3 ⟨ws, b3, p3, hw, hwl, hw1⟩
    have hwl' : ws.length ≤ 5 := by omega
    have hsum : (ws.map (·.length)).sum = ws.length := by
      clear hw hwl p3 hwl'
      induction ws with
      | nil => rfl
      | cons a l ih => rw [List.map_cons, List.sum_cons, ih (fun x hx => hw1 x (List.mem_cons_of_mem _ hx)), (hw1 a List.mem_cons_self).1, List.length_cons]; omega
    have hjok := strOk_join (ws := ws) fun s hs => (hw1 s hs).2.1
    have hjlt := ltr_join (ws := ws) fun s hs => (hw1 s hs).2.2
    have hjlen : (Txt.join "" ws).length ≤ 5 := by
      have := size_glued "" ws
      have e0 : ("" : Str).length = 0 := rfl
      rw [hsum, e0, Nat.mul_zero] at this
      show (Builtin.Str.glued "" ws).length ≤ 5
      omega
    refine ⟨"", D, ws, rfl, rfl, .inl (sL hw), ?_, ?_⟩
    · rw [hsum]
      have : ("" : Str).length = 0 := rfl
      rw [this]
      omega
    generalize Txt.join "" ws = hd at hjok hjlt hjlen ⊢
    have b13 := (Bt.of q1).trans (b2.trans b3)
    refine ⟨_, rfl, pen, wl, T + 6, 26, rfl, by decide, by decide, by omega, p3.le (by omega), fun H4 u hu b4 p4 => ?_⟩
    refine ⟨_, rfl, _, rfl, by omega, by omega, fun S nS => ?_⟩
    have pS := p4.ne nS
    refine lc_range (lo := 0) (n := ((m : Int)).toNat) (fun i H' => ∃ ss : List Str, Same H4 H' ∧ H' S = some (.lst (ss.map V.str)) ∧ ss = (List.range i).map (sgn hd u) ∧ ∀ x, x ∈ ss → PyData.strOk x = true)
      ⟨[], .new nS, upd_same, rfl, fun x h => by cases h⟩ ?_ ?_
    · rintro j H5 hj ⟨ss, g5, hs, hsl, hs1⟩
      refine ⟨rfl, ?_⟩
      refine ⟨_, rfl, _, rfl, _, rfl, _, rfl, _, _, rfl, rfl, .inl ⟨by decide, by decide⟩, _, _, rfl, rfl, _, _, rfl, rfl, (by show (0 : Int) < 26; decide), ?_⟩
      dsimp only
      have hc : ((u : Int) + 7 * (0 + (j : Int))) % 26 = (((u + 7 * j) % 26 : Nat) : Int) := by omega
      rw [hc]
      have hc26 : (u + 7 * j) % 26 < 26 := Nat.mod_lt _ (by decide)
      obtain ⟨ch, hch, hcok, ech⟩ : ∃ ch, atI (Str.ofString "abcdefghijklmnopqrstuvwxyz").cps.toList (((u + 7 * j) % 26 : Nat) : Int) = some ch ∧ ch < 0x110000 ∧ ch = letC ((u + 7 * j) % 26) := ⟨_, atI_nat (letC_at hc26), letC_ok hc26, rfl⟩
      refine ⟨_, _, ch, rfl, rfl, by decide +kernel, hch, ?_⟩
      refine ⟨_, _, rfl, rfl, szl (by show hd.length + 1 ≤ _; omega), ?_⟩
      refine ⟨_, hs, szb (by rw [List.length_map, hsl, List.length_map, List.length_range]; omega), ss ++ [hd ++ ⟨#[ch]⟩], g5.mut nS, by rw [upd_same, List.map_append]; rfl, by rw [hsl, ech, List.range_succ, List.map_append]; rfl, ?_⟩
      intro x hx
      rcases List.mem_append.mp hx with hx | hx
      · exact hs1 x hx
      · rw [List.mem_singleton.mp hx]; exact strOk_app hjok (strOk_one hcok)
    · rintro H5 ⟨ss, g5, hs, hsl, hs1⟩
      exact k _ S ss (b13.trans (b4.trans (.of g5))) (p4.same g5) hs pS.2 pS.1 (by rw [hsl, List.length_map, List.length_range]; omega) hs1 (by rw [hsl]; exact sgns_nd (by omega)) (fun s hs => by
        rw [hsl] at hs
        obtain ⟨j, _, rfl⟩ := List.mem_map.mp hs
        have hlen : (sgn hd u j).length = hd.length + 1 := by
          show (hd.cps ++ #[letC ((u + 7 * j) % 26)]).size = hd.cps.size + 1
          simp
        exact ltr_sign (ltr_app hjlt (ltr_one (letC_letter (Nat.mod_lt _ (by decide))))) (by omega) (by omega))
end
end Sw
set_option Elab.async false
set_option maxRecDepth 100000
set_option maxHeartbeats 8000000
namespace Sw
open PySem L2 PySem.Spec PyProof.Rows
/-! ### machines -/
abbrev Stp := Str × Nat
abbrev Rm := Bool × List Stp
def stD (p : Stp) : PyData := .tuple [.str p.1, .int (p.2 : Int)]
def rmD (r : Rm) : PyData := .tuple [.bool r.1, .tuple (r.2.map stD)]
def maD (M : List Rm) : PyData := .tuple (M.map rmD)
theorem noL_st (p : Stp) : noL (stD p) = true := by simp [stD, noL, noLs]
theorem noLs_st : ∀ l : List Stp, noLs (l.map stD) = true
  | [] => by simp [noLs]
  | p :: l => by rw [List.map_cons, noLs, noL_st, noLs_st l]; rfl
theorem noL_rm (r : Rm) : noL (rmD r) = true := by simp [rmD, noL, noLs, noLs_st]
theorem noLs_rm : ∀ l : List Rm, noLs (l.map rmD) = true
  | [] => by simp [noLs]
  | p :: l => by rw [List.map_cons, noLs, noL_rm, noLs_rm l]; rfl
theorem noL_ma (M : List Rm) : noL (maD M) = true := by rw [maD, noL]; exact noLs_rm M
def sgs (M : List Rm) : List Str := (M.map fun r => r.2.map Prod.fst).flatten
theorem sgs_snoc (M : List Rm) (r : Rm) : sgs (M ++ [r]) = sgs M ++ r.2.map Prod.fst := by
  unfold sgs
  rw [List.map_append, List.flatten_append]
  simp
theorem sgs_mem {M : List Rm} {t : Str} : t ∈ sgs M ↔ ∃ r p, r ∈ M ∧ p ∈ r.2 ∧ p.1 = t := by
  unfold sgs
  rw [List.mem_flatten]
  constructor
  · rintro ⟨l, hl, ht⟩
    obtain ⟨r, hr, rfl⟩ := List.mem_map.mp hl
    obtain ⟨p, hp, rfl⟩ := List.mem_map.mp ht
    exact ⟨r, p, hr, hp, rfl⟩
  · rintro ⟨r, p, hr, hp, rfl⟩
    exact ⟨_, List.mem_map_of_mem hr, List.mem_map_of_mem hp⟩
structure ROk (n : Nat) (M : List Rm) : Prop where
  deg : ∀ r, r ∈ M → r.2.length ≤ 6
  tgt : ∀ r, r ∈ M → ∀ p, p ∈ r.2 → p.2 < n
  str : ∀ r, r ∈ M → ∀ p, p ∈ r.2 → PyData.strOk p.1 = true
  inc : ∀ r, r ∈ M → Inc r.2
structure MOk (M : List Rm) : Prop extends ROk M.length M where
  pos : 0 < M.length
  le : M.length ≤ 100
/-- the steps of a room -/
def stepsOf (M : List Rm) (k : Nat) : List Stp := (M.getD k (false, [])).2
theorem stepsOf_at {M : List Rm} {k : Nat} {r : Rm} (h : M[k]? = some r) : stepsOf M k = r.2 := by unfold stepsOf; rw [List.getD_eq_getElem?_getD, h]; rfl
def Eg (M : List Rm) (k : Nat) : List Nat := (stepsOf M k).map (·.2)
/-- a room that ends -/
def endR (M : List Rm) (k : Nat) : Bool := (M.getD k (false, [])).1
theorem endR_at {M : List Rm} {k : Nat} {r : Rm} (h : M[k]? = some r) : endR M k = r.1 := by unfold endR; rw [List.getD_eq_getElem?_getD, h]; rfl
/-- the rooms from which an end is come to, as they are found -/
def teAny (M : List Rm) (F : List Nat) (k : Nat) : Bool := (stepsOf M k).any fun p => decide (p.2 ∈ F)
def teStep (M : List Rm) (F : List Nat) (k : Nat) : List Nat := if k ∈ F then F else if teAny M F k = true then F ++ [k] else F
def teTurn (M : List Rm) (F : List Nat) : List Nat := (List.range M.length).foldl (teStep M) F
def teF (M : List Rm) : List Nat := (List.range M.length).foldl (fun F _ => teTurn M F) ((List.range M.length).filter (endR M))
/-- each ends, or leads to one that was found ahead of it -/
def Found (M : List Rm) (F : List Nat) : Prop := ∀ A k B, F = A ++ k :: B → endR M k = true ∨ ∃ j, j ∈ Eg M k ∧ j ∈ A
theorem Found.start (M : List Rm) (n : Nat) : Found M ((List.range n).filter (endR M)) := by
  intro A k B e
  have : k ∈ (List.range n).filter (endR M) := by rw [e]; simp
  exact .inl (List.mem_filter.mp this).2
theorem Found.step {M : List Rm} {F : List Nat} (h : Found M F) (k : Nat) : Found M (teStep M F k) := by
  unfold teStep
  by_cases h1 : k ∈ F
  · rw [if_pos h1]; exact h
  · rw [if_neg h1]
    by_cases h2 : teAny M F k = true
    · rw [if_pos h2]
      intro A x B e
      rcases List.eq_nil_or_concat B with rfl | ⟨B', y, rfl⟩
      · obtain ⟨e1, e2⟩ := List.append_inj' e rfl
        cases e2
        subst e1
        unfold teAny at h2
        obtain ⟨p, hp, hq⟩ := List.any_eq_true.mp h2
        exact .inr ⟨p.2, List.mem_map_of_mem hp, of_decide_eq_true hq⟩
      · rw [List.concat_eq_append, show A ++ x :: (B' ++ [y]) = (A ++ x :: B') ++ [y] by simp] at e
        obtain ⟨e1, _⟩ := List.append_inj' e rfl
        exact h A x B' e1
    · rw [if_neg h2]; exact h
theorem Found.fold {M : List Rm} : ∀ {l F : List Nat}, Found M F → Found M (l.foldl (teStep M) F)
  | [], _, h => h
  | k :: l, _, h => by rw [List.foldl_cons]; exact Found.fold (h.step k)
theorem Found.turns {M : List Rm} : ∀ {l F : List Nat}, Found M F → Found M (l.foldl (fun F _ => teTurn M F) F)
  | [], _, h => h
  | k :: l, _, h => by rw [List.foldl_cons]; exact Found.turns (l := l) (Found.fold h)
theorem teF_found (M : List Rm) : Found M (teF M) := Found.turns (Found.start M _)
theorem teStep_sub {M : List Rm} {F : List Nat} {k x : Nat} (h : x ∈ F) : x ∈ teStep M F k := by
  unfold teStep
  by_cases h1 : k ∈ F
  · rw [if_pos h1]; exact h
  · rw [if_neg h1]
    by_cases h2 : teAny M F k = true
    · rw [if_pos h2]; exact List.mem_append_left _ h
    · rw [if_neg h2]; exact h
theorem teFold_sub {M : List Rm} {x : Nat} : ∀ {l F : List Nat}, x ∈ F → x ∈ l.foldl (teStep M) F
  | [], _, h => h
  | k :: l, _, h => by rw [List.foldl_cons]; exact teFold_sub (teStep_sub h)
theorem teTurns_sub {M : List Rm} {x : Nat} : ∀ {l F : List Nat}, x ∈ F → x ∈ l.foldl (fun F _ => teTurn M F) F
  | [], _, h => h
  | k :: l, _, h => by rw [List.foldl_cons]; exact teTurns_sub (l := l) (teFold_sub h)
theorem teF_end {M : List Rm} {k : Nat} (hk : k < M.length) (h : endR M k = true) : k ∈ teF M := teTurns_sub (List.mem_filter.mpr ⟨List.mem_range.mpr hk, h⟩)
/-- closed under what is found, a list from 0 has an end -/
theorem Found.has {M : List Rm} {F : List Nat} (h : Found M F) {O : List Nat} (hc : ∀ k, k ∈ O → ∀ j, j ∈ Eg M k → j ∈ F → j ∈ O) : ∀ (n : Nat) (A : List Nat) (k : Nat) (B : List Nat), A.length ≤ n → F = A ++ k :: B → k ∈ O → ∃ x, x ∈ O ∧ endR M x = true
  | n, A, k, B, hn, e, hk => by
    rcases h A k B e with q | ⟨j, hj, hA⟩
    · exact ⟨k, hk, q⟩
    · obtain ⟨A1, A2, rfl⟩ := List.append_of_mem hA
      cases n with
      | zero => simp at hn
      | succ n =>
        rw [List.length_append, List.length_cons] at hn
        exact h.has hc n A1 j (A2 ++ k :: B) (by omega) (by rw [e]; simp) (hc k hk j hj (by rw [e]; simp))
def natV (F : List Nat) : List V := F.map fun n : Nat => V.int (n : Int)
theorem ints_len (F : List Nat) : (natV F).length = F.length := List.length_map ..
theorem ints_app (F G : List Nat) : natV (F ++ G) = natV F ++ natV G := List.map_append ..
theorem ints_at {F : List Nat} {i k : Nat} (h : F[i]? = some k) : (natV F)[i]? = some (V.int (k : Int)) := by unfold natV; rw [List.getElem?_map, h]; rfl
theorem ints_get {F : List Nat} {i : Nat} {v : V} (h : (natV F)[i]? = some v) : ∃ k, F[i]? = some k ∧ v = V.int (k : Int) := by
  unfold natV at h
  rw [List.getElem?_map] at h
  cases e : F[i]? with
  | none => rw [e] at h; cases h
  | some k => rw [e] at h; exact ⟨k, rfl, (Option.some.inj h).symm⟩
theorem ints_flat (F : List Nat) : (natV F).all flatV = true := by
  rw [List.all_eq_true]
  intro v hv
  unfold natV at hv
  obtain ⟨k, _, rfl⟩ := List.mem_map.mp hv
  rfl
theorem ints_in (F : List Nat) (k : Nat) : inV (.int (k : Int)) (natV F) = decide (k ∈ F) := by
  unfold inV natV
  rw [List.any_map, Bool.eq_iff_iff, List.any_eq_true, decide_eq_true_eq]
  constructor
  · rintro ⟨j, hj, e⟩
    have : (j : Int) = (k : Int) := by simpa [eqV] using e
    have : j = k := by omega
    subst this
    exact hj
  · intro h
    exact ⟨k, h, by simp [eqV]⟩
theorem stAt {K : PySem.W.Frag} {H : Hp} {v : V} {p : Stp} (h : Dp K H v (stD p)) : ∃ a, v = .ref a ∧ SqT K H a [.str p.1, .int (p.2 : Int)] := by
  obtain ⟨a, xs, rfl, h1, h2⟩ := dpTup h
  obtain ⟨x, us, rfl, e, h3⟩ := dpCons h2
  cases dpStr e
  obtain ⟨y, us, rfl, e, h4⟩ := dpCons h3
  cases dpInt e
  cases dpNil h4
  exact ⟨a, rfl, h1⟩
theorem rmAt {K : PySem.W.Frag} {H : Hp} {v : V} {r : Rm} (h : Dp K H v (rmD r)) : ∃ a b ls, v = .ref a ∧ SqT K H a [.bl r.1, .ref b] ∧ SqT K H b ls ∧ DpAll K H ls (r.2.map stD) := by
  obtain ⟨a, xs, rfl, h1, h2⟩ := dpTup h
  obtain ⟨x, us, rfl, e, h3⟩ := dpCons h2
  cases e
  obtain ⟨y, us, rfl, e, h4⟩ := dpCons h3
  obtain ⟨b, ls, rfl, h5, h6⟩ := dpTup e
  cases dpNil h4
  exact ⟨a, b, ls, rfl, h1, h5, h6⟩
/-- the room at a place -/
theorem rmsAt {K : PySem.W.Frag} {H : Hp} {rs : List V} {M : List Rm} {k : Nat} {r : Rm} (h : DpAll K H rs (M.map rmD)) (hk : M[k]? = some r) : ∃ a b ls, rs[k]? = some (.ref a) ∧ SqT K H a [.bl r.1, .ref b] ∧ SqT K H b ls ∧ DpAll K H ls (r.2.map stD) := by
  obtain ⟨u, hu1, hu2⟩ := dpsAt h (i := k) (d := rmD r) (by rw [List.getElem?_map, hk]; rfl)
  obtain ⟨a, b, ls, rfl, h1, h2, h3⟩ := rmAt hu2
  exact ⟨a, b, ls, hu1, h1, h2, h3⟩
/-- a step at a place -/
theorem stsAt {K : PySem.W.Frag} {H : Hp} {ls : List V} {L : List Stp} {j : Nat} {v : V} (h : DpAll K H ls (L.map stD)) (hv : ls[j]? = some v) : ∃ p a, L[j]? = some p ∧ v = .ref a ∧ SqT K H a [.str p.1, .int (p.2 : Int)] := by
  obtain ⟨d, hd1, hd2⟩ := dpsAtV h hv
  rw [List.getElem?_map] at hd1
  cases e : L[j]? with
  | none => rw [e] at hd1; cases hd1
  | some p =>
    rw [e] at hd1
    have : d = stD p := (Option.some.inj hd1).symm
    subst this
    obtain ⟨a, rfl, h1⟩ := stAt hd2
    exact ⟨p, a, rfl, rfl, h1⟩
theorem dpsW {K : PySem.W.Frag} {H : Hp} {R : Addr} {xs : List V} {o : HO} (h : H R = some (.lst xs)) {vs : List V} {ds : List PyData} (n : noLs ds = true) (hd : DpAll K H vs ds) : DpAll K (upd H R o) vs ds := dpAllSameT (fun _ _ q => sqTW h q) ds vs n hd
theorem dpW {K : PySem.W.Frag} {H : Hp} {R : Addr} {xs : List V} {o : HO} (h : H R = some (.lst xs)) {v : V} {d : PyData} (n : noL d = true) (hd : Dp K H v d) : Dp K (upd H R o) v d := dpSameT (fun _ _ q => sqTW h q) d v n hd
theorem roomAdd {K : PySem.W.Frag} {H : Hp} {R l t : Addr} {ns ls : List V} {N : List Rm} {L : List Stp} {bb : Bool} (hR : H R = some (.lst ns)) (hns : DpAll K H ns (N.map rmD)) (hls : DpAll K H ls (L.map stD)) (nl : H l = none) (nt : (upd H l (.tup ls)) t = none) :
    DpAll K (upd (upd (upd H l (.tup ls)) t (.tup [.bl bb, .ref l])) R (.lst (ns ++ [.ref t]))) (ns ++ [.ref t]) ((N ++ [(bb, L)]).map rmD) := by
  have s6 : Same H (upd H l (.tup ls)) := .new nl
  have s7 : Same (upd H l (.tup ls)) (upd (upd H l (.tup ls)) t (.tup [.bl bb, .ref l])) := .new nt
  have hR7 := (s6.trans s7) _ _ hR
  rw [List.map_append]
  refine dpsApp (dpsW hR7 (noLs_rm N) (dpsS (s6.trans s7) hns)) (.cons ?_ .nil)
  refine .tup (sqTW hR7 (sT upd_same)) (.cons (.bl _) (.cons ?_ .nil))
  exact dpW hR7 (by rw [noL]; exact noLs_st L) (dpS s7 (.tup (sT upd_same) (dpsS s6 hls)))
theorem stepAdd {K : PySem.W.Frag} {H : Hp} {A t : Addr} {as : List V} {L : List Stp} {sg : Str} {n : Nat} (hA : H A = some (.lst as)) (has : DpAll K H as (L.map stD)) (nt : H t = none) :
    DpAll K (upd (upd H t (.tup [.str sg, .int (n : Int)])) A (.lst (as ++ [.ref t]))) (as ++ [.ref t]) ((L ++ [(sg, n)]).map stD) := by
  have s6 : Same H (upd H t (.tup [.str sg, .int (n : Int)])) := .new nt
  have hA6 := s6 _ _ hA
  rw [List.map_append]
  refine dpsApp (dpsW hA6 (noLs_st L) (dpsS s6 has)) (.cons ?_ .nil)
  exact .tup (sqTW hA6 (sT upd_same)) (.cons (.str _) (.cons (.int _) .nil))
section
variable {P : Program} {w : World} {K : PySem.W.Frag} {mg : Str → Option Value} {base : Heap}
abbrev n_law_gto_end : List Str := ["rooms", "found", "k", "turn", "sign", "there"]
theorem sc_law_gto_end : FnScope n_law_gto_end ["rooms"] (defScope s_law_gto_end) := ⟨rfl, rfl, rfl, by decide +kernel, rfl, by decide +kernel, by decide +kernel⟩
def spToEnd (K : PySem.W.Frag) : Sp := fun vs H Q _ => ∃ (rl : Addr) (rs : List V) (M : List Rm), vs = [.ref rl] ∧ H rl = some (.lst rs) ∧ DpAll K H rs (M.map rmD) ∧ M.length ≤ 100 ∧ (∀ r, r ∈ M → r.2.length ≤ 6) ∧
  ∀ H' fl, Same H H' → H' fl = some (.lst (natV (teF M))) → H fl = none → Q (.ref fl) H'
theorem ok_law_gto_end (F : DefAt K mg "_law_gto_end" s_law_gto_end ["rooms"]) (b_any : mg "any" = none) (b_len : mg "len" = none) (b_range : mg "range" = none) : DefOk P w K mg base "_law_gto_end" 1 ["rooms"] (spToEnd K) := by
  refine F.ok sc_law_gto_end (fun vs H Q E h => ?_) (fun f cdv A outer s H vs Q E hr h => ?_)
  · obtain ⟨_, _, _, rfl, _⟩ := h
    rfl
  obtain ⟨rl, rs, M, rfl, hrl, hrs, hle, hr6, k⟩ := h
  have hlen := dpsLen hrs
  rw [List.length_map] at hlen
  refine ⟨_, (pss_cons (ps_set (i := 1) sc_law_gto_end.nd rfl (Or.inr rfl) (pe_lc (own := [("k", 2)]) (g := gName 2) rfl sc_law_gto_end.nd (pi_range1 rfl b_range (pa_cons (pe_callB call_len_seq (by rfl) b_len PySem.boot_len (pa_cons (pv 0) pa_nil)) pa_nil)) (blkOk_by (own := [("k", 2)]) (N := n_law_gto_end) (sc := defScope s_law_gto_end) (by decide +kernel)) (fun _ _ _ _ _ => (pg_name (i := 2) sc_law_gto_end.nd rfl (Or.inl rfl))) (fun _ _ _ _ _ => (pts_one (pt_val (pe_ix (r := rIxT K) ix_tup (pe_ix (r := rIxL K) ix_list (pv 0) (pv 2) (fun _ _ => rfl)) pe_int (fun _ _ => rfl))))) (fun _ _ _ _ _ => (pv 2))))
    (pss_cons (ps_for PassesOwn.never rfl (pi_range1 rfl b_range (pa_cons (pe_callB call_len_seq (by rfl) b_len PySem.boot_len (pa_cons (pv 0) pa_nil)) pa_nil)) (pg_name (i := 3) sc_law_gto_end.nd rfl (Or.inl rfl))
      (pss_one (ps_for PassesOwn.never rfl (pi_range1 rfl b_range (pa_cons (pe_callB call_len_seq (by rfl) b_len PySem.boot_len (pa_cons (pv 0) pa_nil)) pa_nil)) (pg_name (i := 2) sc_law_gto_end.nd rfl (Or.inl rfl))
      (pss_one (ps_if (PW.pt (pw_and (pt_cmpR op_notIn_seq (pv 2) (pv 1) (by rfl)) (pw_and1 (pt_val (pe_callB (cr_any rfl) (by rfl) b_any (by decide +kernel) (pa_cons (pe_lc (own := [("sign", 4), ("there", 5)]) (g := gTup K 2 (gCons (gName 4) (gCons (gName 5) gNil))) rfl sc_law_gto_end.nd (pi_tup (pe_ix ix_tup (pe_ix ix_list (pv 0) (pv 2) (fun _ _ => rfl)) pe_int (fun _ _ => rfl))) (blkOk_by (own := [("sign", 4), ("there", 5)]) (N := n_law_gto_end) (sc := defScope s_law_gto_end) (by decide +kernel)) (fun _ _ _ _ _ => (pg_tup rfl (pgs_cons (pg_name (i := 4) sc_law_gto_end.nd rfl (Or.inl rfl)) (pgs_cons (pg_name (i := 5) sc_law_gto_end.nd rfl (Or.inl rfl)) pgs_nil)))) (fun _ _ _ _ _ => pts_nil) (fun _ _ _ _ _ => (pe_cmpR (r := rIn K false) op_in_seq (pv 5) (pv 1) (by rfl)))) pa_nil)))))) (pss_one (ps_expr (pe_bm PySem.F.plainAttrs_list PySem.F.slot_list_append PySem.F.type_list_append mt_append (pv 1) (pa_cons (pv 2) pa_nil)))) pss_nil)))))
    (pss_one (ps_ret (pv 1))))), ?_⟩
  refine ⟨_, rfl, rl, _, rfl, .inl (sL hrl), _, rfl, by omega, by omega, fun D nD => ?_⟩
  have nDr : rl ≠ D := ne_of_none hrl nD
  have hrl' : ((rs.length : Int)).toNat = M.length := by omega
  refine lc_range (lo := 0) (n := (rs.length : Int).toNat) (fun i H' => Same H H' ∧ H' D = some (.lst (natV ((List.range i).filter (endR M))))) ⟨.new nD, upd_same⟩ ?_ ?_
  · rintro i H1 hi ⟨g1, hD⟩
    obtain ⟨r, hr⟩ : ∃ r, M[i]? = some r := ⟨_, List.getElem?_eq_getElem (by omega)⟩
    obtain ⟨a, b, ls, e1, e2, e3, e4⟩ := rmsAt hrs hr
    have hF : ((List.range i).filter (endR M)).length ≤ i := by have := List.length_filter_le (endR M) (List.range i); rwa [List.length_range] at this
    have eF : (List.range (i + 1)).filter (endR M) = (List.range i).filter (endR M) ++ (if r.1 = true then [i] else []) := by
      rw [List.range_succ, List.filter_append]
      congr 1
      by_cases q : r.1 = true
      · rw [if_pos q, List.filter_cons_of_pos (by rw [endR_at hr]; exact q)]; rfl
      · rw [if_neg q, List.filter_cons_of_neg (by rw [endR_at hr]; exact q)]; rfl
    refine ⟨rfl, ?_⟩
    refine ⟨_, rfl, _, rfl, rl, _, _, _, rfl, rfl, sL (g1 _ _ hrl), at_of (j := i) (v := .ref a) (by omega) e1, a, _, 0, _, rfl, rfl, g1.sqT e2, rfl, _, rfl, ite2 (fun q => ?_) (fun q => ?_)⟩
    · rw [if_pos q] at eF
      refine ⟨_, rfl, _, hD, szb (by rw [ints_len]; omega), g1.mut nD, by rw [upd_same, eF, ints_app]; simp [natV]⟩
    · rw [if_neg q, List.append_nil] at eF
      rw [eF]
      exact ⟨g1, hD⟩
  · rintro H1 ⟨g1, hD⟩
    rw [hrl'] at hD
    refine ⟨_, rfl, rl, _, rfl, .inl (sL (g1 _ _ hrl)), _, rfl, by omega, by omega, ?_⟩
    have hF0 : ((List.range M.length).filter (endR M)).length ≤ 100 := by have := List.length_filter_le (endR M) (List.range M.length); rw [List.length_range] at this; omega
    refine for_range (lo := 0) (n := (rs.length : Int).toNat) (fun i σ H' => ∃ (F : List Nat) (o2 o3 : Option V), σ = [some (.ref rl), some (.ref D), o2, o3, none, none] ∧ Same H H' ∧ H' D = some (.lst (natV F)) ∧ F.length ≤ 100 + 100 * i ∧ F = (List.range i).foldl (fun F _ => teTurn M F) ((List.range M.length).filter (endR M))) ⟨_, none, none, rfl, g1, hD, by omega, rfl⟩ ?_ ?_
    · rintro i σ H2 hi ⟨F0, o2, o3, rfl, g2, hD, hF, eF⟩
      refine ⟨_, rfl, rl, _, rfl, .inl (sL (g2 _ _ hrl)), _, rfl, by omega, by omega, ?_⟩
      refine for_range (lo := 0) (n := (rs.length : Int).toNat) (fun j σ H' => ∃ (F : List Nat) (o2 : Option V), σ = [some (.ref rl), some (.ref D), o2, some (.int (0 + (i : Int))), none, none] ∧ Same H H' ∧ H' D = some (.lst (natV F)) ∧ F.length ≤ 100 + 100 * i + j ∧ F = (List.range j).foldl (teStep M) F0) ⟨F0, o2, rfl, g2, hD, by omega, rfl⟩ ?_ ?_
      · rintro j σ H3 hj ⟨F, o2, rfl, g3, hD, hF, eF'⟩
        obtain ⟨r, hr⟩ : ∃ r, M[j]? = some r := ⟨_, List.getElem?_eq_getElem (by omega)⟩
        obtain ⟨a, b, ls, e1, e2, e3, e4⟩ := rmsAt (dpsS g3 hrs) hr
        have ej : (0 + (j : Int)) = ((j : Nat) : Int) := by omega
        rw [ej]
        have enx : (List.range (j + 1)).foldl (teStep M) F0 = teStep M F j := by rw [List.range_succ, List.foldl_append, eF']; rfl
        have hls := dpsLen e4
        rw [List.length_map] at hls
        refine ⟨_, rfl, _, rfl, D, _, rfl, .inl (sL hD), rfl, ints_flat F, _, rfl, ite2 (fun hn => ?_) (fun hy => iteF ⟨F, _, rfl, g3, hD, by omega, ?_⟩)⟩
        · have hn' : j ∉ F := by simpa [ints_in] using hn
          refine ⟨_, rfl, _, rfl, rl, _, _, _, rfl, rfl, sL (g3 _ _ hrl), atI_nat e1, a, _, 1, _, rfl, rfl, e2, atI_nat (j := 1) rfl, b, rfl, ⟨_, e3⟩, fun A nA => ?_⟩
          refine lc_tup (K := K) (a := b) (xs := ls) (fun m H' => Same H3 H' ∧ H' A = some (.lst (((r.2.take m).map fun p => decide (p.2 ∈ F)).map V.bl))) ⟨.new nA, upd_same⟩ (fun m H' _ ⟨g, _⟩ => g.sqT e3) ?_ ?_
          · rintro m v H4 hv ⟨g4, hA⟩
            obtain ⟨p, pa, hp, rfl, hpa⟩ := stsAt e4 hv
            have hm := (List.getElem?_eq_some_iff.mp hv).1
            have h6 := hr6 r (List.mem_of_getElem? hr)
            refine ⟨pa, _, rfl, g4.sqT hpa, rfl, _, _, rfl, _, _, rfl, rfl, rfl, ?_⟩
            refine ⟨_, rfl, _, rfl, D, _, rfl, .inl (sL (g4 _ _ hD)), rfl, ints_flat F, ?_⟩
            refine ⟨_, hA, szb (by rw [List.length_map, List.length_map, List.length_take]; omega), g4.mut nA, ?_⟩
            rw [upd_same, take_snoc hp, List.map_append, List.map_append]
            simp [ints_in]
          · rintro H4 ⟨g4, hA⟩
            rw [hls, List.take_length] at hA
            refine ⟨A, _, rfl, sL hA, ?_⟩
            have eany : (r.2.map fun p => decide (p.2 ∈ F)).any id = teAny M F j := by unfold teAny; rw [stepsOf_at hr, List.any_map]; rfl
            rw [eany]
            refine ⟨_, rfl, ite2 (fun q => ?_) (fun q => ⟨F, _, rfl, g3.trans g4, g4 _ _ hD, by omega, ?_⟩)⟩
            · refine ⟨_, rfl, .inl ⟨rfl, _, .inl (.inl (g4 _ _ hD))⟩, _, rfl, D, _, _, rfl, rfl, g4 _ _ hD, szb (by rw [ints_len]; omega), ?_⟩
              refine ⟨F ++ [j], _, rfl, (g3.trans g4).mut nD, by rw [upd_same, ints_app]; rfl, by rw [List.length_append, List.length_singleton]; omega, ?_⟩
              rw [enx, teStep, if_neg hn', if_pos q]
            · rw [enx, teStep, if_neg hn', if_neg q]
        · have hy' : j ∈ F := by simpa [ints_in] using hy
          rw [enx, teStep, if_pos hy']
      · rintro σ H3 ⟨F, o2, rfl, g3, hD, hF, eF'⟩
        refine ⟨F, _, _, rfl, g3, hD, by omega, ?_⟩
        rw [List.range_succ, List.foldl_append, ← eF, eF', hrl']
        rfl
    · rintro σ H2 ⟨F, o2, o3, rfl, g2, hD, hF, eF⟩
      rw [hrl'] at eF
      subst eF
      exact ⟨_, rfl, k _ D g2 hD nD⟩
end
end Sw
set_option Elab.async false
set_option maxRecDepth 100000
set_option maxHeartbeats 8000000
namespace Sw
open PySem L2 PySem.Spec PyProof.Rows
section
variable {X : Cx} {o e : Expr} {es : List Expr} {to : TE} {t : TA} {name : Str} {apos cpos : Pos} {T id : String} {r : V → List V → Hp → VK → Prop}
theorem pe_bmK (K : PySem.W.Frag) (hK : X.K = K) (pa : PlainAttrs T) (slot : Slot T name id) (hty : typeOf (.builtin id) = pure (.type "method_descriptor")) (hm : MtR X id r) (ho : PE X o to) (ha : PA X (e :: es) t)
    (hbase : attributeBase o name X.env (eval o X.env) = eval o X.env := by rfl)
    (hfew : ((backTo cpos (starEach (e :: es) X.env)).all (fun x => !x.1) && (backToKw cpos (keywordEach [] X.env)).all (fun x => x.1.isSome)
      && decide ((e :: es).length + ([] : List Keyword).length + (if ([] : List Keyword).isEmpty then 0 else 1) < 30)) = true := by rfl)
    (hline : (apos.endLine == cpos.line) = true := by rfl) (hs : starEach (e :: es) X.env = (false, eval e X.env) :: starEach es X.env := by rfl) (hplain : (backTo cpos (starEach es X.env)).any (·.1) = false := by rfl) :
    PE X (.Call (.Attribute o name apos) (e :: es) [] cpos) (tBM K T r to t) := by
  subst hK
  exact pe_bm pa slot hty hm ho ha hbase hfew hline hs hplain
end
theorem find_nat {O : List Nat} {x : Nat} (h : x ∈ O) : ∃ j : Nat, O[j]? = some x ∧ ∀ (m z : Nat), m < j → O[m]? = some z → z ≠ x := by
  induction O with
  | nil => cases h
  | cons y O ih =>
    by_cases e : y = x
    · exact ⟨0, by rw [e]; rfl, fun m z hm => absurd hm (Nat.not_lt_zero _)⟩
    · obtain ⟨j, h1, h2⟩ := ih (by rcases List.mem_cons.mp h with q | q; exact absurd q.symm e; exact q)
      refine ⟨j + 1, by simpa using h1, fun m z hm hz => ?_⟩
      cases m with
      | zero => simp at hz; subst hz; exact e
      | succ m => exact h2 m z (by omega) (by simpa using hz)
theorem nodup_snoc {O : List Nat} {x : Nat} (h : O.Nodup) (hx : x ∉ O) : (O ++ [x]).Nodup := by
  rw [(List.perm_append_singleton x O).nodup_iff, List.nodup_cons]
  exact ⟨hx, h⟩
/-- the rooms gone through: what is good and led to from those ahead of a place stands in the list -/
structure Ord (E : Nat → List Nat) (g : Nat → Bool) (n s : Nat) (O : List Nat) (a : Nat) : Prop where
  nd : O.Nodup
  lt : ∀ x, x ∈ O → x < n
  fst : O[0]? = some s
  le : a ≤ O.length
  cl : ∀ (i k : Nat), i < a → O[i]? = some k → ∀ j, j ∈ E k → g j = true → j ∈ O
  rch : ∀ x, x ∈ O → RT E s x
  gd : ∀ x, x ∈ O → x = s ∨ g x = true
section
variable {E : Nat → List Nat} {g : Nat → Bool} {n s : Nat} {O : List Nat} {a x : Nat}
theorem Ord.start (h : s < n) : Ord E g n s [s] 0 := by
  refine ⟨by simp, fun x hx => ?_, rfl, Nat.zero_le _, fun i k hi => absurd hi (Nat.not_lt_zero _), fun x hx => ?_, fun x hx => .inl (List.mem_singleton.mp hx)⟩
  · rw [List.mem_singleton.mp hx]; exact h
  · rw [List.mem_singleton.mp hx]; exact .refl _
theorem Ord.len (h : Ord E g n s O a) : O.length ≤ n := nodup_le h.nd h.lt
theorem Ord.more (h : Ord E g n s O a) (hx : x ∉ O) (hl : x < n) (hr : RT E s x) (hg0 : g x = true) : Ord E g n s (O ++ [x]) a := by
  have hO : 0 < O.length := by
    have := h.fst
    cases O with
    | nil => cases this
    | cons y O => simp
  refine ⟨nodup_snoc h.nd hx, fun y hy => ?_, by rw [List.getElem?_append_left hO]; exact h.fst, by rw [List.length_append]; have := h.le; omega, fun i k hi hk p hp hg => ?_, fun y hy => ?_, fun y hy => ?_⟩
  · rcases List.mem_append.mp hy with hy | hy
    · exact h.lt y hy
    · rw [List.mem_singleton.mp hy]; exact hl
  · have hio : i < O.length := Nat.lt_of_lt_of_le hi h.le
    rw [List.getElem?_append_left hio] at hk
    exact List.mem_append_left _ (h.cl i k hi hk p hp hg)
  · rcases List.mem_append.mp hy with hy | hy
    · exact h.rch y hy
    · rw [List.mem_singleton.mp hy]; exact hr
  · rcases List.mem_append.mp hy with hy | hy
    · exact h.gd y hy
    · rw [List.mem_singleton.mp hy]; exact .inr hg0
theorem Ord.next {k : Nat} (h : Ord E g n s O a) (hk : O[a]? = some k) (hc : ∀ j, j ∈ E k → g j = true → j ∈ O) : Ord E g n s O (a + 1) := by
  refine ⟨h.nd, h.lt, h.fst, (List.getElem?_eq_some_iff.mp hk).1, fun i j hi hj p hp hg => ?_, h.rch, h.gd⟩
  by_cases e : i = a
  · subst e
    rw [hk] at hj
    cases hj
    exact hc p hp hg
  · exact h.cl i j (by omega) hj p hp hg
theorem Ord.end (h : Ord E g n s O O.length) : ∀ k, k ∈ O → ∀ j, j ∈ E k → g j = true → j ∈ O := by
  intro k hk
  obtain ⟨i, hi, e⟩ := List.getElem_of_mem hk
  exact h.cl i k hi (by rw [List.getElem?_eq_getElem hi, e])
end
section
variable {P : Program} {w : World} {K : PySem.W.Frag} {mg : Str → Option Value} {base : Heap}
abbrev n_law_gtrim : List Str := ["rooms", "good", "order", "at", "sign", "there", "found", "k", "leads"]
theorem sc_law_gtrim : FnScope n_law_gtrim ["rooms"] (defScope s_law_gtrim) := ⟨rfl, rfl, rfl, by decide +kernel, rfl, by decide +kernel, by decide +kernel⟩
/-- some room ends -/
def HasEnd (M : List Rm) : Prop := ∃ r, r ∈ M ∧ r.1 = true
/-- from each room an end is come to -/
def AllEnd (M : List Rm) : Prop := ∀ k, k < M.length → ∃ e, e < M.length ∧ endR M e = true ∧ RT (Eg M) k e
def spTrim (K : PySem.W.Frag) : Sp := fun vs H Q _ => ∃ (rl : Addr) (rs : List V) (M : List Rm), vs = [.ref rl] ∧ H rl = some (.lst rs) ∧ DpAll K H rs (M.map rmD) ∧ MOk M ∧
  ∀ H' v (N : List Rm), Same H H' → Dp K H' v (maD N) → MOk N → HasEnd N → AllEnd N → N.length ≤ M.length → (∀ t, t ∈ sgs N → t ∈ sgs M) → Q v H'
theorem ok_law_gtrim (F : DefAt K mg "_law_gtrim" s_law_gtrim ["rooms"]) (d__law_gto_end : DefOk P w K mg base "_law_gto_end" 1 ["rooms"] (spToEnd K)) (b_len : mg "len" = none) (b_tuple : mg "tuple" = none) : DefOk P w K mg base "_law_gtrim" 2 ["rooms"] (spTrim K) := by
  refine F.ok sc_law_gtrim (fun vs H Q E h => ?_) (fun f cdv A outer s H vs Q E hr h => ?_)
  · obtain ⟨_, _, _, rfl, _⟩ := h
    rfl
  obtain ⟨rl0, rs0, M0, rfl, hrl0, hrs0, hM0, k⟩ := h
  obtain ⟨t2, h2, f2⟩ : ∃ t2, PSs (cxOf CX0 P w K mg base n_law_gtrim "_law_gtrim" (defScope s_law_gtrim) f cdv A outer s H E).nox ((defBody s_law_gtrim).drop 1) t2 ∧
      ∀ (rl : Addr) (rs : List V) (M : List Rm) (H1 : Hp), Same H H1 → H1 rl = some (.lst rs) → DpAll K H1 rs (M.map rmD) → MOk M → 0 ∈ teF M → M.length ≤ M0.length → (∀ t, t ∈ sgs M → t ∈ sgs M0) → t2 { nx := fun _ H' => Q .non H', rt := Q } [some (.ref rl), none, none, none, none, none, none, none, none] H1 := by
    refine ⟨_, (pss_cons (ps_set (i := 1) sc_law_gtrim.nd rfl (Or.inr rfl) (pe_callD d__law_gto_end (hr.mono (by decide)) rfl (pa_cons (pv 0) pa_nil)))
    (pss_cons (ps_set (i := 2) sc_law_gtrim.nd rfl (Or.inr rfl) (pe_lst (pa_cons pe_int pa_nil)))
    (pss_cons (ps_set (i := 3) sc_law_gtrim.nd rfl (Or.inl rfl) pe_int)
    (pss_cons (ps_while PassesOwn.never (pt_cmpR op_lt (pv 3) (pe_callB call_len_seq (by rfl) b_len PySem.boot_len (pa_cons (pv 2) pa_nil)) (nomark _)) (pss_cons (ps_for PassesOwn.never rfl (pi_tup (pe_ix ix_tup (pe_ix ix_list (pv 0) (pe_ix ix_list (pv 2) (pv 3) (fun _ _ => rfl)) (fun _ _ => rfl)) pe_int (fun _ _ => rfl))) (pg_tup rfl (pgs_cons (pg_name (i := 4) sc_law_gtrim.nd rfl (Or.inl rfl)) (pgs_cons (pg_name (i := 5) sc_law_gtrim.nd rfl (Or.inl rfl)) pgs_nil)))
      (pss_one (ps_if (PW.pt (pw_and (pt_cmpR op_in_seq (pv 5) (pv 1) (by rfl)) (pw_and1 (pt_cmpR op_notIn_seq (pv 5) (pv 2) (by rfl))))) (pss_one (ps_expr (pe_bm PySem.F.plainAttrs_list PySem.F.slot_list_append PySem.F.type_list_append mt_append (pv 2) (pa_cons (pv 5) pa_nil)))) pss_nil)))
    (pss_one (ps_set (i := 3) sc_law_gtrim.nd rfl (Or.inl rfl) (pe_op op_add (pv 3) pe_int)))))
    (pss_cons (ps_set (i := 6) sc_law_gtrim.nd rfl (Or.inl rfl) (pe_lst pa_nil))
    (pss_cons (ps_for PassesOwn.never rfl (pi_list (pv 2)) (pg_name (i := 7) sc_law_gtrim.nd rfl (Or.inl rfl))
      (pss_cons (ps_setLc (i := 8) (own := [("sign", 4), ("there", 5)]) (g := gTup K 2 (gCons (gName 4) (gCons (gName 5) gNil))) rfl sc_law_gtrim.nd rfl rfl (sw_true rfl rfl rfl (by decide +kernel)) (pi_tup (pe_ix ix_tup (pe_ix ix_list (pv 0) (pv 7) (fun _ _ => rfl)) pe_int (fun _ _ => rfl))) (blkOk_by (own := [("sign", 4), ("there", 5)]) (N := n_law_gtrim) (sc := defScope s_law_gtrim) (by decide +kernel)) (fun _ _ _ _ _ => (pg_tup rfl (pgs_cons (pg_name (i := 4) sc_law_gtrim.nd rfl (Or.inl rfl)) (pgs_cons (pg_name (i := 5) sc_law_gtrim.nd rfl (Or.inl rfl)) pgs_nil)))) (fun _ _ _ _ _ => (pts_one (pt_cmpR (r := rIn K false) op_in_seq (pv 5) (pv 1) (by rfl)))) (fun _ _ _ _ _ => (pe_tup (pa_cons (pv 4) (pa_cons (pe_bmK K rfl (r := rIndex K) PySem.F.plainAttrs_list PySem.F.slot_list_index PySem.F.type_list_index mt_index (pv 2) (pa_cons (pv 5) pa_nil)) pa_nil)))))
    (pss_one (ps_expr (pe_bm PySem.F.plainAttrs_list PySem.F.slot_list_append PySem.F.type_list_append mt_append (pv 6) (pa_cons (pe_tup (pa_cons (pe_ix ix_tup (pe_ix ix_list (pv 0) (pv 7) (fun _ _ => rfl)) pe_int (fun _ _ => rfl)) (pa_cons (pe_callTy call_tuple_of (by rfl) b_tuple (by decide +kernel) (pa_cons (pv 8) pa_nil)) pa_nil))) pa_nil))))))
    (pss_one (ps_ret (pe_callTy call_tuple_of (by rfl) b_tuple (by decide +kernel) (pa_cons (pv 6) pa_nil)))))))))), ?_⟩
    intro rl rs M H1 s1 hrl hrs hM h0G hML hMS
    have hfd := teF_found M
    obtain ⟨G, eG⟩ : ∃ G, G = teF M := ⟨_, rfl⟩
    rw [← eG] at hfd h0G
    have hlen := dpsLen hrs
    rw [List.length_map] at hlen
    refine ⟨_, rfl, rl, rs, M, rfl, hrl, hrs, hM.le, hM.deg, fun H2 gl s2 hgl ngl => ⟨(by show 1 ≤ sizeLine; decide), fun ol nol => ?_⟩⟩
    rw [← eG] at hgl
    have ngo : gl ≠ ol := ne_of_none hgl nol
    have hrl2 := s2 _ _ hrl
    have hrs2 := dpsS s2 hrs
    have nro : rl ≠ ol := ne_of_none hrl2 nol
    refine ⟨fun m σ H' => ∃ (O : List Nat) (a : Nat) (o4 o5 : Option V), σ = [some (.ref rl), some (.ref gl), some (.ref ol), some (.int (a : Int)), o4, o5, none, none, none] ∧ m = M.length - a ∧ Same H2 H' ∧ H' ol = some (.lst (natV O)) ∧ Ord (Eg M) (fun j => decide (j ∈ G)) M.length 0 O a, ⟨_, [0], 0, none, none, rfl, rfl, .new nol, upd_same, .start hM.pos⟩, ?_⟩
    rintro m σ H3 ⟨O, a, o4, o5, rfl, rfl, s3, hO, hord⟩
    refine ⟨_, rfl, _, rfl, ol, _, rfl, .inl (sL hO), _, _, rfl, rfl, _, rfl, ?_⟩
    rw [ints_len]
    refine ite2 (fun hlt => ?_) (fun hge => ?_)
    · have ha : a < O.length := by have := of_decide_eq_true hlt; omega
      obtain ⟨x, hx⟩ : ∃ x, O[a]? = some x := ⟨_, List.getElem?_eq_getElem ha⟩
      have hxl := hord.lt x (List.mem_of_getElem? hx)
      obtain ⟨r, hr'⟩ : ∃ r, M[x]? = some r := ⟨_, List.getElem?_eq_getElem hxl⟩
      have hrM := List.mem_of_getElem? hr'
      have hEg : Eg M x = r.2.map (·.2) := by unfold Eg; rw [stepsOf_at hr']
      obtain ⟨ra, b, ls, e1, e2, e3, e4⟩ := rmsAt hrs2 hr'
      refine ⟨fun σ' H' => ∃ (O : List Nat) (o4 o5 : Option V), σ' = [some (.ref rl), some (.ref gl), some (.ref ol), some (.int ((a + 1 : Nat) : Int)), o4, o5, none, none, none] ∧ Same H2 H' ∧ H' ol = some (.lst (natV O)) ∧ Ord (Eg M) (fun j => decide (j ∈ G)) M.length 0 O (a + 1),
        fun σ' H' ⟨O', o4, o5, z, g, hO', ho'⟩ => ⟨_, by have := hord.len; omega, O', a + 1, o4, o5, z, rfl, g, hO', ho'⟩, ?_⟩
      refine ⟨_, rfl, _, rfl, _, rfl, ol, _, _, _, rfl, rfl, sL hO, atI_nat (ints_at hx), rl, _, _, _, rfl, rfl, sL (s3 _ _ hrl2), atI_nat e1, ra, _, 1, _, rfl, rfl, s3.sqT e2, atI_nat (j := 1) rfl, b, rfl, ⟨_, s3.sqT e3⟩, ?_⟩
      refine for_tup (K := K) (a := b) (xs := ls) (fun j σ H' => ∃ (O : List Nat) (o4 o5 : Option V), σ = [some (.ref rl), some (.ref gl), some (.ref ol), some (.int (a : Int)), o4, o5, none, none, none] ∧ Same H2 H' ∧ H' ol = some (.lst (natV O)) ∧ Ord (Eg M) (fun j => decide (j ∈ G)) M.length 0 O a ∧ O[a]? = some x ∧ ∀ p, p ∈ r.2.take j → p.2 ∈ G → p.2 ∈ O)
        ⟨O, o4, o5, rfl, s3, hO, hord, hx, fun p hp => by simp at hp⟩ (fun j σ H' _ ⟨_, _, _, _, g, _⟩ => g.sqT e3) ?_ ?_
      · rintro j v σ H4 hv ⟨O, o4, o5, rfl, s4, hO, hord, hx, hc⟩
        obtain ⟨p, pa, hp, rfl, hpa⟩ := stsAt e4 hv
        have hpM := List.mem_of_getElem? hp
        have hl := hord.len
        refine ⟨pa, _, rfl, s4.sqT hpa, rfl, _, _, rfl, _, _, rfl, rfl, ?_⟩
        refine ⟨_, rfl, _, rfl, gl, _, rfl, .inl (sL (s4 _ _ hgl)), rfl, ints_flat G, _, rfl, ite2 (fun hin => ?_) (fun hno => iteF ?_)⟩
        · have hin' : p.2 ∈ G := by simpa [ints_in] using hin
          refine ⟨_, rfl, _, rfl, ol, _, rfl, .inl (sL hO), rfl, ints_flat O, _, rfl, ite2 (fun hn => ?_) (fun hy => ?_)⟩
          · have hn' : p.2 ∉ O := by simpa [ints_in] using hn
            refine ⟨_, rfl, .inl ⟨rfl, _, .inl (.inl hO)⟩, _, rfl, ol, _, _, rfl, rfl, hO, szb (by rw [ints_len]; have := hM.le; omega), ?_⟩
            have hm : Ord (Eg M) (fun j => decide (j ∈ G)) M.length 0 (O ++ [p.2]) a := hord.more hn' (hM.tgt r hrM p hpM) ((hord.rch x (List.mem_of_getElem? hx)).snoc (by rw [hEg]; exact List.mem_map_of_mem hpM)) (decide_eq_true hin')
            refine ⟨O ++ [p.2], _, _, rfl, s4.mut nol, by rw [upd_same, ints_app]; rfl, hm, by rw [List.getElem?_append_left (List.getElem?_eq_some_iff.mp hx).1]; exact hx, fun q hq hg => ?_⟩
            rw [take_snoc hp] at hq
            rcases List.mem_append.mp hq with hq | hq
            · exact List.mem_append_left _ (hc q hq hg)
            · rw [List.mem_singleton.mp hq]; simp
          · have hy' : p.2 ∈ O := by simpa [ints_in] using hy
            refine ⟨O, _, _, rfl, s4, hO, hord, hx, fun q hq hg => ?_⟩
            rw [take_snoc hp] at hq
            rcases List.mem_append.mp hq with hq | hq
            · exact hc q hq hg
            · rw [List.mem_singleton.mp hq]; exact hy'
        · have hno' : p.2 ∉ G := by simpa [ints_in] using hno
          refine ⟨O, _, _, rfl, s4, hO, hord, hx, fun q hq hg => ?_⟩
          rw [take_snoc hp] at hq
          rcases List.mem_append.mp hq with hq | hq
          · exact hc q hq hg
          · rw [List.mem_singleton.mp hq] at hg; exact absurd hg hno'
      · rintro σ H4 ⟨O, o4, o5, rfl, s4, hO, hord, hx, hc⟩
        have hls := dpsLen e4
        rw [List.length_map] at hls
        rw [hls, List.take_length] at hc
        refine ⟨_, rfl, _, _, rfl, rfl, ?_⟩
        refine ⟨O, _, _, by rw [Int.natCast_add]; rfl, s4, hO, hord.next hx fun j hj hg => ?_⟩
        rw [hEg] at hj
        obtain ⟨p, hp, rfl⟩ := List.mem_map.mp hj
        exact hc p hp (of_decide_eq_true hg)
    · have ha : a = O.length := by
        have := hord.le
        have : ¬ ((a : Int) < (O.length : Int)) := fun q => hge (decide_eq_true q)
        omega
      subst ha
      have hcl := hord.end
      have hl := hord.len
      have hMl := hM.le
      refine ⟨(by show 0 ≤ sizeLine; decide), fun D nD => ?_⟩
      have nDo : D ≠ ol := (ne_of_none hO nD).symm
      have sD : Same H3 (upd H3 D (.lst [])) := .new nD
      refine ⟨_, rfl, ol, rfl, ⟨_, sL (sD _ _ hO)⟩, ?_⟩
      refine for_list (K := K) (a := ol) (xs := natV O) (fun i σ H' => ∃ (ns : List V) (N : List Rm) (o4 o5 o7 o8 : Option V), σ = [some (.ref rl), some (.ref gl), some (.ref ol), some (.int (O.length : Int)), o4, o5, some (.ref D), o7, o8] ∧ Same H3 H' ∧ H' D = some (.lst ns) ∧ DpAll K H' ns (N.map rmD) ∧ N.length = i ∧ ROk O.length N ∧ N.map (·.1) = (O.take i).map (endR M) ∧ (∀ t, t ∈ sgs N → t ∈ sgs M) ∧ ∀ (i' : Nat) (r' : Rm) (x' : Nat), N[i']? = some r' → O[i']? = some x' → ∀ j, j ∈ Eg M x' → j ∈ G → ∃ q, q ∈ r'.2 ∧ O[q.2]? = some j)
        ⟨[], [], o4, o5, none, none, rfl, sD, upd_same, .nil, rfl, ⟨fun r h => (by cases h), fun r h => (by cases h), fun r h => (by cases h), fun r h => (by cases h)⟩, by simp, fun t h => (by cases h), fun i' r' x' h => (by simp at h)⟩ (fun i σ H' _ ⟨_, _, _, _, _, _, _, g, _⟩ => sL (g _ _ hO)) ?_ ?_
      · rintro i v σ H4 hv ⟨ns, N, o4, o5, o7, o8, rfl, s4, hD, hns, hNl, hNo, hNe, hNS, hNG⟩
        obtain ⟨x, hx, rfl⟩ := ints_get hv
        have hxO := List.mem_of_getElem? hx
        obtain ⟨r, hr'⟩ : ∃ r, M[x]? = some r := ⟨_, List.getElem?_eq_getElem (hord.lt x hxO)⟩
        have hrM := List.mem_of_getElem? hr'
        have hEg : Eg M x = r.2.map (·.2) := by unfold Eg; rw [stepsOf_at hr']
        obtain ⟨ra, b, ls, e1, e2, e3, e4⟩ := rmsAt hrs2 hr'
        have s24 := s3.trans s4
        have hls := dpsLen e4
        rw [List.length_map] at hls
        refine ⟨_, rfl, _, rfl, rl, _, _, _, rfl, rfl, sL (s24 _ _ hrl2), atI_nat e1, ra, _, 1, _, rfl, rfl, s24.sqT e2, atI_nat (j := 1) rfl, b, rfl, ⟨_, s24.sqT e3⟩, fun A nA => ?_⟩
        refine lc_tup (K := K) (a := b) (xs := ls) (fun m H' => ∃ (as : List V) (L : List Stp), Same H4 H' ∧ H' A = some (.lst as) ∧ DpAll K H' as (L.map stD) ∧ L.length ≤ m ∧ (∀ p, p ∈ L → p.2 < O.length) ∧ (∀ p, p ∈ L → PyData.strOk p.1 = true) ∧ (L.map (·.1)).Sublist ((r.2.take m).map (·.1)) ∧ ∀ p, p ∈ r.2.take m → p.2 ∈ G → ∃ q, q ∈ L ∧ O[q.2]? = some p.2)
          ⟨[], [], .new nA, upd_same, .nil, Nat.le_refl _, fun p h => (by cases h), fun p h => (by cases h), List.nil_sublist _, fun p h => (by simp at h)⟩ (fun m H' _ ⟨_, _, g, _⟩ => (s24.trans g).sqT e3) ?_ ?_
        · rintro m v H5 hv ⟨as, L, s5, hA, has, hLl, hL1, hL2, hL3, hL4⟩
          obtain ⟨p, pa, hp, rfl, hpa⟩ := stsAt e4 hv
          have hpM := List.mem_of_getElem? hp
          have hm := (List.getElem?_eq_some_iff.mp hv).1
          have hdeg := hM.deg r hrM
          have s25 := s24.trans s5
          have hO5 := (s4.trans s5) _ _ hO
          refine ⟨pa, _, rfl, s25.sqT hpa, rfl, _, _, rfl, _, _, rfl, rfl, rfl, ?_⟩
          refine ⟨_, rfl, _, rfl, gl, _, rfl, .inl (sL (s25 _ _ hgl)), rfl, ints_flat G, _, rfl, ite2 (fun hin => ?_) (fun hout => ?_)⟩
          · have hin' : p.2 ∈ G := by simpa [ints_in] using hin
            have hpO : p.2 ∈ O := hcl x hxO p.2 (by rw [hEg]; exact List.mem_map_of_mem hpM) (decide_eq_true hin')
            obtain ⟨j, hj1, hj2⟩ := find_nat hpO
            have hjl := (List.getElem?_eq_some_iff.mp hj1).1
            refine ⟨_, rfl, _, rfl, .inl ⟨rfl, _, .inl (.inl hO5)⟩, _, rfl, ol, natV O, .int (p.2 : Int), j, .int (p.2 : Int), rfl, rfl, sL hO5, rfl, ints_flat O, ints_at hj1, by simp [eqV], fun m' z' hm' hz' => ?_, (by show 2 ≤ sizeLine; decide), fun t nt => ?_⟩
            · obtain ⟨z, hz, rfl⟩ := ints_get hz'
              have := hj2 m' z hm' hz
              simp [eqV]
              omega
            · refine ⟨as, Same.new nt _ _ hA, szb (by have := dpsLen has; rw [List.length_map] at this; omega), as ++ [.ref t], L ++ [(p.1, j)], (s5.trans (.new nt)).mut nA, upd_same, stepAdd hA has nt, by rw [List.length_append, List.length_singleton]; omega, fun q hq => ?_, fun q hq => ?_, by rw [take_snoc hp]; exact Inc.snoc_sub hL3 rfl, fun q hq hg => ?_⟩
              · rcases List.mem_append.mp hq with hq | hq
                · exact hL1 q hq
                · rw [List.mem_singleton.mp hq]; exact hjl
              · rcases List.mem_append.mp hq with hq | hq
                · exact hL2 q hq
                · rw [List.mem_singleton.mp hq]; exact hM.str r hrM p hpM
              · rw [take_snoc hp] at hq
                rcases List.mem_append.mp hq with hq | hq
                · obtain ⟨q', h1, h2⟩ := hL4 q hq hg
                  exact ⟨q', List.mem_append_left _ h1, h2⟩
                · rw [List.mem_singleton.mp hq]
                  exact ⟨(p.1, j), by simp, hj1⟩
          · refine ⟨as, L, s5, hA, has, by omega, hL1, hL2, hL3.trans (List.Sublist.map _ (List.take_sublist_take_left (by omega))), fun q hq hg => ?_⟩
            rw [take_snoc hp] at hq
            rcases List.mem_append.mp hq with hq | hq
            · exact hL4 q hq hg
            · rw [List.mem_singleton.mp hq] at hg
              exact absurd hg (by simpa [ints_in] using hout)
        · rintro H5 ⟨as, L, s5, hA, has, hLl, hL1, hL2, hL3, hL4⟩
          have hdeg := hM.deg r hrM
          have s25 := s24.trans s5
          have hD5 := s5 _ _ hD
          have hnl := dpsLen hns
          rw [List.length_map] at hnl
          have hi := (List.getElem?_eq_some_iff.mp hv).1
          rw [ints_len] at hi
          refine ⟨_, rfl, .inl ⟨rfl, _, .inl (.inl hD5)⟩, _, rfl, _, rfl, rl, _, _, _, rfl, rfl, sL (s25 _ _ hrl2), atI_nat e1, ra, _, 0, _, rfl, rfl, s25.sqT e2, atI_nat (j := 0) rfl, ?_⟩
          refine ⟨_, rfl, A, as, rfl, .inl ⟨sL hA, fun l nl => ⟨(by show 2 ≤ sizeLine; decide), fun t nt => ?_⟩⟩⟩
          refine ⟨D, ns, _, rfl, rfl, Same.new nt _ _ (Same.new nl _ _ hD5), szb (by omega), ?_⟩
          refine ⟨ns ++ [.ref t], N ++ [(r.1, L)], _, _, _, _, rfl, (s4.trans (s5.trans ((Same.new nl).trans (.new nt)))).mut nD, upd_same, roomAdd hD5 (dpsS s5 hns) has nl nt, by rw [List.length_append, List.length_singleton, hNl], ?_, by rw [List.map_append, hNe, take_snoc hx, List.map_append]; simp [endR_at hr'], fun t ht => ?_, fun i' r' x' hi' hx' j hj hjG => ?_⟩
          refine ⟨fun q hq => ?_, fun q hq => ?_, fun q hq => ?_, fun q hq => ?_⟩
          · rcases List.mem_append.mp hq with hq | hq
            · exact hNo.deg q hq
            · rw [List.mem_singleton.mp hq]; show L.length ≤ 6; omega
          · rcases List.mem_append.mp hq with hq | hq
            · exact hNo.tgt q hq
            · rw [List.mem_singleton.mp hq]; exact hL1
          · rcases List.mem_append.mp hq with hq | hq
            · exact hNo.str q hq
            · rw [List.mem_singleton.mp hq]; exact hL2
          · rcases List.mem_append.mp hq with hq | hq
            · exact hNo.inc q hq
            · rw [List.mem_singleton.mp hq]
              rw [hls, List.take_length] at hL3
              exact (hM.inc r hrM).sub hL3
          · rw [sgs_snoc] at ht
            rcases List.mem_append.mp ht with ht | ht
            · exact hNS t ht
            · have h1 := hL3.subset ht
              obtain ⟨p, hp, rfl⟩ := List.mem_map.mp h1
              exact sgs_mem.mpr ⟨r, p, hrM, List.mem_of_mem_take hp, rfl⟩
          · by_cases e : i' < N.length
            · rw [List.getElem?_append_left e] at hi'
              exact hNG i' r' x' hi' hx' j hj hjG
            · have e2 : i' = N.length := by
                have := (List.getElem?_eq_some_iff.mp hi').1
                rw [List.length_append, List.length_singleton] at this
                omega
              rw [e2, List.getElem?_append_right (Nat.le_refl _), Nat.sub_self] at hi'
              have e3 : r' = (r.1, L) := (Option.some.inj hi').symm
              rw [e2, hNl, hx] at hx'
              have e4 : x' = x := (Option.some.inj hx').symm
              rw [e4, hEg] at hj
              rw [hls, List.take_length] at hL4
              obtain ⟨p, hp, rfl⟩ := List.mem_map.mp hj
              obtain ⟨q, h1, h2⟩ := hL4 p hp hjG
              exact ⟨q, by rw [e3]; exact h1, h2⟩
      · rintro σ H4 ⟨ns, N, o4, o5, o7, o8, rfl, s4, hD, hns, hNl, hNo, hNe, hNS, hNG⟩
        rw [ints_len] at hNl
        have hpos : 0 < O.length := by
          have := (List.getElem?_eq_some_iff.mp hord.fst).1
          exact this
        have hend : HasEnd N := by
          obtain ⟨A, B, eA⟩ := List.append_of_mem h0G
          have h0O : 0 ∈ O := List.mem_of_getElem? hord.fst
          obtain ⟨x, hx, hxe⟩ := hfd.has (O := O) (fun k hk j hj hg => hcl k hk j hj (decide_eq_true hg)) A.length A 0 B (Nat.le_refl _) eA h0O
          rw [ints_len, List.take_length] at hNe
          have : true ∈ N.map (·.1) := by rw [hNe]; exact List.mem_map.mpr ⟨x, hx, hxe⟩
          obtain ⟨r, hr, e⟩ := List.mem_map.mp this
          exact ⟨r, hr, e⟩
        have hend' : AllEnd N := by
          rw [ints_len, List.take_length] at hNe
          have endN : ∀ i x, O[i]? = some x → endR N i = endR M x := fun i x hi => by
            have h1 : (N.map (·.1))[i]? = some (endR M x) := by rw [hNe, List.getElem?_map, hi]; rfl
            rw [List.getElem?_map] at h1
            obtain ⟨r, hr, e⟩ := Option.map_eq_some_iff.mp h1
            rw [endR_at hr]
            exact e
          have main : ∀ n A x B, A.length ≤ n → G = A ++ x :: B → ∀ i, O[i]? = some x → ∃ e, e < N.length ∧ endR N e = true ∧ RT (Eg N) i e := by
            intro n
            induction n with
            | zero =>
              intro A x B hA e i hi
              have hiN : i < N.length := by have := (List.getElem?_eq_some_iff.mp hi).1; omega
              rcases hfd A x B e with q | ⟨j, _, hj⟩
              · exact ⟨i, hiN, by rw [endN i x hi]; exact q, .refl _⟩
              · rw [List.eq_nil_of_length_eq_zero (Nat.le_zero.mp hA)] at hj
                cases hj
            | succ n ih =>
              intro A x B hA e i hi
              have hiN : i < N.length := by have := (List.getElem?_eq_some_iff.mp hi).1; omega
              rcases hfd A x B e with q | ⟨j, hj1, hj2⟩
              · exact ⟨i, hiN, by rw [endN i x hi]; exact q, .refl _⟩
              · obtain ⟨A1, A2, rfl⟩ := List.append_of_mem hj2
                rw [List.length_append, List.length_cons] at hA
                have hjG : j ∈ G := by rw [e]; simp
                obtain ⟨q, h1, h2⟩ := hNG i N[i] x (List.getElem?_eq_getElem hiN) hi j hj1 hjG
                obtain ⟨e', g1, g2, g3⟩ := ih A1 j (A2 ++ x :: B) (by omega) (by rw [e]; simp) q.2 h2
                refine ⟨e', g1, g2, .step ?_ g3⟩
                unfold Eg
                rw [stepsOf_at (List.getElem?_eq_getElem hiN)]
                exact List.mem_map_of_mem h1
          intro i hi
          obtain ⟨x, hx⟩ : ∃ x, O[i]? = some x := ⟨_, List.getElem?_eq_getElem (by omega)⟩
          have hxG : x ∈ G := by
            rcases hord.gd x (List.mem_of_getElem? hx) with rfl | q
            · exact h0G
            · exact of_decide_eq_true q
          obtain ⟨A, B, eA⟩ := List.append_of_mem hxG
          exact main A.length A x B (Nat.le_refl _) eA i hx
        refine ⟨_, rfl, D, ns, rfl, .inl ⟨sL hD, fun l nl => ?_⟩⟩
        exact k _ (.ref l) N (s1.trans (s2.trans (s3.trans (s4.trans (.new nl))))) (.tup (sT upd_same) (dpsS (.new nl) hns)) ⟨by rw [hNl]; exact hNo, by omega, by omega⟩ hend hend' (by omega) (fun t ht => hMS t (hNS t ht))
  have hlen := dpsLen hrs0
  rw [List.length_map] at hlen
  refine ⟨_, (pss_cons (ps_if (pt_cmpR op_notIn_seq pe_int (pe_callD d__law_gto_end (hr.mono (by decide)) rfl (pa_cons (pv 0) pa_nil)) (by rfl)) (pss_one (ps_set (i := 0) sc_law_gtrim.nd rfl (Or.inl rfl) (pe_op op_cat (pe_lst (pa_cons (pe_tup (pa_cons pe_bl (pa_cons (pe_ix ix_tup (pe_ix ix_list (pv 0) pe_int (fun _ _ => rfl)) pe_int (fun _ _ => rfl)) pa_nil))) pa_nil)) (pe_slice sl_list (pv 0) (po_some pe_int) po_none)))) pss_nil) h2), ?_⟩
  refine ⟨_, rfl, rl0, rs0, M0, rfl, hrl0, hrs0, hM0.le, hM0.deg, fun H1 gl s1 hgl ngl => ⟨gl, _, rfl, .inl (sL hgl), rfl, ints_flat (teF M0), _, rfl, ?_⟩⟩
  have hrl1 := s1 _ _ hrl0
  have hrs1 := dpsS s1 hrs0
  refine ite2 (fun _ => ?_) (fun hy => f2 rl0 rs0 M0 H1 s1 hrl1 hrs1 hM0 (by simpa [show inV (.int 0) (natV (teF M0)) = decide (0 ∈ teF M0) from ints_in (teF M0) 0] using hy) (Nat.le_refl _) (fun t h => h))
  cases M0 with
  | nil => exact absurd hM0.pos (Nat.lt_irrefl _)
  | cons r0 M =>
    obtain ⟨ra, b, ls, e1, e2, e3, e4⟩ := rmsAt hrs1 (k := 0) (r := r0) rfl
    obtain ⟨v0, vs0, rfl, hd0, hds0⟩ := dpCons hrs1
    have ev0 : v0 = .ref ra := by simpa using e1
    subst ev0
    refine ⟨_, rfl, rl0, _, _, _, rfl, rfl, sL hrl1, atI_nat (j := 0) rfl, ra, _, 1, _, rfl, rfl, e2, atI_nat (j := 1) rfl, (by show 2 ≤ sizeLine; decide), fun t nt => ⟨(by show 1 ≤ sizeLine; decide), fun A nA => ?_⟩⟩
    have q1 : Same H1 (upd H1 t (.tup [.bl true, .ref b])) := .new nt
    have q2 : Same (upd H1 t (.tup [.bl true, .ref b])) (upd (upd H1 t (.tup [.bl true, .ref b])) A (.lst [.ref t])) := .new nA
    have hA2 : (upd (upd H1 t (.tup [.bl true, .ref b])) A (.lst [.ref t])) A = some (.lst [.ref t]) := upd_same
    have ht2 : SqT K (upd (upd H1 t (.tup [.bl true, .ref b])) A (.lst [.ref t])) t [.bl true, .ref b] := q2.sqT (sT upd_same)
    have q12 := q1.trans q2
    generalize upd (upd H1 t (.tup [.bl true, .ref b])) A (.lst [.ref t]) = H2 at hA2 ht2 q12 ⊢
    refine ⟨_, rfl, _, rfl, rl0, _, rfl, sL (q12 _ _ hrl1), fun B nB => ?_⟩
    have ecut : cutV (V.ref ra :: vs0) (some 1) none = vs0 := by
      unfold cutV
      have e1 : HT.sIx (V.ref ra :: vs0).length 0 (some ((1 : Nat) : Int)) = 1 := by rw [HT.sIx_nat]; simp
      rw [show (some (1 : Int)) = some ((1 : Nat) : Int) from rfl, e1, HT.sIx_none]
      simp
    dsimp only
    rw [ecut]
    have q3 : Same H2 (upd H2 B (.lst vs0)) := .new nB
    refine ⟨A, B, _, _, rfl, rfl, q3 _ _ hA2, upd_same, szl (by have := hM0.le; simp at this hlen ⊢; omega), fun C nC => ?_⟩
    have q4 : Same (upd H2 B (.lst vs0)) (upd (upd H2 B (.lst vs0)) C (.lst ([.ref t] ++ vs0))) := .new nC
    have q := q12.trans (q3.trans q4)
    refine f2 C _ ((true, r0.2) :: M) _ (s1.trans q) upd_same ?_ ?_ (teF_end (by simp) rfl) (Nat.le_refl _) (fun t h => h)
    · rw [List.map_cons]
      exact .cons (.tup ((q3.trans q4).sqT ht2) (.cons (.bl _) (.cons (.tup (q.sqT e3) (dpsS q e4)) .nil))) (dpsS q hds0)
    · refine ⟨⟨fun r hr => ?_, fun r hr => ?_, fun r hr => ?_, fun r hr => ?_⟩, hM0.pos, hM0.le⟩
      · rcases List.mem_cons.mp hr with rfl | hr
        · exact hM0.deg r0 List.mem_cons_self
        · exact hM0.deg r (List.mem_cons_of_mem _ hr)
      · rcases List.mem_cons.mp hr with rfl | hr
        · exact hM0.tgt r0 List.mem_cons_self
        · exact hM0.tgt r (List.mem_cons_of_mem _ hr)
      · rcases List.mem_cons.mp hr with rfl | hr
        · exact hM0.str r0 List.mem_cons_self
        · exact hM0.str r (List.mem_cons_of_mem _ hr)
      · rcases List.mem_cons.mp hr with rfl | hr
        · exact hM0.inc r0 List.mem_cons_self
        · exact hM0.inc r (List.mem_cons_of_mem _ hr)
end
end Sw
set_option Elab.async false
set_option maxRecDepth 100000
set_option maxHeartbeats 8000000
namespace Sw
open PySem L2 PySem.Spec PyProof.Rows
section
variable {P : Program} {w : World} {K : PySem.W.Frag} {mg : Str → Option Value} {base : Heap}
abbrev n_law_gmachine : List Str := ["pen", "most", "signs", "many", "often", "near", "rooms", "k", "leads", "sign"]
theorem sc_law_gmachine : FnScope n_law_gmachine ["pen", "most", "signs"] (defScope s_law_gmachine) := ⟨rfl, rfl, rfl, by decide +kernel, rfl, by decide +kernel, by decide +kernel⟩
def spMachine (K : PySem.W.Frag) : Sp := fun vs H Q _ => ∃ (pen wl sg : Addr) (T m : Nat) (ss : List Str), vs = [.ref pen, .int (m : Int), .ref sg] ∧ 0 < m ∧ m ≤ 20 ∧ T ≤ 80000 ∧ PenAt H pen wl T ∧ H sg = some (.lst (ss.map V.str)) ∧ sg ≠ pen ∧ sg ≠ wl ∧ 0 < ss.length ∧ ss.length ≤ 6 ∧ (∀ s, s ∈ ss → PyData.strOk s = true) ∧ ss.Nodup ∧
  ∀ H' v (M : List Rm), Bt pen wl H H' → PenAt H' pen wl (T + 1000) → Dp K H' v (maD M) → MOk M → HasEnd M → AllEnd M → M.length ≤ m → (∀ t, t ∈ sgs M → t ∈ ss) → Q v H'
theorem ok_law_gmachine (F : DefAt K mg "_law_gmachine" s_law_gmachine ["pen", "most", "signs"]) (d__law_gdraw : DefOk P w K mg base "_law_gdraw" 1 ["pen", "many"] spDraw) (d__law_gtrim : DefOk P w K mg base "_law_gtrim" 2 ["rooms"] (spTrim K))
    (b_range : mg "range" = none) (b_sorted : mg "sorted" = none) (b_tuple : mg "tuple" = none) : DefOk P w K mg base "_law_gmachine" 3 ["pen", "most", "signs"] (spMachine K) := by
  refine F.ok sc_law_gmachine (fun vs H Q E h => ?_) (fun f cdv A outer s H vs Q E hr h => ?_)
  · obtain ⟨_, _, _, _, _, _, rfl, _⟩ := h
    rfl
  obtain ⟨pen, wl, sg, T, m, ss, rfl, hm0, hm1, hT, hp, hsg, nsp, nsw, hs0, hs6, hsok, hsnd, k⟩ := h
  refine ⟨_, (pss_cons (ps_set (i := 3) sc_law_gmachine.nd rfl (Or.inl rfl) (pe_op op_add pe_int (pe_callD d__law_gdraw (hr.mono (by decide)) rfl (pa_cons (pv 0) (pa_cons (pv 1) pa_nil)))))
    (pss_cons (ps_set (i := 4) sc_law_gmachine.nd rfl (Or.inl rfl) (pe_op op_add pe_int (pe_callD d__law_gdraw (hr.mono (by decide)) rfl (pa_cons (pv 0) (pa_cons pe_int pa_nil)))))
    (pss_cons (ps_set (i := 5) sc_law_gmachine.nd rfl (Or.inl rfl) (pe_callD d__law_gdraw (hr.mono (by decide)) rfl (pa_cons (pv 0) (pa_cons pe_int pa_nil))))
    (pss_cons (ps_set (i := 6) sc_law_gmachine.nd rfl (Or.inl rfl) (pe_lst pa_nil))
    (pss_cons (ps_for PassesOwn.never rfl (pi_range1 rfl b_range (pa_cons (pv 3) pa_nil)) (pg_name (i := 7) sc_law_gmachine.nd rfl (Or.inl rfl))
      (pss_cons (ps_set (i := 8) sc_law_gmachine.nd rfl (Or.inl rfl) (pe_lst pa_nil))
    (pss_cons (ps_for PassesOwn.never rfl (pi_list (pe_callB cr_sortedS (by rfl) b_sorted (by decide +kernel) (pa_cons (pv 2) pa_nil))) (pg_name (i := 9) sc_law_gmachine.nd rfl (Or.inl rfl))
      (pss_one (ps_if (pt_cmpR op_lt (pe_callD d__law_gdraw (hr.mono (by decide)) rfl (pa_cons (pv 0) (pa_cons pe_int pa_nil))) (pv 4) (nomark _)) (pss_one (ps_expr (pe_bm PySem.F.plainAttrs_list PySem.F.slot_list_append PySem.F.type_list_append mt_append (pv 8) (pa_cons (pe_tup (pa_cons (pv 9) (pa_cons (pe_ix ix_list (pe_lst (pa_cons (pe_callD d__law_gdraw (hr.mono (by decide)) rfl (pa_cons (pv 0) (pa_cons (pv 3) pa_nil))) (pa_cons (pe_op op_mod (pe_op op_add (pv 7) (pe_callD d__law_gdraw (hr.mono (by decide)) rfl (pa_cons (pv 0) (pa_cons pe_int pa_nil)))) (pv 3)) pa_nil))) (pv 5) (fun _ _ => rfl)) pa_nil))) pa_nil)))) pss_nil)))
    (pss_one (ps_expr (pe_bm PySem.F.plainAttrs_list PySem.F.slot_list_append PySem.F.type_list_append mt_append (pv 6) (pa_cons (pe_tup (pa_cons (pe_cmpR op_eq (pe_callD d__law_gdraw (hr.mono (by decide)) rfl (pa_cons (pv 0) (pa_cons pe_int pa_nil))) pe_int (nomark _)) (pa_cons (pe_callTy call_tuple_of (by rfl) b_tuple (by decide +kernel) (pa_cons (pv 8) pa_nil)) pa_nil))) pa_nil)))))))
    (pss_one (ps_ret (pe_callD d__law_gtrim (hr.mono (by decide)) rfl (pa_cons (pv 6) pa_nil))))))))), ?_⟩
  refine ⟨_, rfl, _, rfl, pen, wl, T, m, rfl, hm0, by omega, by omega, hp, fun H1 y hy b1 p1 => ⟨_, _, rfl, rfl, ?_⟩⟩
  refine ⟨_, rfl, pen, wl, T + 1, 4, rfl, by decide, by decide, by omega, p1, fun H2 o ho b2 p2 => ⟨_, _, rfl, rfl, ?_⟩⟩
  refine ⟨_, rfl, pen, wl, T + 2, 2, rfl, by decide, by decide, by omega, p2, fun H3 nr hnr b3 p3 => ⟨(by show 0 ≤ sizeLine; decide), fun R nR => ?_⟩⟩
  have b03 := b1.trans (b2.trans b3)
  have hsg3 := b03 _ _ hsg nsp nsw
  have pR := p3.ne nR
  have nsR : sg ≠ R := ne_of_none hsg3 nR
  have emany : (1 + (y : Int)) = ((y + 1 : Nat) : Int) := by omega
  dsimp only
  rw [emany]
  refine ⟨_, rfl, _, rfl, by omega, by omega, ?_⟩
  refine for_range (lo := 0) (n := (((y + 1 : Nat) : Int)).toNat) (fun i σ H' => ∃ (rs : List V) (M : List Rm) (o7 o8 o9 : Option V), σ = [some (.ref pen), some (.int (m : Int)), some (.ref sg), some (.int ((y + 1 : Nat) : Int)), some (.int (1 + (o : Int))), some (.int (nr : Int)), some (.ref R), o7, o8, o9] ∧ Bt pen wl H3 H' ∧ PenAt H' pen wl (T + 3 + 25 * i) ∧ H' R = some (.lst rs) ∧ DpAll K H' rs (M.map rmD) ∧ M.length = i ∧ ROk (y + 1) M ∧ ∀ t, t ∈ sgs M → t ∈ ss)
    ⟨[], [], none, none, none, rfl, .of (.new nR), p3.same (.new nR), upd_same, .nil, rfl, ⟨fun r h => (by cases h), fun r h => (by cases h), fun r h => (by cases h), fun r h => (by cases h)⟩, fun t h => (by cases h)⟩ ?_ ?_
  · rintro i σ H4 hi ⟨rs, M, o7, o8, o9, rfl, b4, p4, hR, hrs, hMl, hMo, hMS⟩
    have hi' : i < y + 1 := by omega
    refine ⟨(by show 0 ≤ sizeLine; decide), fun D nD => ?_⟩
    have pD := p4.ne nD
    have nDR : D ≠ R := (ne_of_none hR nD).symm
    have sD : Same H4 (upd H4 D (.lst [])) := .new nD
    have hsg4 := sD _ _ (b4 _ _ hsg3 nsp nsw)
    refine ⟨_, rfl, sg, ss, rfl, sL hsg4, by omega, fun ys S hperm hsort nS => ?_⟩
    have hup := sortedS_up hsort (hperm.nodup_iff.mpr hsnd)
    have hyl := hperm.length_eq
    have hyok : ∀ s, s ∈ ys → PyData.strOk s = true := fun s hs => hsok s (hperm.mem_iff.mp hs)
    have sS : Same (upd H4 D (.lst [])) (upd (upd H4 D (.lst [])) S (.lst (ys.map V.str))) := .new nS
    have hS0 : (upd (upd H4 D (.lst [])) S (.lst (ys.map V.str))) S = some (.lst (ys.map V.str)) := upd_same
    have hD0 := sS _ _ (upd_same (H := H4) (a := D) (o := .lst []))
    have s45 := sD.trans sS
    have nSD : S ≠ D := (ne_of_none (upd_same (H := H4) (a := D) (o := .lst [])) nS).symm
    generalize upd (upd H4 D (.lst [])) S (.lst (ys.map V.str)) = H5 at hS0 hD0 s45 sS ⊢
    have p5 := p4.same s45
    have nSp : S ≠ pen ∧ S ≠ wl := by
      have := (p4.same sD).ne nS
      exact this
    refine ⟨S, rfl, ⟨_, sL hS0⟩, ?_⟩
    have hR5 := s45 _ _ hR
    refine for_list (K := K) (a := S) (xs := ys.map V.str) (fun j σ H' => ∃ (ls : List V) (L : List Stp) (o9 : Option V), σ = [some (.ref pen), some (.int (m : Int)), some (.ref sg), some (.int ((y + 1 : Nat) : Int)), some (.int (1 + (o : Int))), some (.int (nr : Int)), some (.ref R), some (.int (0 + (i : Int))), some (.ref D), o9] ∧ Bt pen wl H4 H' ∧ PenAt H' pen wl (T + 3 + 25 * i + 3 * j) ∧ H' S = some (.lst (ys.map V.str)) ∧ H' D = some (.lst ls) ∧ DpAll K H' ls (L.map stD) ∧ L.length ≤ j ∧ (∀ p, p ∈ L → p.2 < y + 1) ∧ (∀ p, p ∈ L → PyData.strOk p.1 = true) ∧ (L.map (·.1)).Sublist (ys.take j))
      ⟨[], [], o9, rfl, .of s45, p5, hS0, hD0, .nil, Nat.le_refl _, fun p h => (by cases h), fun p h => (by cases h), List.nil_sublist _⟩ (fun j σ H' _ ⟨_, _, _, _, _, _, g, _⟩ => sL g) ?_ ?_
    · rintro j v σ H6 hv ⟨ls, L, o9, rfl, b6, p6, hS, hD, hls, hLl, hLo, hLs, hLu⟩
      rw [List.getElem?_map] at hv
      obtain ⟨x, hx, rfl⟩ : ∃ x, ys[j]? = some x ∧ v = V.str x := by
        cases e : ys[j]? with
        | none => rw [e] at hv; cases hv
        | some x => rw [e] at hv; exact ⟨x, rfl, (Option.some.inj hv).symm⟩
      have hj := (List.getElem?_eq_some_iff.mp hx).1
      refine ⟨_, rfl, pen, wl, _, 4, rfl, by decide, by decide, by omega, p6, fun H7 c hc b7 p7 => ?_⟩
      have hD7 := b7 _ _ hD pD.1 pD.2
      have hS7 := b7 _ _ hS nSp.1 nSp.2
      have hls7 := p6.dps b7 (noLs_st L) hls
      have b47 := b6.trans b7
      refine ⟨_, rfl, _, _, rfl, rfl, _, rfl, ite2 (fun _ => ?_) (fun _ => ?_)⟩
      · refine ⟨_, rfl, .inl ⟨rfl, _, .inl (.inl hD7)⟩, _, rfl, ?_⟩
        refine ⟨_, rfl, _, rfl, pen, wl, _, y + 1, rfl, by omega, by omega, by omega, p7, fun H8 u hu b8 p8 => ?_⟩
        refine ⟨_, rfl, _, rfl, pen, wl, _, 2, rfl, by decide, by decide, by omega, p8, fun H9 z hz b9 p9 => ⟨_, _, rfl, rfl, _, rfl, _, _, rfl, rfl, (by show (0 : Int) < ((y + 1 : Nat) : Int); omega), (by show 2 ≤ sizeLine; decide), fun A nA => ?_⟩⟩
        dsimp only
        obtain ⟨q1, q2⟩ := modLt (0 + (i : Int) + (z : Int)) (m := ((y + 1 : Nat) : Int)) (by omega)
        obtain ⟨e, he⟩ : ∃ e : Nat, (0 + (i : Int) + (z : Int)) % ((y + 1 : Nat) : Int) = (e : Int) := ⟨((0 + (i : Int) + (z : Int)) % ((y + 1 : Nat) : Int)).toNat, by omega⟩
        rw [he]
        have sA : Same H9 (upd H9 A (.lst [.int (u : Int), .int (e : Int)])) := .new nA
        have hA : (upd H9 A (.lst [.int (u : Int), .int (e : Int)])) A = some (.lst [.int (u : Int), .int (e : Int)]) := upd_same
        generalize upd H9 A (.lst [.int (u : Int), .int (e : Int)]) = H10 at sA hA ⊢
        have b710 := (b8.trans b9).trans (.of sA)
        have p10 := p9.same sA
        have hD10 := b710 _ _ hD7 pD.1 pD.2
        have hS10 := b710 _ _ hS7 nSp.1 nSp.2
        have hls10 := p7.dps b710 (noLs_st L) hls7
        obtain ⟨n, hn, hny⟩ : ∃ n : Nat, ([.int (u : Int), .int (e : Int)] : List V)[nr]? = some (.int (n : Int)) ∧ n < y + 1 := by
          match nr, hnr with
          | 0, _ => exact ⟨u, rfl, hu⟩
          | 1, _ => exact ⟨e, rfl, by omega⟩
        refine ⟨_, rfl, A, _, _, _, rfl, rfl, sL hA, atI_nat hn, (by show 2 ≤ sizeLine; decide), fun t nt => ?_⟩
        have st : Same H10 (upd H10 t (.tup [.str x, .int (n : Int)])) := .new nt
        have hll := dpsLen hls
        rw [List.length_map] at hll
        refine ⟨D, ls, _, rfl, rfl, st _ _ hD10, szb (by omega), ?_⟩
        have nDt : D ≠ t := ne_of_none hD10 nt
        refine ⟨ls ++ [.ref t], L ++ [(x, n)], _, rfl, (b47.trans (b710.trans (.of st))).w nD, ((p10.same st).w pD).le (by omega), by rw [upd_ne nSD]; exact st _ _ hS10, upd_same, stepAdd hD10 hls10 nt, by rw [List.length_append, List.length_singleton]; omega, fun q hq => ?_, fun q hq => ?_, by rw [take_snoc hx, List.map_append]; exact hLu.append (List.Sublist.refl _)⟩
        · rcases List.mem_append.mp hq with hq | hq
          · exact hLo q hq
          · rw [List.mem_singleton.mp hq]; exact hny
        · rcases List.mem_append.mp hq with hq | hq
          · exact hLs q hq
          · rw [List.mem_singleton.mp hq]; exact hyok x (List.mem_of_getElem? hx)
      · exact ⟨ls, L, _, rfl, b47, p7.le (by omega), hS7, hD7, hls7, by omega, hLo, hLs, hLu.trans (List.take_sublist_take_left (by omega))⟩
    · rintro σ H6 ⟨ls, L, o9, rfl, b6, p6, hS, hD, hls, hLl, hLo, hLs, hLu⟩
      rw [List.length_map, List.take_length] at hLu
      rw [List.length_map] at p6 hLl
      have hR6 := b6 _ _ hR pR.1 pR.2
      have hrs6 := p4.dps b6 (noLs_rm M) hrs
      have hrl := dpsLen hrs
      rw [List.length_map] at hrl
      refine ⟨_, rfl, .inl ⟨rfl, _, .inl (.inl hR6)⟩, ?_⟩
      refine ⟨_, rfl, pen, wl, _, 3, rfl, by decide, by decide, by omega, p6, fun H7 c hc b7 p7 => ⟨rfl, ?_⟩⟩
      have hR7 := b7 _ _ hR6 pR.1 pR.2
      have hD7 := b7 _ _ hD pD.1 pD.2
      have hrs7 := p6.dps b7 (noLs_rm M) hrs6
      have hls7 := p6.dps b7 (noLs_st L) hls
      refine ⟨_, rfl, D, ls, rfl, .inl ⟨sL hD7, fun l nl => ⟨(by show 2 ≤ sizeLine; decide), fun t nt => ?_⟩⟩⟩
      have slt := (Same.new (o := .tup ls) nl).trans (Same.new (o := .tup [.bl (decide ((V.int (c : Int)) = V.int 0)), .ref l]) nt)
      refine ⟨R, rs, _, rfl, rfl, slt _ _ hR7, szb (by omega), ?_⟩
      refine ⟨rs ++ [.ref t], M ++ [(_, L)], _, _, _, rfl, ((b4.trans (b6.trans b7)).trans (.of slt)).w nR, ((p7.same slt).w pR).le (by omega), upd_same, roomAdd hR7 hrs7 hls7 nl nt, by rw [List.length_append, List.length_singleton, hMl], ?_, fun t ht => ?_⟩
      refine ⟨fun q hq => ?_, fun q hq => ?_, fun q hq => ?_, fun q hq => ?_⟩
      · rcases List.mem_append.mp hq with hq | hq
        · exact hMo.deg q hq
        · rw [List.mem_singleton.mp hq]; show L.length ≤ 6; omega
      · rcases List.mem_append.mp hq with hq | hq
        · exact hMo.tgt q hq
        · rw [List.mem_singleton.mp hq]; exact hLo
      · rcases List.mem_append.mp hq with hq | hq
        · exact hMo.str q hq
        · rw [List.mem_singleton.mp hq]; exact hLs
      · rcases List.mem_append.mp hq with hq | hq
        · exact hMo.inc q hq
        · rw [List.mem_singleton.mp hq]; exact List.Pairwise.sublist hLu hup
      · rw [sgs_snoc] at ht
        rcases List.mem_append.mp ht with ht | ht
        · exact hMS t ht
        · exact hperm.mem_iff.mp (hLu.subset ht)
  · rintro σ H4 ⟨rs, M, o7, o8, o9, rfl, b4, p4, hR, hrs, hMl, hMo, hMS⟩
    have hMl' : M.length = y + 1 := by omega
    refine ⟨_, rfl, R, rs, M, rfl, hR, hrs, ⟨by rw [hMl']; exact hMo, by omega, by omega⟩, fun H5 v N s5 hv hN hNe hNa hNl hNs => ?_⟩
    exact k _ v N (b03.trans (b4.trans (.of s5))) ((p4.same s5).le (by omega)) hv hN hNe hNa (by omega) (fun t ht => hMS t (hNs t ht))
end
end Sw
set_option Elab.async false
set_option maxRecDepth 100000
set_option maxHeartbeats 8000000
namespace Sw
open PySem L2 PySem.Spec PyProof.Rows
theorem Eg_lt {M : List Rm} (h : MOk M) : ∀ k, k < M.length → ∀ j, j ∈ Eg M k → j < M.length := by
  intro k hk j hj
  obtain ⟨r, hr⟩ : ∃ r, M[k]? = some r := ⟨_, List.getElem?_eq_getElem hk⟩
  unfold Eg at hj
  rw [stepsOf_at hr] at hj
  obtain ⟨p, hp, rfl⟩ := List.mem_map.mp hj
  exact h.tgt r (List.mem_of_getElem? hr) p hp
def nsD (c : List Nat) : PyData := .list (c.map fun n : Nat => .int (n : Int))
def llD (L : List (List Nat)) : PyData := .list (L.map nsD)
theorem dpNats {K : PySem.W.Frag} {H : Hp} : ∀ l : List Nat, DpAll K H (natV l) (l.map fun n : Nat => PyData.int (n : Int))
  | [] => .nil
  | x :: l => .cons (.int _) (dpNats l)
theorem dpNs {K : PySem.W.Frag} {H : Hp} {a : Addr} {c : List Nat} (h : H a = some (.lst (natV c))) : Dp K H (.ref a) (nsD c) := .lst (sL h) (dpNats c)
theorem layNats : ∀ l : List Nat, PyData.canLayAll0 (l.map fun n : Nat => PyData.int (n : Int)) = true
  | [] => rfl
  | x :: l => by
    simp only [List.map_cons, PyData.canLayAll0, PyData.canLay0]
    rw [layNats l]
    rfl
theorem depthNats : ∀ l : List Nat, PyData.depthAll (l.map fun n : Nat => PyData.int (n : Int)) = 0
  | [] => rfl
  | x :: l => by simp [PyData.depthAll, PyData.depth, depthNats l]
theorem layNs (l : List Nat) : (nsD l).canLay0 = true := by simp only [nsD, PyData.canLay0]; exact layNats l
theorem depthNs (l : List Nat) : (nsD l).depth = 1 := by simp only [nsD, PyData.depth, depthNats]
theorem layLs : ∀ L : List (List Nat), PyData.canLayAll0 (L.map nsD) = true
  | [] => rfl
  | x :: l => by
    simp only [List.map_cons, PyData.canLayAll0]
    rw [layNs x, layLs l]
    rfl
theorem depthLs : ∀ L : List (List Nat), PyData.depthAll (L.map nsD) ≤ 1
  | [] => by simp [PyData.depthAll]
  | x :: l => by
    have := depthLs l
    simp only [List.map_cons, PyData.depthAll, depthNs]
    omega
theorem shNs (l : List Nat) : SeqAt.shaped (nsD l) = true := by
  unfold SeqAt.shaped
  rw [layNs, depthNs]
  rfl
theorem shLl (L : List (List Nat)) : SeqAt.shaped (llD L) = true := by
  unfold SeqAt.shaped llD
  have := depthLs L
  rw [PyData.canLay0, layLs L, PyData.depth, Bool.true_and, decide_eq_true_eq]
  omega
theorem eqvNats : ∀ c d : List Nat, PyData.eqvAll (c.map fun n : Nat => PyData.int (n : Int)) (d.map fun n : Nat => PyData.int (n : Int)) = decide (c = d)
  | [], [] => by simp [PyData.eqvAll]
  | [], y :: d => by simp [PyData.eqvAll]
  | x :: c, [] => by simp [PyData.eqvAll]
  | x :: c, y :: d => by
    simp only [List.map_cons, PyData.eqvAll, PyData.eqv, eqvNats c d]
    by_cases e : x = y
    · subst e; simp
    · have : ((x : Int) == (y : Int)) = false := by
        have q : ¬ (x : Int) = (y : Int) := by omega
        exact beq_eq_false_iff_ne.mpr q
      rw [this]
      simp [e]
theorem eqvNs (c d : List Nat) : PyData.eqv (nsD c) (nsD d) = decide (c = d) := by
  simp only [nsD, PyData.eqv]
  exact eqvNats c d
theorem any_ns (L : List (List Nat)) (c : List Nat) : ((L.map nsD).any fun z => PyData.eqv z (nsD c)) = decide (c ∈ L) := by
  rw [List.any_map, Bool.eq_iff_iff, List.any_eq_true, decide_eq_true_eq]
  constructor
  · rintro ⟨d, hd, e⟩
    have e' : PyData.eqv (nsD d) (nsD c) = true := e
    rw [eqvNs] at e'
    have : d = c := of_decide_eq_true e'
    subst this
    exact hd
  · intro h
    refine ⟨c, h, ?_⟩
    show PyData.eqv (nsD c) (nsD c) = true
    rw [eqvNs]
    simp
/-- lists of lists of numbers, all of them new -/
def LLAt (H0 H : Hp) (fl : Addr) (L : List (List Nat)) : Prop := ∃ as : List Addr, H fl = some (.lst (as.map V.ref)) ∧ Paired (fun a c => H a = some (.lst (natV c)) ∧ H0 a = none) as L ∧ H0 fl = none
theorem pairedDp {K : PySem.W.Frag} {H : Hp} {F : Addr → List Nat → Prop} (hF : ∀ a c, F a c → H a = some (.lst (natV c))) : ∀ {as : List Addr} {L : List (List Nat)}, Paired F as L → DpAll K H (as.map V.ref) (L.map nsD)
  | _, _, .nil => .nil
  | _, _, .cons r t => .cons (dpNs (hF _ _ r)) (pairedDp hF t)
theorem pairedLen {α β : Type} {F : α → β → Prop} : ∀ {as : List α} {bs : List β}, Paired F as bs → as.length = bs.length
  | _, _, .nil => rfl
  | _, _, .cons _ t => by simp [pairedLen t]
theorem LLAt.dp {K : PySem.W.Frag} {H0 H : Hp} {fl : Addr} {L : List (List Nat)} (h : LLAt H0 H fl L) : Dp K H (.ref fl) (llD L) := by
  obtain ⟨as, h1, h2, _⟩ := h
  exact .lst (sL h1) (pairedDp (fun a c q => q.1) h2)
theorem sorted_nat {G : List Nat} {ns' : List Int} (hp : ns'.Perm (G.map fun n : Nat => (n : Int))) (hs : ns'.Pairwise (· ≤ ·)) (nd : G.Nodup) : ∃ G' : List Nat, ns'.map V.int = natV G' ∧ up G' ∧ G'.Perm G := by
  have e : ns' = (ns'.map Int.toNat).map fun n : Nat => (n : Int) := by
    rw [List.map_map]
    have : ∀ x, x ∈ ns' → ((fun n : Nat => (n : Int)) ∘ Int.toNat) x = x := by
      intro x hx
      obtain ⟨g, _, rfl⟩ := List.mem_map.mp (hp.mem_iff.mp hx)
      simp
    rw [List.map_congr_left this]
    simp
  have hp' : (ns'.map Int.toNat).Perm G := by
    have := hp.map Int.toNat
    rw [List.map_map] at this
    have e2 : List.map (Int.toNat ∘ fun n : Nat => (n : Int)) G = G := by
      have : ∀ x, x ∈ G → (Int.toNat ∘ fun n : Nat => (n : Int)) x = x := fun x _ => by simp
      rw [List.map_congr_left this]
      simp
    rwa [e2] at this
  refine ⟨ns'.map Int.toNat, ?_, ?_, hp'⟩
  · conv => lhs; rw [e]
    rw [List.map_map]
    rfl
  · have nd' : (ns'.map Int.toNat).Nodup := hp'.nodup_iff.mpr nd
    have hs' : (ns'.map Int.toNat).Pairwise (· ≤ ·) := by
      rw [List.pairwise_map]
      exact hs.imp fun h => by omega
    exact (hs'.and nd').imp fun ⟨h1, h2⟩ => Nat.lt_of_le_of_ne h1 h2
theorem natV_ints (G : List Nat) : natV G = (G.map fun n : Nat => (n : Int)).map V.int := by unfold natV; rw [List.map_map]; rfl
section
variable {P : Program} {w : World} {K : PySem.W.Frag} {mg : Str → Option Value} {base : Heap}
def spReach (K : PySem.W.Frag) : Sp := fun vs H Q _ => ∃ (v : V) (M : List Rm) (k : Nat), vs = [v, .int (k : Int)] ∧ Dp K H v (maD M) ∧ MOk M ∧ k < M.length ∧
  ∀ H' fl (F : List Nat), Same H H' → H' fl = some (.lst (natV F)) → H fl = none → F.Nodup → (∀ x, x ∈ F ↔ x < M.length ∧ RT (Eg M) k x) → Q (.ref fl) H'
end
end Sw
set_option Elab.async false
set_option maxRecDepth 100000
set_option maxHeartbeats 8000000
namespace Sw
open PySem L2 PySem.Spec PyProof.Rows
/-- l.count(x) of data of any depth -/
def rCountD (K : PySem.W.Frag) : V → List V → Hp → VK → Prop := fun x xs H Q => ∃ (a : Addr) (y : V) (d : PyData) (ds : List PyData), x = V.ref a ∧ xs = [y] ∧ Dp K H (V.ref a) (.list ds) ∧ Dp K H y d ∧
  SeqAt.shaped (.list ds) = true ∧ SeqAt.shaped d = true ∧ Q (.int (ds.countP (fun z => PyData.eqv z d) : Nat)) H
theorem mt_countD {X : Cx} (hu : X.A.units + 65 < cLine) : MtR X "list.count" (rCountD X.K) := by
  intro pins s σ H x xs v us Q I rx rxs h
  obtain ⟨a, y, d, ds, rfl, rfl, hl, hy, sl, sd, q⟩ := h
  cases rx
  cases rxs with
  | cons ry rt =>
    rename_i uy ut
    cases rt
    obtain ⟨bs, r1⟩ := Dp.reads I d y uy hy ry
    have hxs : PyData.canLayAll0 ds = true := SeqAt.canLay_of_shaped sl
    have hroom : X.A.units + 1 + min (PyData.depthAll ds) d.depth < cLine := room_in_shaped sd hu
    cases hl with
    | lst hs ha =>
      obtain ⟨its, rv, ⟨⟨cls, dd, data, sls⟩, n, ho, hc, hdn, hdt⟩, hlen⟩ := I.list hs
      simp only at hc hdt
      subst hc hdt
      obtain ⟨as, h4⟩ := Dp.readsAll I ds _ its ha rv
      have hmap : its.map (SeqAt.readOf s.heap) = ds := SeqAt.readsAll_map ds its as hxs h4
      refine call_meets PySem.F.slot_list_count ⟨_, ho, rfl⟩ PySem.F.entry_list_count (PySem.F.args_list_count_2 _ _)
        (SeqAt.list_countAt a its.toArray n dd sls uy (fun u => PyData.eqv (SeqAt.readOf s.heap u) d)) ⟨ho, SeqAt.items_eqAt (vs := its.toArray) (show ReadsAll s.heap its.toArray.toList ds as from h4) r1 hxs (SeqAt.canLay_of_shaped sd) hroom, ?_⟩
      have ec : its.toArray.toList.countP (fun u => PyData.eqv (SeqAt.readOf s.heap u) d) = ds.countP (fun z => PyData.eqv z d) := by
        rw [← hmap, List.countP_map]
        rfl
      refine ⟨.int (ds.countP (fun z => PyData.eqv z d) : Nat), H, I.tok _, ⟨s.toks, ?_⟩, q⟩
      show Value.int ((its.toArray.toList.countP (fun u => PyData.eqv (SeqAt.readOf s.heap u) d) : Nat) : Int) s.toks = Value.int ((ds.countP (fun z => PyData.eqv z d) : Nat) : Int) s.toks
      rw [ec]
theorem units65 {k : Nat} {A : Around} (r : Room k A) : A.units + 65 < cLine := by have := r.un; omega
section
variable {P : Program} {w : World} {K : PySem.W.Frag} {mg : Str → Option Value} {base : Heap}
def spOrbs (K : PySem.W.Frag) : Sp := fun vs H Q _ => ∃ (v : V) (M : List Rm), vs = [v] ∧ Dp K H v (maD M) ∧ MOk M ∧ ∀ H' fl L, Same H H' → LLAt H H' fl L → Orbs (Eg M) M.length L → Q (.ref fl) H'
theorem LLAt.none {H0 H : Hp} {p : Addr} : True := trivial
theorem pairedNew {H0 H H' : Hp} {as : List Addr} {L : List (List Nat)} (s : ∀ a c, H0 a = none → H a = some (.lst (natV c)) → H' a = some (.lst (natV c))) (h : Paired (fun a c => H a = some (.lst (natV c)) ∧ H0 a = none) as L) : Paired (fun a c => H' a = some (.lst (natV c)) ∧ H0 a = none) as L := pairedMap h fun a c ⟨h1, h2⟩ => ⟨s a c h2 h1, h2⟩
end
end Sw
set_option Elab.async false
set_option maxRecDepth 100000
set_option maxHeartbeats 8000000
namespace Sw
open PySem L2 PySem.Spec PyProof.Rows
def endsOf (M : List Rm) (k : Nat) : Bool := (M.getD k (false, [])).1
theorem endsOf_at {M : List Rm} {k : Nat} {r : Rm} (h : M[k]? = some r) : endsOf M k = r.1 := by unfold endsOf; rw [List.getD_eq_getElem?_getD, h]; rfl
/-- the steps that lead out -/
def outF (o : List Nat) (L : List Stp) : List Stp := L.filter fun p => !decide (p.2 ∈ o)
theorem outF_app (o : List Nat) (L L' : List Stp) : outF o (L ++ L') = outF o L ++ outF o L' := by unfold outF; rw [List.filter_append]
theorem outF_len (o : List Nat) (L : List Stp) : (outF o L).length ≤ L.length := List.length_filter_le _ _
def outS (M : List Rm) (o : List Nat) (k : Nat) : List Stp := outF o (stepsOf M k)
def gateB (M : List Rm) (o : List Nat) (k : Nat) : Bool := endsOf M k || !(outS M o k).isEmpty
def gatesM (M : List Rm) (o : List Nat) : List Nat := o.filter (gateB M o)
def bareB (M : List Rm) (o : List Nat) : Bool := decide (o.length = 1) && (stepsOf M (hd o)).all fun p => !decide (p.2 = hd o)
def look (M : List Rm) (o : List Nat) (k : Nat) : Rm := (endsOf M k, outS M o k)
def evenB (M : List Rm) (o : List Nat) : Bool := (gatesM M o).all fun g => decide (look M o g = look M o (hd (gatesM M o)))
/-- a look, its steps in a list -/
def goD (r : Rm) : PyData := .tuple [.bool r.1, .list (r.2.map stD)]
theorem layStD (p : Stp) (h : PyData.strOk p.1 = true) : (stD p).canLay0 = true := by simp [stD, PyData.canLay0, PyData.canLayAll0, h]
theorem laySts : ∀ L : List Stp, (∀ p, p ∈ L → PyData.strOk p.1 = true) → PyData.canLayAll0 (L.map stD) = true
  | [], _ => rfl
  | p :: L, h => by
    rw [List.map_cons, PyData.canLayAll0, layStD p (h p List.mem_cons_self), laySts L fun q hq => h q (List.mem_cons_of_mem _ hq)]
    rfl
theorem depthSt (p : Stp) : (stD p).depth = 1 := by simp [stD, PyData.depth, PyData.depthAll]
theorem depthSts : ∀ L : List Stp, PyData.depthAll (L.map stD) ≤ 1
  | [] => by simp [PyData.depthAll]
  | p :: L => by
    have := depthSts L
    simp only [List.map_cons, PyData.depthAll, depthSt]
    omega
theorem shSts (L : List Stp) (h : ∀ p, p ∈ L → PyData.strOk p.1 = true) : SeqAt.shaped (.list (L.map stD)) = true := by
  unfold SeqAt.shaped
  have := depthSts L
  rw [PyData.canLay0, laySts L h, PyData.depth, Bool.true_and, decide_eq_true_eq]
  omega
theorem shNil : SeqAt.shaped (.list []) = true := rfl
theorem eqvSt (p q : Stp) : PyData.eqv (stD p) (stD q) = decide (p = q) := by
  obtain ⟨a, b⟩ := p
  obtain ⟨a', b'⟩ := q
  have e : PyData.eqv (stD (a, b)) (stD (a', b')) = ((a == a') && (((b : Int) == (b' : Int)) && true)) := by simp only [stD, PyData.eqv, PyData.eqvAll]
  rw [e, Bool.and_true]
  by_cases h1 : a = a'
  · subst h1
    by_cases h2 : b = b'
    · subst h2; simp
    · have q : ((b : Int) == (b' : Int)) = false := beq_eq_false_iff_ne.mpr (by omega)
      rw [q, Bool.and_false, decide_eq_false fun z => h2 (congrArg Prod.snd z)]
  · have q : (a == a') = false := beq_eq_false_iff_ne.mpr h1
    rw [q, Bool.false_and, decide_eq_false fun z => h1 (congrArg Prod.fst z)]
theorem eqvSts : ∀ L L' : List Stp, PyData.eqvAll (L.map stD) (L'.map stD) = decide (L = L')
  | [], [] => by simp [PyData.eqvAll]
  | [], _ :: _ => by simp [PyData.eqvAll]
  | _ :: _, [] => by simp [PyData.eqvAll]
  | p :: L, q :: L' => by
    simp only [List.map_cons, PyData.eqvAll, eqvSt, eqvSts L L']
    by_cases e : p = q
    · subst e; simp
    · rw [decide_eq_false e, Bool.false_and, decide_eq_false fun z => e (List.cons.inj z).1]
theorem eqvGo (r s : Rm) : PyData.eqv (goD r) (goD s) = decide (r = s) := by
  obtain ⟨a, L⟩ := r
  obtain ⟨b, L'⟩ := s
  have e : PyData.eqv (goD (a, L)) (goD (b, L')) = ((a == b) && (PyData.eqvAll (L.map stD) (L'.map stD) && true)) := by simp only [goD, PyData.eqv, PyData.eqvAll]
  rw [e, eqvSts, Bool.and_true]
  by_cases h1 : a = b
  · subst h1
    by_cases h2 : L = L'
    · subst h2; simp
    · rw [decide_eq_false h2, Bool.and_false, decide_eq_false fun z => h2 (congrArg Prod.snd z)]
  · have q : (a == b) = false := beq_eq_false_iff_ne.mpr h1
    rw [q, Bool.false_and, decide_eq_false fun z => h1 (congrArg Prod.fst z)]
theorem shGo (r : Rm) (h : ∀ p, p ∈ r.2 → PyData.strOk p.1 = true) : SeqAt.shaped (goD r) = true := by
  have := depthSts r.2
  have e1 : (goD r).canLay0 = true := by simp [goD, PyData.canLay0, PyData.canLayAll0, laySts r.2 h]
  have e2 : (goD r).depth ≤ 64 := by
    simp only [goD, PyData.depth, PyData.depthAll]
    omega
  unfold SeqAt.shaped
  rw [e1, Bool.true_and, decide_eq_true_eq]
  exact e2
theorem layGos : ∀ rs : List Rm, (∀ r, r ∈ rs → ∀ p, p ∈ r.2 → PyData.strOk p.1 = true) → PyData.canLayAll0 (rs.map goD) = true
  | [], _ => rfl
  | r :: rs, h => by
    have := shGo r (h r List.mem_cons_self)
    rw [List.map_cons, PyData.canLayAll0, layGos rs fun s hs => h s (List.mem_cons_of_mem _ hs), SeqAt.canLay_of_shaped this]
    rfl
theorem depthGos : ∀ rs : List Rm, PyData.depthAll (rs.map goD) ≤ 3
  | [] => by simp [PyData.depthAll]
  | r :: rs => by
    have h1 := depthSts r.2
    have h2 := depthGos rs
    simp only [List.map_cons, PyData.depthAll, goD, PyData.depth] at h2 ⊢
    omega
theorem shGos (rs : List Rm) (h : ∀ r, r ∈ rs → ∀ p, p ∈ r.2 → PyData.strOk p.1 = true) : SeqAt.shaped (.list (rs.map goD)) = true := by
  have e2 := depthGos rs
  unfold SeqAt.shaped
  rw [PyData.canLay0, layGos rs h, PyData.depth, Bool.true_and, decide_eq_true_eq]
  omega
section
variable {P : Program} {w : World} {K : PySem.W.Frag} {mg : Str → Option Value} {base : Heap}
def spOut (K : PySem.W.Frag) : Sp := fun vs H Q _ => ∃ (v : V) (M : List Rm) (oa : Addr) (o : List Nat) (k : Nat), vs = [v, .ref oa, .int (k : Int)] ∧ Dp K H v (maD M) ∧ MOk M ∧ H oa = some (.lst (natV o)) ∧ k < M.length ∧
  ∀ H' t d ls, Same H H' → SqT K H' t [.bl (endsOf M k), .ref d] → H' d = some (.lst ls) → H d = none → DpAll K H' ls ((outS M o k).map stD) → Q (.ref t) H'
theorem goDp {K : PySem.W.Frag} {H : Hp} {t d : Addr} {ls : List V} {r : Rm} (h1 : SqT K H t [.bl r.1, .ref d]) (h2 : H d = some (.lst ls)) (h3 : DpAll K H ls (r.2.map stD)) : Dp K H (.ref t) (goD r) := .tup h1 (.cons (.bl _) (.cons (.lst (sL h2) h3) .nil))
def spGates (K : PySem.W.Frag) : Sp := fun vs H Q _ => ∃ (v : V) (M : List Rm) (oa : Addr) (o : List Nat), vs = [v, .ref oa] ∧ Dp K H v (maD M) ∧ MOk M ∧ H oa = some (.lst (natV o)) ∧ o.length ≤ 1000 ∧ (∀ x, x ∈ o → x < M.length) ∧
  ∀ H' p, Same H H' → H' p = some (.lst (natV (gatesM M o))) → H p = none → Q (.ref p) H'
theorem outS_ok {M : List Rm} (h : MOk M) (o : List Nat) (k : Nat) : ∀ p, p ∈ outS M o k → PyData.strOk p.1 = true := by
  intro p hp
  have hp' := (List.mem_filter.mp hp).1
  unfold stepsOf at hp'
  rw [List.getD_eq_getElem?_getD] at hp'
  cases e : M[k]? with
  | none => rw [e] at hp'; cases hp'
  | some r => rw [e] at hp'; exact h.str r (List.mem_of_getElem? e) p hp'
end
end Sw
set_option Elab.async false
set_option maxRecDepth 100000
set_option maxHeartbeats 8000000
namespace Sw
open PySem L2 PySem.Spec PyProof.Rows
theorem pairedAtL' {α β : Type} {F : α → β → Prop} : ∀ {l₁ : List α} {l₂ : List β} {i : Nat} {b : β}, Paired F l₁ l₂ → l₂[i]? = some b → ∃ a, l₁[i]? = some a ∧ F a b
  | _, _, _, _, .nil, h => by simp at h
  | _, _, 0, _, .cons r t, h => by simp at h; subst h; exact ⟨_, rfl, r⟩
  | _, _, i + 1, _, .cons r t, h => by
    simp at h
    obtain ⟨a, h1, h2⟩ := pairedAtL' t h
    exact ⟨a, by simpa using h1, h2⟩
theorem decInt (a b : Nat) : decide (V.int (a : Int) = V.int (b : Int)) = decide (a = b) := by
  by_cases h : a = b
  · subst h; simp
  · rw [decide_eq_false h, decide_eq_false fun e => h (by have := V.int.inj e; omega)]
section
variable {P : Program} {w : World} {K : PySem.W.Frag} {mg : Str → Option Value} {base : Heap}
def GoAt (K : PySem.W.Frag) (R : Addr) (H : Hp) (u : V) (r : Rm) : Prop := ∃ t d ls, u = .ref t ∧ SqT K H t [.bl r.1, .ref d] ∧ H d = some (.lst ls) ∧ d ≠ R ∧ DpAll K H ls (r.2.map stD)
theorem GoAt.same {K : PySem.W.Frag} {R : Addr} {H H' : Hp} {u : V} {r : Rm} (h : GoAt K R H u r) (s : Same H H') : GoAt K R H' u r := by
  obtain ⟨t, d, ls, e, h1, h2, h3, h4⟩ := h
  exact ⟨t, d, ls, e, s.sqT h1, s _ _ h2, h3, dpsS s h4⟩
theorem GoAt.wr {K : PySem.W.Frag} {R : Addr} {H : Hp} {u : V} {r : Rm} {xs : List V} {o : HO} (h : GoAt K R H u r) (hR : H R = some (.lst xs)) : GoAt K R (upd H R o) u r := by
  obtain ⟨t, d, ls, e, h1, h2, h3, h4⟩ := h
  exact ⟨t, d, ls, e, sqTW hR h1, by rw [upd_ne h3]; exact h2, h3, dpsW hR (noLs_st _) h4⟩
theorem GoAt.dp {K : PySem.W.Frag} {R : Addr} {H : Hp} {u : V} {r : Rm} (h : GoAt K R H u r) : Dp K H u (goD r) := by
  obtain ⟨t, d, ls, rfl, h1, h2, h3, h4⟩ := h
  exact goDp h1 h2 h4
theorem pairedGo {K : PySem.W.Frag} {R : Addr} {H : Hp} : ∀ {us : List V} {rs : List Rm}, Paired (GoAt K R H) us rs → DpAll K H us (rs.map goD)
  | _, _, .nil => .nil
  | _, _, .cons r t => .cons r.dp (pairedGo t)
theorem countGo (rs : List Rm) (r : Rm) : (rs.map goD).countP (fun z => PyData.eqv z (goD r)) = rs.countP fun s => decide (s = r) := by
  rw [List.countP_map]
  congr 1
  funext s
  exact eqvGo s r
theorem gates_mem {M : List Rm} {o : List Nat} {x : Nat} (h : x ∈ gatesM M o) : x ∈ o := (List.mem_filter.mp h).1
end
end Sw
set_option Elab.async false
set_option maxRecDepth 100000
set_option maxHeartbeats 8000000
namespace Sw
open PySem L2 PySem.Spec PyProof.Rows
theorem lc_zip {K : PySem.W.Frag} {a b : Addr} {xs ys : List V} {g : TG} {tt : TT} {te : TE} {vs : List Nat} {σ : L2.St} {H1 : Hp} {D : Addr} {Qd : Hp → Prop} (hlen : xs.length = ys.length) (Pv : Nat → Hp → Prop) (h0 : Pv 0 (upd H1 D (.lst []))) (hl : ∀ i H, i ≤ xs.length → Pv i H → SqL K H a xs ∧ SqL K H b ys)
    (hs : ∀ i x y T H, xs[i]? = some x → ys[i]? = some y → Pv i H → H T = none → g (.ref T) (wipe σ vs) (upd H T (.tup [x, y])) fun σ2 H2 => wipe σ2 vs = wipe σ vs ∧ tt σ2 H2 fun b H3 => if b = true then te σ2 H3 fun y H4 => ∃ acc, H4 D = some (.lst acc) ∧ acc.length < sizeLine ∧ Pv (i + 1) (upd H4 D (.lst (acc ++ [y]))) else Pv (i + 1) H3)
    (hd : ∀ H, Pv xs.length H → Qd H) : ∃ W : Nat → Nat → Hp → Prop, (∃ m, W 0 m (upd H1 D (.lst []))) ∧ ∀ i m H, W i m H →
      ((Itz K a b).stop i H ∧ Qd H) ∨ ((Itz K a b).go i H ∧ ∃ Nx : Hp → Prop, (∀ H', Nx H' → ∃ m', m' < m ∧ W (i + 1) m' H') ∧ ∀ x H', (Itz K a b).yld i H x H' → g x (wipe σ vs) H' fun σ2 H2 => wipe σ2 vs = wipe σ vs ∧ tt σ2 H2 fun b H3 =>
        if b = true then te σ2 H3 fun y H4 => ∃ acc, H4 D = some (.lst acc) ∧ acc.length < sizeLine ∧ Nx (upd H4 D (.lst (acc ++ [y]))) else Nx H3) := by
  refine ⟨fun i m H => m = xs.length - i ∧ i ≤ xs.length ∧ Pv i H, ⟨xs.length, by simp, Nat.zero_le _, h0⟩, ?_⟩
  rintro i m H ⟨rfl, hi, hp⟩
  obtain ⟨hL, hL2⟩ := hl i H hi hp
  by_cases e : i = xs.length
  · exact .inl ⟨⟨xs, ys, hL, hL2, .inl (by omega)⟩, hd H (by rw [← e]; exact hp)⟩
  · have hlt : i < xs.length := by omega
    have hlt2 : i < ys.length := by omega
    refine .inr ⟨⟨xs, ys, xs[i], ys[i], hL, hL2, List.getElem?_eq_getElem hlt, List.getElem?_eq_getElem hlt2⟩, Pv (i + 1), fun H' hq => ⟨_, by omega, rfl, hlt, hq⟩, fun x H' hy => ?_⟩
    obtain ⟨T, x, y, rfl, hT, rfl, hx, hy⟩ := hy
    exact hs i x y T H (hx xs hL) (hy ys hL2) hp hT
/-- two things that are the same, lists of such so deep -/
def Sm : Nat → Hp → V → V → Prop
  | 0, _, _, _ => False
  | n + 1, H, x, y => (∃ k : Int, x = .int k ∧ y = .int k) ∨ (∃ b : Bool, x = .bl b ∧ y = .bl b) ∨ (∃ t : Str, x = .str t ∧ y = .str t) ∨ ∃ (a a' : Addr) (xs ys : List V), x = .ref a ∧ y = .ref a' ∧ H a = some (.lst xs) ∧ H a' = some (.lst ys) ∧ xs.length ≤ 1000 ∧ Paired (fun u v => Sm n H u v) xs ys
theorem Sm.same : ∀ {n : Nat} {H H' : Hp} {x y : V}, Sm n H x y → Same H H' → Sm n H' x y
  | 0, _, _, _, _, h, _ => h.elim
  | n + 1, H, H', x, y, h, s => by
    rcases h with h | h | h | ⟨a, a', xs, ys, e1, e2, h1, h2, h3, h4⟩
    · exact .inl h
    · exact .inr (.inl h)
    · exact .inr (.inr (.inl h))
    · exact .inr (.inr (.inr ⟨a, a', xs, ys, e1, e2, s _ _ h1, s _ _ h2, h3, pairedMap h4 fun u v q => q.same s⟩))
theorem Sm.ints {H : Hp} {n : Nat} : ∀ c : List Nat, Paired (fun u v => Sm (n + 1) H u v) (natV c) (natV c)
  | [] => .nil
  | x :: c => .cons (.inl ⟨_, rfl, rfl⟩) (Sm.ints c)
theorem Sm.nat {H : Hp} {n : Nat} {a a' : Addr} {c : List Nat} (h : H a = some (.lst (natV c))) (h' : H a' = some (.lst (natV c))) (hl : c.length ≤ 1000) : Sm (n + 2) H (.ref a) (.ref a') :=
  .inr (.inr (.inr ⟨a, a', _, _, rfl, rfl, h, h', by rw [ints_len]; exact hl, Sm.ints c⟩))
theorem Sm.lls {H0 H1 H : Hp} {n : Nat} : ∀ {as bs : List Addr} {L : List (List Nat)}, (∀ c, c ∈ L → c.length ≤ 1000) → Paired (fun a c => H a = some (.lst (natV c)) ∧ H0 a = none) as L → Paired (fun a c => H a = some (.lst (natV c)) ∧ H1 a = none) bs L → Paired (fun u v => Sm (n + 2) H u v) (as.map V.ref) (bs.map V.ref)
  | _, _, _, _, .nil, .nil => .nil
  | _, _, _, hl, .cons r t, .cons r' t' => .cons (Sm.nat r.1 r'.1 (hl _ List.mem_cons_self)) (Sm.lls (fun c hc => hl c (List.mem_cons_of_mem _ hc)) t t')
theorem LLAt.sm {H0 H1 H : Hp} {a b : Addr} {L : List (List Nat)} (h : LLAt H0 H a L) (g : LLAt H1 H b L) (hl : L.length ≤ 1000) (hc : ∀ c, c ∈ L → c.length ≤ 1000) : Sm 3 H (.ref a) (.ref b) := by
  obtain ⟨as, h1, h2, _⟩ := h
  obtain ⟨bs, g1, g2, _⟩ := g
  exact .inr (.inr (.inr ⟨a, b, _, _, rfl, rfl, h1, g1, by rw [List.length_map, pairedLen h2]; exact hl, Sm.lls hc h2 g2⟩))
theorem Sm.strs {H : Hp} {n : Nat} : ∀ c : List Str, Paired (fun u v => Sm (n + 1) H u v) (c.map V.str) (c.map V.str)
  | [] => .nil
  | x :: c => .cons (.inr (.inr (.inl ⟨_, rfl, rfl⟩))) (Sm.strs c)
theorem Sm.str {H : Hp} {n : Nat} {a a' : Addr} {c : List Str} (h : H a = some (.lst (c.map V.str))) (h' : H a' = some (.lst (c.map V.str))) (hl : c.length ≤ 1000) : Sm (n + 2) H (.ref a) (.ref a') :=
  .inr (.inr (.inr ⟨a, a', _, _, rfl, rfl, h, h', by rw [List.length_map]; exact hl, Sm.strs c⟩))
theorem Sm.up : ∀ {n : Nat} {H : Hp} {x y : V}, Sm n H x y → Sm (n + 1) H x y
  | 0, _, _, _, h => h.elim
  | n + 1, H, x, y, h => by
    rcases h with h | h | h | ⟨a, a', xs, ys, e1, e2, h1, h2, h3, h4⟩
    · exact .inl h
    · exact .inr (.inl h)
    · exact .inr (.inr (.inl h))
    · exact .inr (.inr (.inr ⟨a, a', xs, ys, e1, e2, h1, h2, h3, pairedMap h4 fun u v q => q.up⟩))
section
variable {P : Program} {w : World} {K : PySem.W.Frag} {mg : Str → Option Value} {base : Heap}
abbrev n_law_gsame : List Str := ["found", "due", "one", "other"]
theorem sc_law_gsame : FnScope n_law_gsame ["found", "due"] (defScope s_law_gsame) := ⟨rfl, rfl, rfl, by decide +kernel, rfl, by decide +kernel, by decide +kernel⟩
def spSame (n : Nat) : Sp := fun vs H Q _ => ∃ x y, vs = [x, y] ∧ Sm n H x y ∧ ∀ H', Same H H' → Q (.bl true) H'
theorem ok_law_gsame (F : DefAt K mg "_law_gsame" s_law_gsame ["found", "due"]) (b_all : mg "all" = none) (b_isinstance : mg "isinstance" = none) (b_len : mg "len" = none) (b_zip : mg "zip" = none)
    (b_bool : mg "bool" = none) (b_int : mg "int" = none) (b_str : mg "str" = none) (b_tuple : mg "tuple" = none) (b_list : mg "list" = none) : ∀ n, DefOk P w K mg base "_law_gsame" (n + 1) ["found", "due"] (spSame n)
  | 0 => by
    refine F.ok sc_law_gsame (fun vs H Q E h => ?_) (fun f cdv A outer s H vs Q E hr h => ?_)
    · obtain ⟨_, _, rfl, _⟩ := h
      rfl
    · obtain ⟨_, _, _, q, _⟩ := h
      exact q.elim
  | n + 1 => by
    have d__law_gsame := ok_law_gsame F b_all b_isinstance b_len b_zip b_bool b_int b_str b_tuple b_list n
    refine F.ok sc_law_gsame (fun vs H Q E h => ?_) (fun f cdv A outer s H vs Q E hr h => ?_)
    · obtain ⟨_, _, rfl, _⟩ := h
      rfl
    obtain ⟨x, y, rfl, hs, k⟩ := h
    refine ⟨_, (pss_cons (ps_if (pt_cmp (pc_isN (pv 1)) rfl) (pss_one (ps_ret (pe_cmp (pc_isN (pv 0)) rfl))) pss_nil)
    (pss_cons (ps_if (pt_val (pe_callB call_isi (by rfl) b_isinstance (by decide +kernel) (pa_cons (pv 1) (pa_cons (pe_bltn (v := .ty "bool") (by rfl) b_bool (by decide +kernel) rfl) pa_nil)))) (pss_one (ps_ret (pe_and (pe_callB call_isi (by rfl) b_isinstance (by decide +kernel) (pa_cons (pv 0) (pa_cons (pe_bltn (v := .ty "bool") (by rfl) b_bool (by decide +kernel) rfl) pa_nil))) (pe_one (pe_cmpR op_eq (pv 0) (pv 1) (nomark _)))))) pss_nil)
    (pss_cons (ps_if (pt_val (pe_callB call_isi (by rfl) b_isinstance (by decide +kernel) (pa_cons (pv 1) (pa_cons (pe_bltn (v := .ty "int") (by rfl) b_int (by decide +kernel) rfl) pa_nil)))) (pss_one (ps_ret (pe_and (pe_callB call_isi (by rfl) b_isinstance (by decide +kernel) (pa_cons (pv 0) (pa_cons (pe_bltn (v := .ty "int") (by rfl) b_int (by decide +kernel) rfl) pa_nil))) (pe_and (pe_not (pe_callB call_isi (by rfl) b_isinstance (by decide +kernel) (pa_cons (pv 0) (pa_cons (pe_bltn (v := .ty "bool") (by rfl) b_bool (by decide +kernel) rfl) pa_nil)))) (pe_one (pe_cmpR op_eq (pv 0) (pv 1) (nomark _))))))) pss_nil)
    (pss_cons (ps_if (pt_val (pe_callB call_isi (by rfl) b_isinstance (by decide +kernel) (pa_cons (pv 1) (pa_cons (pe_bltn (v := .ty "str") (by rfl) b_str (by decide +kernel) rfl) pa_nil)))) (pss_one (ps_ret (pe_and (pe_callB call_isi (by rfl) b_isinstance (by decide +kernel) (pa_cons (pv 0) (pa_cons (pe_bltn (v := .ty "str") (by rfl) b_str (by decide +kernel) rfl) pa_nil))) (pe_one (pe_cmpR op_eq (pv 0) (pv 1) (nomark _)))))) pss_nil)
    (pss_cons (ps_if (PW.pt (pw_or (pt_cmpR op_ne (pe_callB call_isi (by rfl) b_isinstance (by decide +kernel) (pa_cons (pv 1) (pa_cons (pe_bltn (v := .ty "tuple") (by rfl) b_tuple (by decide +kernel) rfl) pa_nil))) (pe_callB call_isi (by rfl) b_isinstance (by decide +kernel) (pa_cons (pv 0) (pa_cons (pe_bltn (v := .ty "tuple") (by rfl) b_tuple (by decide +kernel) rfl) pa_nil))) (nomark _)) (pw_or1 (pt_cmpR op_ne (pe_callB call_isi (by rfl) b_isinstance (by decide +kernel) (pa_cons (pv 1) (pa_cons (pe_bltn (v := .ty "list") (by rfl) b_list (by decide +kernel) rfl) pa_nil))) (pe_callB call_isi (by rfl) b_isinstance (by decide +kernel) (pa_cons (pv 0) (pa_cons (pe_bltn (v := .ty "list") (by rfl) b_list (by decide +kernel) rfl) pa_nil))) (nomark _))))) (pss_one (ps_ret pe_bl)) pss_nil)
    (pss_one (ps_ret (pe_and (pe_cmpR op_eq (pe_callB call_len_seq (by rfl) b_len PySem.boot_len (pa_cons (pv 0) pa_nil)) (pe_callB call_len_seq (by rfl) b_len PySem.boot_len (pa_cons (pv 1) pa_nil)) (nomark _)) (pe_one (pe_callB (cr_all rfl) (by rfl) b_all (by decide +kernel) (pa_cons (pe_lc (own := [("one", 2), ("other", 3)]) (g := gTup K 2 (gCons (gName 2) (gCons (gName 3) gNil))) rfl sc_law_gsame.nd (pi_zip (by rfl) b_zip (pa_cons (pv 0) (pa_cons (pv 1) pa_nil))) (blkOk_by (own := [("one", 2), ("other", 3)]) (N := n_law_gsame) (sc := defScope s_law_gsame) (by decide +kernel)) (fun _ _ _ _ _ => (pg_tup rfl (pgs_cons (pg_name (i := 2) sc_law_gsame.nd rfl (Or.inl rfl)) (pgs_cons (pg_name (i := 3) sc_law_gsame.nd rfl (Or.inl rfl)) pgs_nil)))) (fun _ _ _ _ _ => pts_nil) (fun _ _ _ _ _ => (pe_callD d__law_gsame (hr.mono (Nat.le_refl _)) rfl (pa_cons (pv 2) (pa_cons (pv 3) pa_nil))))) pa_nil))))))))))), ?_⟩
    rcases hs with ⟨z, rfl, rfl⟩ | ⟨b, rfl, rfl⟩ | ⟨t, rfl, rfl⟩ | ⟨a, a', xs, ys, rfl, rfl, ha, ha', hl, hp⟩
    · refine ⟨_, rfl, _, rfl, iteF ?_⟩
      refine ⟨_, rfl, .int z, .ty "bool", _, _, false, rfl, .ty _, .base (.int _), kit_ty (by decide +kernel), _, rfl, iteF ?_⟩
      refine ⟨_, rfl, .int z, .ty "int", _, _, true, rfl, .ty _, .base (.int _), kit_ty (by decide +kernel), _, rfl, iteT ?_⟩
      refine ⟨_, rfl, .int z, .ty "int", _, _, true, rfl, .ty _, .base (.int _), kit_ty (by decide +kernel), _, rfl, iteT ?_⟩
      refine ⟨_, rfl, .int z, .ty "bool", _, _, false, rfl, .ty _, .base (.int _), kit_ty (by decide +kernel), _, rfl, _, rfl, iteT ?_⟩
      refine ⟨_, rfl, _, rfl, rfl, ?_⟩
      rw [decide_eq_true rfl]
      exact k H (Same.refl _)
    · refine ⟨_, rfl, _, rfl, iteF ?_⟩
      refine ⟨_, rfl, .bl b, .ty "bool", _, _, true, rfl, .ty _, .base (.bl _), kit_ty (by decide +kernel), _, rfl, iteT ?_⟩
      refine ⟨_, rfl, .bl b, .ty "bool", _, _, true, rfl, .ty _, .base (.bl _), kit_ty (by decide +kernel), _, rfl, iteT ?_⟩
      refine ⟨_, rfl, _, rfl, rfl, ?_⟩
      rw [decide_eq_true rfl]
      exact k H (Same.refl _)
    · refine ⟨_, rfl, _, rfl, iteF ?_⟩
      refine ⟨_, rfl, .str t, .ty "bool", _, _, false, rfl, .ty _, .base (.str _), kit_ty (by decide +kernel), _, rfl, iteF ?_⟩
      refine ⟨_, rfl, .str t, .ty "int", _, _, false, rfl, .ty _, .base (.str _), kit_ty (by decide +kernel), _, rfl, iteF ?_⟩
      refine ⟨_, rfl, .str t, .ty "str", _, _, true, rfl, .ty _, .base (.str _), kit_ty (by decide +kernel), _, rfl, iteT ?_⟩
      refine ⟨_, rfl, .str t, .ty "str", _, _, true, rfl, .ty _, .base (.str _), kit_ty (by decide +kernel), _, rfl, iteT ?_⟩
      refine ⟨_, rfl, _, rfl, rfl, ?_⟩
      rw [decide_eq_true rfl]
      exact k H (Same.refl _)
    · have hly := pairedLen hp
      have ix : ∀ (T : String) (bb : Bool), kitB "list" T = some bb → PySem.W.kitOne K (.type "list") (.type T) = some bb := fun T bb h => kit_ty h
      refine ⟨_, rfl, _, rfl, iteF ?_⟩
      refine ⟨_, rfl, .ref a', .ty "bool", _, _, false, rfl, .ty _, .base (.lst ha'), kit_ty (by decide +kernel), _, rfl, iteF ?_⟩
      refine ⟨_, rfl, .ref a', .ty "int", _, _, false, rfl, .ty _, .base (.lst ha'), kit_ty (by decide +kernel), _, rfl, iteF ?_⟩
      refine ⟨_, rfl, .ref a', .ty "str", _, _, false, rfl, .ty _, .base (.lst ha'), kit_ty (by decide +kernel), _, rfl, iteF ?_⟩
      refine ⟨_, rfl, .ref a', .ty "tuple", _, _, false, rfl, .ty _, .base (.lst ha'), kit_ty (by decide +kernel), _, rfl, .ref a, .ty "tuple", _, _, false, rfl, .ty _, .base (.lst ha), kit_ty (by decide +kernel), rfl, _, rfl, iteF ?_⟩
      refine ⟨_, rfl, .ref a', .ty "list", _, _, true, rfl, .ty _, .base (.lst ha'), kit_ty (by decide +kernel), _, rfl, .ref a, .ty "list", _, _, true, rfl, .ty _, .base (.lst ha), kit_ty (by decide +kernel), rfl, _, rfl, iteF ?_⟩
      refine ⟨_, rfl, a, _, rfl, .inl (sL ha), _, rfl, a', _, rfl, .inl (sL ha'), rfl, _, rfl, ?_⟩
      rw [hly, decide_eq_true rfl]
      refine iteT ?_
      refine ⟨_, rfl, _, rfl, a, a', xs, ys, rfl, sL ha, sL ha', fun D nD => ?_⟩
      refine lc_zip (K := K) (a := a) (b := a') (xs := xs) (ys := ys) hly (fun j H' => ∃ bs : List Bool, Same H H' ∧ H' D = some (.lst (bs.map V.bl)) ∧ bs.all id = true ∧ bs.length ≤ j) ⟨[], .new nD, upd_same, rfl, Nat.zero_le _⟩ (fun j H' _ ⟨_, g, _⟩ => ⟨sL (g _ _ ha), sL (g _ _ ha')⟩) ?_ ?_
      · rintro j u v T H1 hu hv ⟨bs, s1, hD, hb, hbl⟩ nT
        have hj := (List.getElem?_eq_some_iff.mp hu).1
        obtain ⟨v', hv', hsm⟩ := pairedAtL hp hu
        rw [hv] at hv'
        cases hv'
        have sT1 : Same H1 (upd H1 T (.tup [u, v])) := .new nT
        refine ⟨T, _, rfl, sT upd_same, rfl, _, _, rfl, _, _, rfl, rfl, rfl, ?_⟩
        refine ⟨_, rfl, _, rfl, u, v, rfl, hsm.same (s1.trans sT1), fun H2 s2 => ?_⟩
        refine ⟨_, (sT1.trans s2) _ _ hD, szb (by rw [List.length_map]; omega), bs ++ [true], (s1.trans (sT1.trans s2)).mut nD, by rw [upd_same, List.map_append]; rfl, by rw [List.all_append, hb]; rfl, by rw [List.length_append, List.length_singleton]; omega⟩
      · rintro H1 ⟨bs, s1, hD, hb, hbl⟩
        refine ⟨D, bs, rfl, sL hD, ?_⟩
        dsimp only
        rw [hb]
        exact k H1 s1
end
end Sw
set_option Elab.async false
set_option maxRecDepth 100000
set_option maxHeartbeats 8000000
namespace Sw
open PySem L2 PySem.Spec PyProof.Rows
def H00 : Hp := fun _ => none
theorem rgNat (a b : Nat) : rgV (a : Int) (b : Int) = natV (List.range' a (b - a)) := by
  unfold rgV natV
  rw [show ((b : Int) - (a : Int)).toNat = b - a by omega, List.range'_eq_map_range, List.map_map]
  refine List.map_congr_left fun i _ => ?_
  show V.int ((a : Int) + (i : Int)) = V.int (((a + i : Nat)) : Int)
  rw [Int.natCast_add]
theorem range_succ_map {α : Type} (f : Nat → α) (i : Nat) : (List.range (i + 1)).map f = (List.range i).map f ++ [f i] := by rw [List.range_succ, List.map_append]; rfl
end Sw
set_option Elab.async false
set_option maxRecDepth 100000
set_option maxHeartbeats 8000000
namespace Sw
open PySem L2 PySem.Spec PyProof.Rows
theorem pt_truthK {X : Cx} {a : Expr} {ta : TE} (K : PySem.W.Frag) (hK : X.K = K) (ha : PE X a ta) (he : ∀ whole, isTrue a X.env whole = (do let v ← whole; standAt a.pos; holding [v] (truthy v))) :
    PT X a (fun σ H Q => ta σ H fun x H' => ∃ k, TruV K x H' k ∧ Q k H') := by
  subst hK
  exact pt_truth ha he
/-- a look, its steps in a tuple -/
theorem eqvRm (r s : Rm) : PyData.eqv (rmD r) (rmD s) = decide (r = s) := by
  have h := eqvGo r s
  obtain ⟨a, L⟩ := r
  obtain ⟨b, L'⟩ := s
  rw [← h]
  simp only [goD, rmD, PyData.eqv, PyData.eqvAll]
theorem shRm (r : Rm) (h : ∀ p, p ∈ r.2 → PyData.strOk p.1 = true) : SeqAt.shaped (rmD r) = true := by
  have := depthSts r.2
  have e1 : (rmD r).canLay0 = true := by simp [rmD, PyData.canLay0, PyData.canLayAll0, laySts r.2 h]
  have e2 : (rmD r).depth ≤ 64 := by
    simp only [rmD, PyData.depth, PyData.depthAll]
    omega
  unfold SeqAt.shaped
  rw [e1, Bool.true_and, decide_eq_true_eq]
  exact e2
section
variable {P : Program} {w : World} {K : PySem.W.Frag} {mg : Str → Option Value} {base : Heap}
abbrev n_steps_out : List Str := ["machine", "orbit", "number", "step"]
theorem sc_steps_out : FnScope n_steps_out ["machine", "orbit", "number"] (defScope s_steps_out) := ⟨rfl, rfl, rfl, by decide +kernel, rfl, by decide +kernel, by decide +kernel⟩
def spSteps (K : PySem.W.Frag) : Sp := fun vs H Q _ => ∃ (v : V) (M : List Rm) (oa : Addr) (o : List Nat) (k : Nat), vs = [v, .ref oa, .int (k : Int)] ∧ Dp K H v (maD M) ∧ MOk M ∧ H oa = some (.lst (natV o)) ∧ k < M.length ∧
  ∀ H' t us, Same H H' → SqT K H' t us → DpAll K H' us ((outS M o k).map stD) → Q (.ref t) H'
theorem ok_steps_out (F : DefAt K mg "steps_out" s_steps_out ["machine", "orbit", "number"]) (b_tuple : mg "tuple" = none) : DefOk P w K mg base "steps_out" 1 ["machine", "orbit", "number"] (spSteps K) := by
  refine F.ok sc_steps_out (fun vs H Q E h => ?_) (fun f cdv A outer s H vs Q E hr h => ?_)
  · obtain ⟨_, _, _, _, _, rfl, _⟩ := h
    rfl
  obtain ⟨v, M, oa, o, x, rfl, hv, hM, ho, hx, k⟩ := h
  obtain ⟨ma, rs, rfl, hma, hrs⟩ := dpTup hv
  obtain ⟨r, hr'⟩ : ∃ r, M[x]? = some r := ⟨_, List.getElem?_eq_getElem hx⟩
  have hrM := List.mem_of_getElem? hr'
  have hdeg := hM.deg r hrM
  obtain ⟨ra, b, ls, e1, e2, e3, e4⟩ := rmsAt hrs hr'
  have hls := dpsLen e4
  rw [List.length_map] at hls
  refine ⟨_, (pss_one (ps_ret (pe_callTy call_tuple_of (by rfl) b_tuple (by decide +kernel) (pa_cons (pe_lc (own := [("step", 3)]) (g := gName 3) rfl sc_steps_out.nd (pi_tup (pe_ix ix_tup (pe_ix ix_tup (pv 0) (pv 2) (fun _ _ => rfl)) pe_int (fun _ _ => rfl))) (blkOk_by (own := [("step", 3)]) (N := n_steps_out) (sc := defScope s_steps_out) (by decide +kernel)) (fun _ _ _ _ _ => (pg_name (i := 3) sc_steps_out.nd rfl (Or.inl rfl))) (fun _ _ _ _ _ => (pts_one (pt_cmpR (r := rIn K true) op_notIn_seq (pe_ix (r := rIxT K) ix_tup (pv 3) pe_int (fun _ _ => rfl)) (pv 1) (by rfl)))) (fun _ _ _ _ _ => (pv 3))) pa_nil)))), ?_⟩
  refine ⟨_, rfl, _, rfl, ma, _, _, _, rfl, rfl, hma, atI_nat e1, ra, _, 1, _, rfl, rfl, e2, atI_nat (j := 1) rfl, b, rfl, ⟨_, e3⟩, fun D nD => ?_⟩
  refine lc_tup (K := K) (a := b) (xs := ls) (fun j H' => ∃ us : List V, Same H H' ∧ H' D = some (.lst us) ∧ DpAll K H' us ((outF o (r.2.take j)).map stD) ∧ us.length ≤ j) ⟨[], .new nD, upd_same, .nil, Nat.zero_le _⟩ (fun j H' _ ⟨_, g, _⟩ => g.sqT e3) ?_ ?_
  · rintro j v H1 hv1 ⟨us, s1, hD, hus, hul⟩
    obtain ⟨p, pa, hp, rfl, hpa⟩ := stsAt e4 hv1
    have hj := (List.getElem?_eq_some_iff.mp hv1).1
    have hpD : Dp K H (.ref pa) (stD p) := .tup hpa (.cons (.str _) (.cons (.int _) .nil))
    refine ⟨rfl, ?_⟩
    refine ⟨_, rfl, pa, _, 1, _, rfl, rfl, s1.sqT hpa, atI_nat (j := 1) rfl, _, rfl, oa, _, rfl, .inl (sL (s1 _ _ ho)), rfl, ints_flat o, _, rfl, ?_⟩
    rw [take_snoc hp, outF_app]
    refine ite2 (fun hn => ?_) (fun hy => ?_)
    · have hn' : p.2 ∉ o := by simpa [ints_in] using hn
      have e : outF o [p] = [p] := by simp [outF, hn']
      refine ⟨_, rfl, us, hD, szb (by omega), us ++ [.ref pa], s1.mut nD, upd_same, ?_, by rw [List.length_append, List.length_singleton]; omega⟩
      rw [e, List.map_append]
      exact dpsApp (dpsW hD (noLs_st _) hus) (.cons (dpW hD (noL_st p) (dpS s1 hpD)) .nil)
    · have hy' : p.2 ∈ o := by simpa [ints_in] using hy
      have e : outF o [p] = [] := by simp [outF, hy']
      rw [e, List.append_nil]
      exact ⟨us, s1, hD, hus, by omega⟩
  · rintro H1 ⟨us, s1, hD, hus, hul⟩
    rw [hls, List.take_length] at hus
    refine ⟨D, us, rfl, .inl ⟨sL hD, fun t nt => ?_⟩⟩
    have st : Same H1 (upd H1 t (.tup us)) := .new nt
    refine k _ t us (s1.trans st) (sT upd_same) ?_
    unfold outS
    rw [stepsOf_at hr']
    exact dpsS st hus
abbrev n_gates : List Str := ["machine", "orbit", "number"]
theorem sc_gates : FnScope n_gates ["machine", "orbit"] (defScope s_gates) := ⟨rfl, rfl, rfl, by decide +kernel, rfl, by decide +kernel, by decide +kernel⟩
theorem ok_gates (F : DefAt K mg "gates" s_gates ["machine", "orbit"]) (d_steps_out : DefOk P w K mg base "steps_out" 1 ["machine", "orbit", "number"] (spSteps K)) : DefOk P w K mg base "gates" 2 ["machine", "orbit"] (spGates K) := by
  refine F.ok sc_gates (fun vs H Q E h => ?_) (fun f cdv A outer s H vs Q E hr h => ?_)
  · obtain ⟨_, _, _, _, rfl, _⟩ := h
    rfl
  obtain ⟨v, M, oa, o, rfl, hv, hM, ho, hol, hlt, k⟩ := h
  obtain ⟨ma, rs, rfl, hma, hrs⟩ := dpTup hv
  refine ⟨_, (pss_one (ps_ret (pe_lc (own := [("number", 2)]) (g := gName 2) rfl sc_gates.nd (pi_list (pv 1)) (blkOk_by (own := [("number", 2)]) (N := n_gates) (sc := defScope s_gates) (by decide +kernel)) (fun _ _ _ _ _ => (pg_name (i := 2) sc_gates.nd rfl (Or.inl rfl))) (fun _ _ _ _ _ => (pts_one (PW.pt (pw_or (pt_val (pe_ix (r := rIxT K) ix_tup (pe_ix (r := rIxT K) ix_tup (pv 0) (pv 2) (fun _ _ => rfl)) pe_int (fun _ _ => rfl))) (pw_or1 (pt_truthK K rfl (pe_callD d_steps_out (hr.mono (by decide)) rfl (pa_cons (pv 0) (pa_cons (pv 1) (pa_cons (pv 2) pa_nil)))) (by intro _; rfl))))))) (fun _ _ _ _ _ => (pv 2))))), ?_⟩
  refine ⟨_, rfl, oa, rfl, ⟨_, sL ho⟩, fun D nD => ?_⟩
  refine lc_list (K := K) (a := oa) (xs := natV o) (fun j H' => Same H H' ∧ H' D = some (.lst (natV ((o.take j).filter (gateB M o))))) ⟨.new nD, upd_same⟩ (fun j H' _ ⟨g, _⟩ => sL (g _ _ ho)) ?_ ?_
  · rintro j v H1 hv1 ⟨s1, hD⟩
    obtain ⟨x, hx, rfl⟩ := ints_get hv1
    have hxl := hlt x (List.mem_of_getElem? hx)
    have hj := (List.getElem?_eq_some_iff.mp hx).1
    obtain ⟨r, hr'⟩ : ∃ r, M[x]? = some r := ⟨_, List.getElem?_eq_getElem hxl⟩
    obtain ⟨ra, b, ls, e1, e2, e3, e4⟩ := rmsAt hrs hr'
    have hlen : ((o.take j).filter (gateB M o)).length ≤ 1000 := Nat.le_trans (List.length_filter_le _ _) (by rw [List.length_take]; omega)
    have yes : ∀ H2, Same H1 H2 → gateB M o x = true → ∃ acc, H2 D = some (.lst acc) ∧ acc.length < sizeLine ∧ Same H (upd H2 D (.lst (acc ++ [.int (x : Int)]))) ∧ (upd H2 D (.lst (acc ++ [.int (x : Int)]))) D = some (.lst (natV ((o.take (j + 1)).filter (gateB M o)))) := by
      intro H2 s2 hg
      refine ⟨_, s2 _ _ hD, szb (by rw [ints_len]; omega), (s1.trans s2).mut nD, ?_⟩
      rw [upd_same, take_snoc hx, List.filter_append, List.filter_cons_of_pos hg, List.filter_nil, ints_app]
      rfl
    refine ⟨rfl, ?_⟩
    refine ⟨_, rfl, _, rfl, ma, _, _, _, rfl, rfl, s1.sqT hma, atI_nat e1, ra, _, 0, _, rfl, rfl, s1.sqT e2, atI_nat (j := 0) rfl, _, rfl, ite2 (fun he => ?_) (fun hne => ?_)⟩
    · refine iteT ⟨_, rfl, yes H1 (Same.refl _) ?_⟩
      unfold gateB
      rw [endsOf_at hr', show r.1 = true from he]
      rfl
    · have hne' : r.1 = false := by simpa using hne
      refine ⟨_, rfl, _, rfl, _, rfl, _, M, oa, o, x, rfl, dpS s1 hv, hM, s1 _ _ ho, hxl, fun H2 t us s2 ht hus => ?_⟩
      have eg : gateB M o x = !us.isEmpty := by
        have hul := dpsLen hus
        rw [List.length_map] at hul
        unfold gateB
        rw [endsOf_at hr', hne', Bool.false_or]
        cases hO : outS M o x with
        | nil =>
          rw [hO] at hul
          cases us with
          | nil => rfl
          | cons a l => cases hul
        | cons a l =>
          rw [hO] at hul
          cases us with
          | nil => cases hul
          | cons a l => rfl
      refine ⟨_, .inr (.inl ⟨us, ht, rfl⟩), ?_⟩
      rw [← eg]
      refine ite2 (fun hg => ⟨_, rfl, yes _ s2 hg⟩) (fun hg => ?_)
      refine ⟨s1.trans s2, ?_⟩
      rw [take_snoc hx, List.filter_append, List.filter_cons_of_neg hg, List.filter_nil, List.append_nil]
      exact s2 _ _ hD
  · rintro H1 ⟨s1, hD⟩
    rw [ints_len, List.take_length] at hD
    exact k _ D s1 hD nD
end
end Sw
set_option Elab.async false
set_option maxRecDepth 100000
set_option maxHeartbeats 8000000
namespace Sw
open PySem L2 PySem.Spec PyProof.Rows
theorem countRm (rs : List Rm) (r : Rm) : (rs.map rmD).countP (fun z => PyData.eqv z (rmD r)) = rs.countP fun s => decide (s = r) := by
  rw [List.countP_map]
  congr 1
  funext s
  exact eqvRm s r
/-- what is placed: a dict of numbers -/
def pdK (P : List Nat) : List (Key × V) := P.map fun k : Nat => ((Sum.inl (k : Int) : Key), V.bl true)
theorem pdK_len (P : List Nat) : (pdK P).length = P.length := List.length_map ..
theorem pdK_get (k : Nat) : ∀ P : List Nat, (valV (pdK P) (.inl (k : Int))).isSome = decide (k ∈ P)
  | [] => by simp [pdK, valV_nil]
  | x :: P => by
    by_cases e : x = k
    · subst e
      unfold pdK
      rw [List.map_cons, valV_pos rfl]
      simp
    · unfold pdK
      rw [List.map_cons, valV_neg (by intro h; have := Sum.inl.inj h; omega)]
      have := pdK_get k P
      unfold pdK at this
      rw [this]
      have : ¬ k = x := fun h => e h.symm
      simp [this]
theorem pdK_put {P : List Nat} {k : Nat} (h : k ∉ P) : putK (pdK P) (.inl (k : Int)) (.bl true) = pdK (P ++ [k]) := by
  have e : valV (pdK P) (.inl (k : Int)) = none := by
    have := pdK_get k P
    rw [decide_eq_false h] at this
    exact Option.not_isSome_iff_eq_none.mp (by rw [this]; decide)
  rw [putK_new _ e]
  unfold pdK
  rw [List.map_append]
  rfl
section
variable {P : Program} {w : World} {K : PySem.W.Frag} {mg : Str → Option Value} {base : Heap}
end
end Sw
set_option Elab.async false
set_option maxRecDepth 100000
set_option maxHeartbeats 8000000
namespace Sw
open PySem L2 PySem.Spec PyProof.Rows
theorem Pl.len {E : Nat → List Nat} {n first : Nat} {P T A : List Nat} (h : Pl E n first P T A) : T.length ≤ n := nodup_le h.nd h.lt
theorem natV_snoc (A : List Nat) (x : Nat) : natV (A ++ [x]) = natV A ++ [V.int (x : Int)] := by rw [ints_app]; rfl
section
variable {P : Program} {w : World} {K : PySem.W.Frag} {mg : Str → Option Value} {base : Heap}
abbrev n_placed_by : List Str := ["back", "first", "placed", "told", "ahead", "number"]
theorem sc_placed_by : FnScope n_placed_by ["back", "first", "placed"] (defScope s_placed_by) := ⟨rfl, rfl, rfl, by decide +kernel, rfl, by decide +kernel, by decide +kernel⟩
/-- what leads to each room -/
structure BkAt (H : Hp) (bl : Addr) (E : Nat → List Nat) (n : Nat) : Prop where
  ex : ∃ (as : List Addr) (B : List (List Nat)), H bl = some (.lst (as.map V.ref)) ∧ Paired (fun a c => H a = some (.lst (natV c))) as B ∧ B.length = n ∧ ∀ (x : Nat) (ys : List Nat), B[x]? = some ys → ys.length ≤ 1000 ∧ ∀ y, y ∈ ys ↔ y < n ∧ x ∈ E y
theorem BkAt.same {H H' : Hp} {bl : Addr} {E : Nat → List Nat} {n : Nat} (h : BkAt H bl E n) (s : ∀ a xs, H a = some (.lst xs) → H' a = some (.lst xs)) : BkAt H' bl E n := by
  obtain ⟨as, B, h1, h2, h3, h4⟩ := h.ex
  exact ⟨as, B, s _ _ h1, pairedMap h2 fun a c q => s _ _ q, h3, h4⟩
def spPlaced : Sp := fun vs H Q _ => ∃ (bl pd : Addr) (E : Nat → List Nat) (n first : Nat) (P : List Nat), vs = [.ref bl, .int (first : Int), .ref pd] ∧ BkAt H bl E n ∧ n ≤ 100 ∧ H pd = some (.dK (pdK P)) ∧ P.length ≤ 100 ∧ first ∉ P ∧ first < n ∧
  ∀ H' p (T c : List Nat), But pd H H' → H' pd = some (.dK (pdK (P ++ T))) → H' p = some (.lst (natV c)) → H p = none → up c → c.Perm T → Pl E n first P T [] → Q (.ref p) H'
theorem ok_placed_by (F : DefAt K mg "_placed_by" s_placed_by ["back", "first", "placed"]) (b_sorted : mg "sorted" = none) : DefOk P w K mg base "_placed_by" 1 ["back", "first", "placed"] spPlaced := by
  refine F.ok sc_placed_by (fun vs H Q E h => ?_) (fun f cdv A outer s H vs Q E hr h => ?_)
  · obtain ⟨_, _, _, _, _, _, rfl, _⟩ := h
    rfl
  obtain ⟨bl, pd, Eg, n, first, Pp, rfl, hbk, hn, hpd, hPl, hfP, hfn, k⟩ := h
  have hu := hu_of hr
  obtain ⟨as, B, hbl, hB, hBl, hBm⟩ := hbk.ex
  have keep : ∀ {H' : Hp} {a : Addr} {xs : List V}, But pd H H' → H a = some (.lst xs) → H' a = some (.lst xs) := fun b q => b _ _ q (fun e => by rw [e, hpd] at q; cases q)
  refine ⟨_, (pss_cons (ps_set (i := 3) sc_placed_by.nd rfl (Or.inl rfl) (pe_lst (pa_cons (pv 1) pa_nil)))
    (pss_cons (ps_dput hu (pv 2) (pv 1) pe_bl rfl)
    (pss_cons (ps_set (i := 4) sc_placed_by.nd rfl (Or.inl rfl) (pe_lst (pa_cons (pv 1) pa_nil)))
    (pss_cons (ps_while PassesOwn.never (pt_truth (pv 4) (by intro _; rfl)) (pss_one (ps_for PassesOwn.never rfl (pi_list (pe_ix ix_list (pv 0) (pe_bm0 PySem.F.plainAttrs_list PySem.F.slot_list_pop PySem.F.type_list_pop mt_pop (pv 4)) (fun _ _ => rfl))) (pg_name (i := 5) sc_placed_by.nd rfl (Or.inl rfl))
      (pss_one (ps_if (pt_cmp (pc_dnotin hu (pv 5) (pv 2)) rfl) (pss_cons (ps_dput hu (pv 2) (pv 5) pe_bl rfl)
    (pss_cons (ps_expr (pe_bm PySem.F.plainAttrs_list PySem.F.slot_list_append PySem.F.type_list_append mt_append (pv 3) (pa_cons (pv 5) pa_nil)))
    (pss_one (ps_expr (pe_bm PySem.F.plainAttrs_list PySem.F.slot_list_append PySem.F.type_list_append mt_append (pv 4) (pa_cons (pv 5) pa_nil)))))) pss_nil)))))
    (pss_one (ps_ret (pe_callB cr_sortedI (by rfl) b_sorted (by decide +kernel) (pa_cons (pv 3) pa_nil)))))))), ?_⟩
  refine ⟨_, rfl, (by show 1 ≤ sizeLine; decide), fun tl ntl => ?_⟩
  have s1 : Same H (upd H tl (.lst [.int (first : Int)])) := .new ntl
  have htl1 : (upd H tl (.lst [.int (first : Int)])) tl = some (.lst (natV [first])) := upd_same
  have npt : tl ≠ pd := (ne_of_none hpd ntl).symm
  generalize upd H tl (.lst [.int (first : Int)]) = H1 at s1 htl1 ⊢
  refine ⟨_, rfl, _, rfl, pd, _, rfl, DPut.k (k := .inl (first : Int)) (s1 _ _ hpd) (szb (by rw [pdK_len]; omega)), ?_⟩
  rw [pdK_put hfP]
  have b2 : But pd H (upd H1 pd (.dK (pdK (Pp ++ [first])))) := (But.of s1).upd
  have hpd2 : (upd H1 pd (.dK (pdK (Pp ++ [first])))) pd = some (.dK (pdK (Pp ++ [first]))) := upd_same
  have htl2 : (upd H1 pd (.dK (pdK (Pp ++ [first])))) tl = some (.lst (natV [first])) := by rw [upd_ne npt]; exact htl1
  generalize upd H1 pd (.dK (pdK (Pp ++ [first]))) = H2 at b2 hpd2 htl2 ⊢
  refine ⟨_, rfl, (by show 1 ≤ sizeLine; decide), fun al nal => ?_⟩
  have npa : al ≠ pd := (ne_of_none hpd2 nal).symm
  have nta : tl ≠ al := ne_of_none htl2 nal
  have nalH : H al = none := b2.free nal npa
  have s3 : Same H2 (upd H2 al (.lst [.int (first : Int)])) := .new nal
  refine ⟨fun m σ H' => ∃ (T A : List Nat) (o5 : Option V), σ = [some (.ref bl), some (.int (first : Int)), some (.ref pd), some (.ref tl), some (.ref al), o5] ∧ m = 2 * (n - T.length) + A.length ∧ But pd H H' ∧ H' pd = some (.dK (pdK (Pp ++ T))) ∧ H' tl = some (.lst (natV T)) ∧ H' al = some (.lst (natV A)) ∧ Pl Eg n first Pp T A ∧ A.length ≤ T.length,
    ⟨_, [first], [first], none, rfl, rfl, b2.trans (.of s3), s3 _ _ hpd2, s3 _ _ htl2, upd_same, .start hfP hfn, Nat.le_refl _⟩, ?_⟩
  rintro m σ H3 ⟨T, A, o5, rfl, rfl, b3, hpd3, htl3, hal3, hP, hAT⟩
  refine ⟨_, rfl, _, .inl ⟨_, sL hal3, rfl⟩, ?_⟩
  rcases List.eq_nil_or_concat A with rfl | ⟨A', x, rfl⟩
  · -- all gone through
    refine iteF ⟨_, rfl, tl, T.map fun n : Nat => (n : Int), rfl, by rw [← natV_ints]; exact sL htl3, fun ns' p hperm hs np => ?_⟩
    obtain ⟨c, hc, upc, pc⟩ := sorted_nat hperm hs hP.nd
    rw [hc]
    have sp : Same H3 (upd H3 p (.lst (natV c))) := .new np
    have npp : p ≠ pd := (ne_of_none hpd3 np).symm
    exact k _ p T c (b3.trans (.of sp)) (sp _ _ hpd3) upd_same (b3.free np npp) upc pc hP
  · rw [List.concat_eq_append] at hal3 hP hAT ⊢
    rw [List.length_append, List.length_singleton] at hAT
    refine iteT' (by rw [natV_snoc]; simp) ?_
    have hTl := hP.len
    have hxT : x ∈ T := hP.sub x (by simp)
    have hxn := hP.lt x hxT
    obtain ⟨ys, hys⟩ : ∃ ys, B[x]? = some ys := ⟨_, List.getElem?_eq_getElem (by omega)⟩
    obtain ⟨ax, hax, hya⟩ := pairedAtL' hB hys
    obtain ⟨hyl, hym⟩ := hBm x ys hys
    have nax : ax ≠ al := ne_of_none hya nalH
    have naxt : ax ≠ tl := ne_of_none hya ntl
    have nbl : bl ≠ al := ne_of_none hbl nalH
    have addlt : ∀ j, (T ++ adds Pp T (ys.take j)).length ≤ n := fun j => nodup_le (adds_nd hP.nd) fun y hy => by
      rcases List.mem_append.mp hy with hy | hy
      · exact hP.lt y hy
      · exact ((hym y).mp (List.mem_of_mem_take (adds_mem hy).1)).1
    refine ⟨fun σ' H' => ∃ (o5 : Option V), σ' = [some (.ref bl), some (.int (first : Int)), some (.ref pd), some (.ref tl), some (.ref al), o5] ∧ But pd H H' ∧ H' pd = some (.dK (pdK (Pp ++ (T ++ adds Pp T ys)))) ∧ H' tl = some (.lst (natV (T ++ adds Pp T ys))) ∧ H' al = some (.lst (natV (A' ++ adds Pp T ys))), ?_, ?_⟩
    · rintro σ' H' ⟨o5, rfl, g1, g2, g3, g4⟩
      have hP' : Pl Eg n first Pp (T ++ adds Pp T ys) (A' ++ adds Pp T ys) := hP.turn hym
      have hl' := hP'.len
      rw [List.length_append] at hl'
      refine ⟨_, ?_, T ++ adds Pp T ys, A' ++ adds Pp T ys, o5, rfl, rfl, g1, g2, g3, g4, hP', by rw [List.length_append, List.length_append]; omega⟩
      rw [List.length_append, List.length_append, List.length_append, List.length_singleton]
      omega
    refine ⟨_, rfl, _, rfl, .inl ⟨rfl, _, .inl (.inl hal3)⟩, al, _, .int (x : Int), rfl, rfl, hal3, by rw [natV_snoc]; simp, ?_⟩
    rw [natV_snoc, List.dropLast_concat]
    have b4 : But pd H (upd H3 al (.lst (natV A'))) := fun b o e nb => by rw [upd_ne (ne_of_none e nalH)]; exact b3 b o e nb
    have hpd4 : (upd H3 al (.lst (natV A'))) pd = some (.dK (pdK (Pp ++ T))) := by rw [upd_ne npa.symm]; exact hpd3
    have htl4 : (upd H3 al (.lst (natV A'))) tl = some (.lst (natV T)) := by rw [upd_ne nta]; exact htl3
    have hal4 : (upd H3 al (.lst (natV A'))) al = some (.lst (natV A')) := upd_same
    generalize upd H3 al (.lst (natV A')) = H4 at b4 hpd4 htl4 hal4 ⊢
    refine ⟨bl, _, _, _, rfl, rfl, sL (keep b4 hbl), atI_nat (by rw [List.getElem?_map, hax]; rfl), ax, rfl, ⟨_, sL (keep b4 hya)⟩, ?_⟩
    refine for_list (K := K) (a := ax) (xs := natV ys) (fun j σ H' => ∃ (o5 : Option V), σ = [some (.ref bl), some (.int (first : Int)), some (.ref pd), some (.ref tl), some (.ref al), o5] ∧ But pd H H' ∧ H' pd = some (.dK (pdK (Pp ++ (T ++ adds Pp T (ys.take j))))) ∧ H' tl = some (.lst (natV (T ++ adds Pp T (ys.take j)))) ∧ H' al = some (.lst (natV (A' ++ adds Pp T (ys.take j)))))
      ⟨o5, rfl, b4, by simpa [adds] using hpd4, by simpa [adds] using htl4, by simpa [adds] using hal4⟩ (fun j σ H' _ ⟨_, _, g, _⟩ => sL (keep g hya)) ?_ ?_
    · rintro j v σ H5 hv ⟨o5, rfl, b5, hpd5, htl5, hal5⟩
      obtain ⟨y, hy, rfl⟩ := ints_get hv
      have hal' := addlt j
      have hA'l : A'.length ≤ n := by omega
      have hPl5 : (Pp ++ (T ++ adds Pp T (ys.take j))).length ≤ 200 := by rw [List.length_append]; omega
      refine ⟨_, rfl, _, rfl, pd, _, rfl, DGet.k (k := .inl (y : Int)) hpd5, _, rfl, ?_⟩
      rw [pdK_get]
      have enext : adds Pp T (ys.take (j + 1)) = if y ∈ Pp ∨ y ∈ T ++ adds Pp T (ys.take j) then adds Pp T (ys.take j) else adds Pp T (ys.take j) ++ [y] := by rw [take_snoc hy, adds_cons]
      refine ite2 (fun hn => ?_) (fun hy' => ?_)
      · have hn' : y ∉ Pp ++ (T ++ adds Pp T (ys.take j)) := by simpa using hn
        have hn2 : ¬ (y ∈ Pp ∨ y ∈ T ++ adds Pp T (ys.take j)) := fun q => hn' (List.mem_append.mpr q)
        rw [if_neg hn2] at enext
        rw [enext]
        refine ⟨_, rfl, _, rfl, pd, _, rfl, DPut.k (k := .inl (y : Int)) hpd5 (szb (by rw [pdK_len]; omega)), ?_⟩
        rw [pdK_put hn']
        have b6 : But pd H (upd H5 pd (.dK (pdK (Pp ++ (T ++ adds Pp T (ys.take j)) ++ [y])))) := b5.upd
        have hpd6 : (upd H5 pd (.dK (pdK (Pp ++ (T ++ adds Pp T (ys.take j)) ++ [y])))) pd = some (.dK (pdK (Pp ++ (T ++ adds Pp T (ys.take j)) ++ [y]))) := upd_same
        have htl6 : (upd H5 pd (.dK (pdK (Pp ++ (T ++ adds Pp T (ys.take j)) ++ [y])))) tl = some (.lst (natV (T ++ adds Pp T (ys.take j)))) := by rw [upd_ne npt]; exact htl5
        have hal6 : (upd H5 pd (.dK (pdK (Pp ++ (T ++ adds Pp T (ys.take j)) ++ [y])))) al = some (.lst (natV (A' ++ adds Pp T (ys.take j)))) := by rw [upd_ne npa]; exact hal5
        generalize upd H5 pd (.dK (pdK (Pp ++ (T ++ adds Pp T (ys.take j)) ++ [y]))) = H6 at b6 hpd6 htl6 hal6 ⊢
        refine ⟨_, rfl, .inl ⟨rfl, _, .inl (.inl htl6)⟩, _, rfl, tl, _, _, rfl, rfl, htl6, szb (by rw [ints_len]; omega), ?_⟩
        have b7 : But pd H (upd H6 tl (.lst (natV (T ++ adds Pp T (ys.take j)) ++ [.int (y : Int)]))) := fun b o e nb => by rw [upd_ne (ne_of_none e ntl)]; exact b6 b o e nb
        have hpd7 : (upd H6 tl (.lst (natV (T ++ adds Pp T (ys.take j)) ++ [.int (y : Int)]))) pd = some (.dK (pdK (Pp ++ (T ++ adds Pp T (ys.take j)) ++ [y]))) := by rw [upd_ne npt.symm]; exact hpd6
        have htl7 : (upd H6 tl (.lst (natV (T ++ adds Pp T (ys.take j)) ++ [.int (y : Int)]))) tl = some (.lst (natV (T ++ adds Pp T (ys.take j)) ++ [.int (y : Int)])) := upd_same
        have hal7 : (upd H6 tl (.lst (natV (T ++ adds Pp T (ys.take j)) ++ [.int (y : Int)]))) al = some (.lst (natV (A' ++ adds Pp T (ys.take j)))) := by rw [upd_ne nta.symm]; exact hal6
        generalize upd H6 tl (.lst (natV (T ++ adds Pp T (ys.take j)) ++ [.int (y : Int)])) = H7 at b7 hpd7 htl7 hal7 ⊢
        rw [List.length_append] at hal'
        refine ⟨_, rfl, .inl ⟨rfl, _, .inl (.inl hal7)⟩, _, rfl, al, _, _, rfl, rfl, hal7, szb (by rw [ints_len, List.length_append]; omega), ?_⟩
        refine ⟨_, rfl, fun b o e nb => ?_, ?_, ?_, ?_⟩
        · rw [upd_ne (ne_of_none e nalH)]; exact b7 b o e nb
        · rw [upd_ne npa.symm, hpd7]; simp
        · rw [upd_ne nta, htl7, ← natV_snoc]; simp
        · rw [upd_same, ← natV_snoc]; simp
      · have hy2 : y ∈ Pp ∨ y ∈ T ++ adds Pp T (ys.take j) := by
          have : y ∈ Pp ++ (T ++ adds Pp T (ys.take j)) := Decidable.of_not_not fun q => hy' (by rw [decide_eq_false q]; rfl)
          exact List.mem_append.mp this
        rw [if_pos hy2] at enext
        rw [enext]
        exact ⟨_, rfl, b5, hpd5, htl5, hal5⟩
    · rintro σ H5 ⟨o5, rfl, b5, hpd5, htl5, hal5⟩
      rw [ints_len, List.take_length] at hpd5 htl5 hal5
      exact ⟨_, rfl, b5, hpd5, htl5, hal5⟩
end
end Sw
set_option Elab.async false
set_option maxRecDepth 100000
set_option maxHeartbeats 8000000
namespace Sw
open PySem L2 PySem.Spec PyProof.Rows
def etD (e : Ent) : PyData := .tuple [.int (e.1 : Int), .bool e.2]
theorem noL_et (e : Ent) : noL (etD e) = true := by simp [etD, noL, noLs]
theorem noLs_et : ∀ l : List Ent, noLs (l.map etD) = true
  | [] => by simp [noLs]
  | p :: l => by rw [List.map_cons, noLs, noL_et, noLs_et l]; rfl
theorem etAt {K : PySem.W.Frag} {H : Hp} {v : V} {e : Ent} (h : Dp K H v (etD e)) : ∃ a, v = .ref a ∧ SqT K H a [.int (e.1 : Int), .bl e.2] := by
  obtain ⟨a, xs, rfl, h1, h2⟩ := dpTup h
  obtain ⟨x, us, rfl, q, h3⟩ := dpCons h2
  cases dpInt q
  obtain ⟨y, us, rfl, q, h4⟩ := dpCons h3
  cases q
  cases dpNil h4
  exact ⟨a, rfl, h1⟩
theorem dpsSnoc {K : PySem.W.Frag} {H : Hp} : ∀ {ds : List PyData} {d : PyData} {es : List V}, DpAll K H es (ds ++ [d]) → ∃ es' v, es = es' ++ [v] ∧ DpAll K H es' ds ∧ Dp K H v d
  | [], d, es, h => by
    obtain ⟨v, us, rfl, h1, h2⟩ := dpCons h
    cases dpNil h2
    exact ⟨[], v, rfl, .nil, h1⟩
  | d0 :: ds, d, es, h => by
    obtain ⟨v, us, rfl, h1, h2⟩ := dpCons (show DpAll K H es (d0 :: (ds ++ [d])) from h)
    obtain ⟨es', u, rfl, h3, h4⟩ := dpsSnoc h2
    exact ⟨v :: es', u, rfl, .cons h1 h3, h4⟩
/-- tuples stay where a dict is written -/
theorem sqTD {K : PySem.W.Frag} {H : Hp} {p a : Addr} {kvs : List (Key × V)} {ys : List V} {o : HO} (h : H p = some (.dK kvs)) (t : SqT K H a ys) : SqT K (upd H p o) a ys := by
  rcases t with t | t
  · have n : a ≠ p := by
      rintro rfl
      rcases t with t | ⟨o, t⟩ <;> (rw [h] at t; cases t)
    rcases t with t | ⟨o, t⟩
    · exact .inl (.inl (by rw [upd_ne n]; exact t))
    · exact .inl (.inr ⟨o, by rw [upd_ne n]; exact t⟩)
  · exact .inr t
theorem addEnt {K : PySem.W.Frag} {H : Hp} {A t : Addr} {as : List V} {L : List Ent} {e : Ent} (hA : H A = some (.lst as)) (has : DpAll K H as (L.map etD)) (nt : H t = none) :
    DpAll K (upd (upd H t (.tup [.int (e.1 : Int), .bl e.2])) A (.lst (as ++ [.ref t]))) (as ++ [.ref t]) ((L ++ [e]).map etD) := by
  have s6 : Same H (upd H t (.tup [.int (e.1 : Int), .bl e.2])) := .new nt
  have hA6 := s6 _ _ hA
  rw [List.map_append]
  refine dpsApp (dpsW hA6 (noLs_et L) (dpsS s6 has)) (.cons ?_ .nil)
  exact .tup (sqTW hA6 (sT upd_same)) (.cons (.int _) (.cons (.bl _) .nil))
section
variable {P : Program} {w : World} {K : PySem.W.Frag} {mg : Str → Option Value} {base : Heap}
abbrev n_in_order_left : List Str := ["machine", "told", "entered", "ahead", "number", "left", "_", "behind"]
theorem sc_in_order_left : FnScope n_in_order_left ["machine"] (defScope s_in_order_left) := ⟨rfl, rfl, rfl, by decide +kernel, rfl, by decide +kernel, by decide +kernel⟩
def spLeft (K : PySem.W.Frag) : Sp := fun vs H Q _ => ∃ (v : V) (M : List Rm), vs = [v] ∧ Dp K H v (maD M) ∧ MOk M ∧ ∀ H' p (F : List Nat), Same H H' → H' p = some (.lst (natV F)) → H p = none → Left (Eg M) M.length F → Q (.ref p) H'
theorem ok_in_order_left (F : DefAt K mg "_in_order_left" s_in_order_left ["machine"]) (b_len : mg "len" = none) (b_range : mg "range" = none) : DefOk P w K mg base "_in_order_left" 1 ["machine"] (spLeft K) := by
  refine F.ok sc_in_order_left (fun vs H Q E h => ?_) (fun f cdv A outer s H vs Q E hr h => ?_)
  · obtain ⟨_, _, rfl, _⟩ := h
    rfl
  obtain ⟨v, M, rfl, hv, hM, k⟩ := h
  obtain ⟨ma, rs, rfl, hma, hrs⟩ := dpTup hv
  have hlen := dpsLen hrs
  rw [List.length_map] at hlen
  have hMl := hM.le
  have hE := Eg_lt hM
  have hu := hu_of hr
  refine ⟨_, (pss_cons (ps_set (i := 1) sc_in_order_left.nd rfl (Or.inl rfl) (pe_lst pa_nil))
    (pss_cons (ps_set (i := 2) sc_in_order_left.nd rfl (Or.inl rfl) pe_dnewK)
    (pss_cons (ps_setLc (i := 3) (own := [("number", 4)]) (g := gName 4) rfl sc_in_order_left.nd rfl rfl (sw_true rfl rfl rfl (by decide +kernel)) (pi_range1 rfl b_range (pa_cons (pe_callB call_len_seq (by rfl) b_len PySem.boot_len (pa_cons (pv 0) pa_nil)) pa_nil)) (blkOk_by (own := [("number", 4)]) (N := n_in_order_left) (sc := defScope s_in_order_left) (by decide +kernel)) (fun _ _ _ _ _ => (pg_name (i := 4) sc_in_order_left.nd rfl (Or.inl rfl))) (fun _ _ _ _ _ => pts_nil) (fun _ _ _ _ _ => (pe_tup (pa_cons (pv 4) (pa_cons pe_bl pa_nil)))))
    (pss_cons (ps_while PassesOwn.never (pt_truth (pv 3) (by intro _; rfl)) (pss_cons (ps_asg (pe_bm0 PySem.F.plainAttrs_list PySem.F.slot_list_pop PySem.F.type_list_pop mt_pop (pv 3)) (pg_tup rfl (pgs_cons (pg_name (i := 4) sc_in_order_left.nd rfl (Or.inl rfl)) (pgs_cons (pg_name (i := 5) sc_in_order_left.nd rfl (Or.inl rfl)) pgs_nil))))
    (pss_one (ps_if (pt_val (pv 5)) (pss_one (ps_expr (pe_bm PySem.F.plainAttrs_list PySem.F.slot_list_append PySem.F.type_list_append mt_append (pv 1) (pa_cons (pv 4) pa_nil)))) (pss_one (ps_if (pt_cmp (pc_dnotin hu (pv 4) (pv 2)) rfl) (pss_cons (ps_dput hu (pv 2) (pv 4) pe_bl rfl)
    (pss_cons (ps_expr (pe_bm PySem.F.plainAttrs_list PySem.F.slot_list_append PySem.F.type_list_append mt_append (pv 3) (pa_cons (pe_tup (pa_cons (pv 4) (pa_cons pe_bl pa_nil))) pa_nil)))
    (pss_one (ps_expr (pe_bm PySem.F.plainAttrs_list PySem.F.slot_list_extend PySem.F.type_list_extend mt_extend (pv 3) (pa_cons (pe_lc (own := [("_", 6), ("behind", 7)]) (g := gTup K 2 (gCons (gName 6) (gCons (gName 7) gNil))) rfl sc_in_order_left.nd (pi_tup (pe_ix ix_tup (pe_ix ix_tup (pv 0) (pv 4) (fun _ _ => rfl)) pe_int (fun _ _ => rfl))) (blkOk_by (own := [("_", 6), ("behind", 7)]) (N := n_in_order_left) (sc := defScope s_in_order_left) (by decide +kernel)) (fun _ _ _ _ _ => (pg_tup rfl (pgs_cons (pg_name (i := 6) sc_in_order_left.nd rfl (Or.inl rfl)) (pgs_cons (pg_name (i := 7) sc_in_order_left.nd rfl (Or.inl rfl)) pgs_nil)))) (fun _ _ _ _ _ => pts_nil) (fun _ _ _ _ _ => (pe_tup (pa_cons (pv 7) (pa_cons pe_bl pa_nil))))) pa_nil)))))) pss_nil))))))
    (pss_one (ps_ret (pv 1))))))), ?_⟩
  refine ⟨(by show 0 ≤ sizeLine; decide), fun tl ntl ed ned => ?_⟩
  have s1 : Same H (upd H tl (.lst [])) := .new ntl
  have htl1 : (upd H tl (.lst [])) tl = some (.lst []) := upd_same
  generalize upd H tl (.lst []) = H1 at s1 htl1 ned ⊢
  have s2 : Same H1 (upd H1 ed (.dK [])) := .new ned
  have hed2 : (upd H1 ed (.dK [])) ed = some (.dK []) := upd_same
  have nte : tl ≠ ed := ne_of_none htl1 ned
  have nedH : H ed = none := by
    cases e : H ed with
    | none => rfl
    | some o => rw [s1 _ _ e] at ned; cases ned
  generalize upd H1 ed (.dK []) = H2 at s2 hed2 ⊢
  have htl2 := s2 _ _ htl1
  have s12 := s1.trans s2
  refine ⟨_, rfl, ma, _, rfl, .inr (s12.sqT hma), _, rfl, by omega, by omega, fun al nal => ?_⟩
  have nta : tl ≠ al := ne_of_none htl2 nal
  have nea : ed ≠ al := ne_of_none hed2 nal
  have nalH : H al = none := by
    cases e : H al with
    | none => rfl
    | some o => rw [s12 _ _ e] at nal; cases nal
  refine lc_range (lo := 0) (n := (rs.length : Int).toNat) (fun i H' => ∃ es : List V, Same H2 H' ∧ H' al = some (.lst es) ∧ DpAll K H' es (((List.range i).map fun k => ((k, false) : Ent)).map etD) ∧ es.length = i) ⟨[], .new nal, upd_same, .nil, rfl⟩ ?_ ?_
  · rintro i H3 hi ⟨es, s3, hal, hes, hel⟩
    refine ⟨rfl, _, rfl, (by show 2 ≤ sizeLine; decide), fun t nt => ?_⟩
    have ei : (0 + (i : Int)) = ((i : Nat) : Int) := by omega
    rw [ei]
    have st : Same H3 (upd H3 t (.tup [.int (i : Int), .bl false])) := .new nt
    refine ⟨es, st _ _ hal, szb (by omega), es ++ [.ref t], (s3.trans st).mut nal, upd_same, ?_, by rw [List.length_append, List.length_singleton, hel]⟩
    rw [range_succ_map]
    exact addEnt (e := (i, false)) hal hes nt
  · rintro H3 ⟨es0, s3, hal3, hes3, hel3⟩
    rw [Int.toNat_natCast, hlen] at hes3 hel3
    have s13 := s12.trans s3
    refine ⟨fun m σ H' => ∃ (S : List Ent) (F X : List Nat) (es : List V) (o4 o5 : Option V), σ = [some (.ref ma), some (.ref tl), some (.ref ed), some (.ref al), o4, o5, none, none] ∧ m = meas M.length 6 S F ∧ Same H H' ∧ H' tl = some (.lst (natV F)) ∧ H' ed = some (.dK (pdK X)) ∧ (∀ x, x ∈ X ↔ Xd S F x) ∧ X.Nodup ∧ H' al = some (.lst es) ∧ DpAll K H' es (S.reverse.map etD) ∧ DI (Eg M) M.length S F ∧ S.length ≤ 100 + 7 * X.length,
      ⟨_, (List.range M.length).reverse.map (fun k => (k, false)), [], [], es0, none, none, rfl, rfl, s13, s3 _ _ htl2, s3 _ _ hed2, fun x => ?_, .nil, hal3, by rw [← List.map_reverse, List.reverse_reverse]; exact hes3, .start _, by simp; omega⟩, ?_⟩
    · constructor
      · intro h; cases h
      · intro h
        rcases h with h | h
        · cases h
        · simp at h
    rintro m σ H4 ⟨S, F, X, es, o4, o5, rfl, rfl, s4, htl, hed, hX, ndX, hal, hes, hDI, hSl⟩
    refine ⟨_, rfl, _, .inl ⟨_, sL hal, rfl⟩, ?_⟩
    have hXn : X.length ≤ M.length := nodup_le ndX fun x hx => by
      rcases (hX x).mp hx with h | h
      · exact hDI.bF x h
      · exact hDI.bS _ h
    have hFl : F.length ≤ M.length := nodup_le (List.nodup_append.mp hDI.nd).1 hDI.bF
    have hesl := dpsLen hes
    rw [List.length_map, List.length_reverse] at hesl
    cases S with
    | nil =>
      cases dpNil hes
      exact iteF ⟨_, rfl, k H4 tl F s4 htl ntl hDI.end⟩
    | cons e S =>
      obtain ⟨x, lf⟩ := e
      rw [List.reverse_cons, List.map_append] at hes
      obtain ⟨es', u, rfl, hes', hu'⟩ := dpsSnoc hes
      obtain ⟨t, rfl, ht⟩ := etAt hu'
      have hxn : x < M.length := hDI.bS _ List.mem_cons_self
      rw [List.length_append, List.length_singleton] at hesl
      refine iteT' (by simp) ?_
      refine ⟨_, fun σ' H' q => q, ?_⟩
      refine ⟨_, rfl, .inl ⟨rfl, _, .inl (.inl hal)⟩, al, _, .ref t, rfl, rfl, hal, by simp, ?_⟩
      rw [List.dropLast_concat]
      have s5 : Same H (upd H4 al (.lst es')) := s4.mut nalH
      have htl5 : (upd H4 al (.lst es')) tl = some (.lst (natV F)) := by rw [upd_ne nta]; exact htl
      have hed5 : (upd H4 al (.lst es')) ed = some (.dK (pdK X)) := by rw [upd_ne nea]; exact hed
      have hal5 : (upd H4 al (.lst es')) al = some (.lst es') := upd_same
      have hes5 : DpAll K (upd H4 al (.lst es')) es' (S.reverse.map etD) := dpsW hal (noLs_et _) hes'
      have ht5 : SqT K (upd H4 al (.lst es')) t [.int (x : Int), .bl lf] := sqTW hal ht
      generalize upd H4 al (.lst es') = H5 at s5 htl5 hed5 hal5 hes5 ht5 ⊢
      refine ⟨t, _, rfl, ht5, rfl, _, _, rfl, _, _, rfl, rfl, ?_⟩
      cases lf with
      | true =>
        refine ⟨_, rfl, _, rfl, iteT ?_⟩
        refine ⟨_, rfl, .inl ⟨rfl, _, .inl (.inl htl5)⟩, _, rfl, tl, _, _, rfl, rfl, htl5, szb (by rw [ints_len]; omega), ?_⟩
        refine ⟨_, meas_leave _ _ _ _ _, S, F ++ [x], X, es', _, _, rfl, rfl, s5.mut ntl, by rw [upd_same, ← natV_snoc], by rw [upd_ne nte.symm]; exact hed5, fun y => ?_, ndX, by rw [upd_ne nta.symm]; exact hal5, dpsW htl5 (noLs_et _) hes5, hDI.leave, by simp at hSl; omega⟩
        rw [hX y]
        constructor
        · rintro (h | h)
          · exact .inl (by simp [h])
          · rcases List.mem_cons.mp h with h | h
            · obtain rfl : y = x := congrArg Prod.fst h
              exact .inl (by simp)
            · exact .inr h
        · rintro (h | h)
          · rcases List.mem_append.mp h with h | h
            · exact .inl h
            · rw [List.mem_singleton.mp h]; exact .inr (by simp)
          · exact .inr (List.mem_cons_of_mem _ h)
      | false =>
        refine ⟨_, rfl, _, rfl, iteF ?_⟩
        refine ⟨_, rfl, _, rfl, ed, _, rfl, DGet.k (k := .inl (x : Int)) hed5, _, rfl, ?_⟩
        rw [pdK_get]
        refine ite2 (fun hn => ?_) (fun hy => ?_)
        · have hn' : x ∉ X := by simpa using hn
          have hnX : ¬ Xd ((x, false) :: S) F x := fun q => hn' ((hX x).mpr q)
          obtain ⟨r, hr'⟩ : ∃ r, M[x]? = some r := ⟨_, List.getElem?_eq_getElem hxn⟩
          have hdeg := hM.deg r (List.mem_of_getElem? hr')
          have hEgx : Eg M x = r.2.map (·.2) := by unfold Eg; rw [stepsOf_at hr']
          obtain ⟨ra, b, ls, e1, e2, e3, e4⟩ := rmsAt hrs hr'
          have hls := dpsLen e4
          rw [List.length_map] at hls
          refine ⟨_, rfl, _, rfl, ed, _, rfl, DPut.k (k := .inl (x : Int)) hed5 (szb (by rw [pdK_len]; omega)), ?_⟩
          rw [pdK_put hn']
          have s6 : Same H (upd H5 ed (.dK (pdK (X ++ [x])))) := s5.mut nedH
          have htl6 : (upd H5 ed (.dK (pdK (X ++ [x])))) tl = some (.lst (natV F)) := by rw [upd_ne nte]; exact htl5
          have hed6 : (upd H5 ed (.dK (pdK (X ++ [x])))) ed = some (.dK (pdK (X ++ [x]))) := upd_same
          have hal6 : (upd H5 ed (.dK (pdK (X ++ [x])))) al = some (.lst es') := by rw [upd_ne nea.symm]; exact hal5
          have hes6 : DpAll K (upd H5 ed (.dK (pdK (X ++ [x])))) es' (S.reverse.map etD) := dpAllSameT (fun a xs q => sqTD hed5 q) _ _ (noLs_et _) hes5
          generalize upd H5 ed (.dK (pdK (X ++ [x]))) = H6 at s6 htl6 hed6 hal6 hes6 ⊢
          refine ⟨_, rfl, .inl ⟨rfl, _, .inl (.inl hal6)⟩, _, rfl, (by show 2 ≤ sizeLine; decide), fun q nq => ?_⟩
          have sq : Same H6 (upd H6 q (.tup [.int (x : Int), .bl true])) := .new nq
          have hSl' : S.length ≤ 100 + 7 * X.length := by simp at hSl; omega
          refine ⟨al, es', _, rfl, rfl, sq _ _ hal6, szb (by omega), ?_⟩
          have s7 : Same H (upd (upd H6 q (.tup [.int (x : Int), .bl true])) al (.lst (es' ++ [.ref q]))) := (s6.trans sq).mut nalH
          have htl7 : (upd (upd H6 q (.tup [.int (x : Int), .bl true])) al (.lst (es' ++ [.ref q]))) tl = some (.lst (natV F)) := by rw [upd_ne nta]; exact sq _ _ htl6
          have hed7 : (upd (upd H6 q (.tup [.int (x : Int), .bl true])) al (.lst (es' ++ [.ref q]))) ed = some (.dK (pdK (X ++ [x]))) := by rw [upd_ne nea]; exact sq _ _ hed6
          have hal7 : (upd (upd H6 q (.tup [.int (x : Int), .bl true])) al (.lst (es' ++ [.ref q]))) al = some (.lst (es' ++ [.ref q])) := upd_same
          have hes7 := addEnt (e := (x, true)) hal6 hes6 nq
          generalize upd (upd H6 q (.tup [.int (x : Int), .bl true])) al (.lst (es' ++ [.ref q])) = H7 at s7 htl7 hed7 hal7 hes7 ⊢
          refine ⟨_, rfl, .inl ⟨rfl, _, .inl (.inl hal7)⟩, ?_⟩
          refine ⟨_, rfl, _, rfl, ma, _, _, _, rfl, rfl, s7.sqT hma, atI_nat e1, ra, _, 1, _, rfl, rfl, s7.sqT e2, atI_nat (j := 1) rfl, b, rfl, ⟨_, s7.sqT e3⟩, fun D nD => ?_⟩
          refine lc_tup (K := K) (a := b) (xs := ls) (fun j H' => ∃ us : List V, Same H7 H' ∧ H' D = some (.lst us) ∧ DpAll K H' us (((r.2.take j).map fun p => ((p.2, false) : Ent)).map etD) ∧ us.length ≤ j) ⟨[], .new nD, upd_same, .nil, Nat.zero_le _⟩ (fun j H' _ ⟨_, g, _⟩ => (s7.trans g).sqT e3) ?_ ?_
          · rintro j v H8 hv8 ⟨us, s8, hD, hus, hul⟩
            obtain ⟨p, pa, hp, rfl, hpa⟩ := stsAt e4 hv8
            have hj := (List.getElem?_eq_some_iff.mp hv8).1
            refine ⟨pa, _, rfl, (s7.trans s8).sqT hpa, rfl, _, _, rfl, _, _, rfl, rfl, rfl, ?_⟩
            refine ⟨_, rfl, (by show 2 ≤ sizeLine; decide), fun u nu => ?_⟩
            have su : Same H8 (upd H8 u (.tup [.int (p.2 : Int), .bl false])) := .new nu
            refine ⟨us, su _ _ hD, szb (by omega), us ++ [.ref u], (s8.trans su).mut nD, upd_same, ?_, by rw [List.length_append, List.length_singleton]; omega⟩
            rw [take_snoc hp, List.map_append]
            exact addEnt (e := (p.2, false)) hD hus nu
          · rintro H8 ⟨us, s8, hD, hus, hul⟩
            rw [hls, List.take_length] at hus
            have hul' := dpsLen hus
            rw [List.length_map, List.length_map] at hul'
            have hal8 := s8 _ _ hal7
            have ech : (r.2.map fun p => ((p.2, false) : Ent)) = (Eg M x).map fun k => (k, false) := by rw [hEgx, List.map_map]; rfl
            refine ⟨al, D, _, us, rfl, rfl, hal8, hD, szl (by rw [List.length_append, List.length_singleton]; omega), ?_⟩
            refine ⟨_, meas_enter hE hDI hnX (by rw [hEgx, List.length_map]; exact hdeg), _, F, X ++ [x], _, _, _, rfl, rfl, (s7.trans s8).mut nalH, by rw [upd_ne nta]; exact s8 _ _ htl7, by rw [upd_ne nea]; exact s8 _ _ hed7, fun y => ?_, nodup_snoc ndX hn', upd_same, ?_, hDI.enter hE hnX, ?_⟩
            · rw [List.mem_append, hX y, List.mem_singleton]
              constructor
              · rintro ((h | h) | h)
                · exact .inl h
                · rcases List.mem_cons.mp h with h | h
                  · cases h
                  · exact .inr (by simp [h])
                · rw [h]; exact .inr (by simp)
              · rintro (h | h)
                · exact .inl (.inl h)
                · rcases List.mem_append.mp h with h | h
                  · simp at h
                  · rcases List.mem_cons.mp h with h | h
                    · exact .inr (congrArg Prod.fst h)
                    · exact .inl (.inr (List.mem_cons_of_mem _ h))
            · have e : ((((Eg M x).reverse.map fun k => ((k, false) : Ent)) ++ (x, true) :: S).reverse.map etD) = (S.reverse ++ [(x, true)]).map etD ++ (r.2.map fun p => ((p.2, false) : Ent)).map etD := by
                rw [ech, List.reverse_append, List.reverse_cons, ← List.map_reverse, List.reverse_reverse, List.map_append]
              rw [e]
              exact dpsApp (dpsW hal8 (noLs_et _) (dpsS s8 hes7)) (dpsW hal8 (noLs_et _) hus)
            · rw [List.length_append, List.length_map, List.length_reverse, List.length_cons, List.length_append, List.length_singleton, hEgx, List.length_map]
              omega
        · have hy' : x ∈ X := by simpa using hy
          refine ⟨_, meas_skip _ _ x _ _, S, F, X, es', _, _, rfl, rfl, s5, htl5, hed5, fun y => ?_, ndX, hal5, hes5, hDI.skip ((hX x).mp hy'), by simp at hSl; omega⟩
          rw [hX y]
          constructor
          · rintro (h | h)
            · exact .inl h
            · rcases List.mem_cons.mp h with h | h
              · cases h
              · exact .inr h
          · rintro (h | h)
            · exact .inl h
            · exact .inr (List.mem_cons_of_mem _ h)
end
end Sw
set_option Elab.async false
set_option maxRecDepth 100000
set_option maxHeartbeats 8000000
namespace Sw
open PySem L2 PySem.Spec PyProof.Rows PySem.W
/-- a permutation of what a function makes is what it makes of a permutation -/
theorem perm_lift {α β : Type} (f : α → β) : ∀ {m : List β} {Z : List α}, m.Perm (Z.map f) → ∃ W : List α, W.Perm Z ∧ W.map f = m
  | [], Z, h => by
    have := h.length_eq
    rw [List.length_map] at this
    cases Z with
    | nil => exact ⟨[], .refl _, rfl⟩
    | cons z Z => cases this
  | a :: m, Z, h => by
    obtain ⟨z, hz, rfl⟩ := List.mem_map.mp (h.mem_iff.mp List.mem_cons_self)
    obtain ⟨Z1, Z2, rfl⟩ := List.append_of_mem hz
    have h1 : (f z :: m).Perm (f z :: (Z1 ++ Z2).map f) := by
      refine h.trans ?_
      rw [List.map_append, List.map_cons, List.map_append]
      exact List.perm_middle
    obtain ⟨W, hW, rfl⟩ := perm_lift f (m := m) (Z := Z1 ++ Z2) h1.cons_inv
    exact ⟨z :: W, (hW.cons z).trans List.perm_middle.symm, rfl⟩
theorem zip_dup : ∀ (its : List Value) (ds : List PyData), its.length = ds.length → (its.zip ds).map (fun p : Value × PyData => (p.1, p.1)) = its.zip its
  | [], [], _ => rfl
  | u :: us, d :: ds, h => by
    simp only [List.zip_cons_cons, List.map_cons]
    rw [zip_dup us ds (by simpa using h)]
  | [], _ :: _, h => by cases h
  | _ :: _, [], h => by cases h
theorem eachReads {X : Cx} {pins : List (Addr × Obj)} {σ : L2.St} {H : Hp} {s : Shared} (I : Inv X pins σ H s) : ∀ {xs : List V} {its : List Value} {ds : List PyData}, Vals xs its → DpAll X.K H xs ds → EachIs (fun v d => ∃ as, Reads s.heap v d as) its ds
  | _, _, _, .nil, h => by cases h; exact .nil
  | _, _, _, .cons r t, h => by
    cases h with
    | cons h1 h2 => exact .cons (Dp.reads I _ _ _ h1 r) (eachReads I t h2)
/-- sorted of a list of data that are alike, each an object: a new list -/
def rSortedD (K : Frag) : List V → Hp → VK → Prop := fun vs H Q => ∃ (a : Addr) (xs : List V) (ds : List PyData), vs = [V.ref a] ∧ SqL K H a xs ∧ DpAll K H xs ds ∧ (∀ x ∈ xs, ∃ t, x = V.ref t) ∧ AllAlike ds ∧ Sortable ds ∧ (∀ d ∈ ds, d.depth ≤ 40) ∧
  ∀ (W : List (V × PyData)) p, W.Perm (xs.zip ds) → W.Pairwise (fun u v => dataLt v.2 u.2 = false) → H p = none → Q (.ref p) (upd H p (.lst (W.map Prod.fst)))
section
variable {X : Cx}
theorem cr_sortedD (hu : X.A.units + 64 < cLine) : CallR X (.builtin "sorted") (rSortedD X.K) := by
  intro pins s σ H vs us Q I r h
  obtain ⟨a, xs, ds, rfl, hs, hd, hx, hal, hso, hdp, q⟩ := h
  obtain ⟨its, rv, hl, hz⟩ := I.list hs
  obtain ⟨u, rfl, ru⟩ := vals1 r
  obtain rfl : u = Value.ref a := ru
  obtain ⟨e1, e2⟩ := refs_back rv hx
  have hlen : its.length = xs.length := rv.length.symm
  have hdl := dpsLen hd
  have hE : EachIs (fun v d => ∃ as, Reads s.heap v d as) its ds := eachReads I rv hd
  have kp : ∀ b o, s.heap.get? b = some o → (sortingHeap (copyHeap s.heap its) (s.heap.objs.size + 1) its).get? b = some o := fun b o e => sorting_copy_old e
  have hE' : EachIs (fun v d => ∃ as, Reads (sortingHeap (copyHeap s.heap its) (s.heap.objs.size + 1) its) v d as) its ds := hE.mono fun v d ⟨as, r⟩ => ⟨as, Reads.keeps kp r⟩
  refine sorted_vals (κ := dataKind (sortingHeap (copyHeap s.heap its) (s.heap.objs.size + 1) its) ds) hl.isList ?_ (by omega) ?_
  · refine SortsAt.data (s := { s with heap := sortingHeap (copyHeap s.heap its) (s.heap.objs.size + 1) its }) hE' hal hso fun d hd' => ?_
    have := hdp d hd'
    show X.A.units + 1 + 1 + d.depth < cLine
    omega
  · have eZ : (its.zip ds).map (fun p : Value × PyData => (p.1, p.1)) = its.zip its := zip_dup its ds (by omega)
    have hperm := List.mergeSort_perm (its.zip its) (sortLe (dataKind (sortingHeap (copyHeap s.heap its) (s.heap.objs.size + 1) its) ds).toKeyOrd false fun p : Keyed => keyD (dataKind (sortingHeap (copyHeap s.heap its) (s.heap.objs.size + 1) its) ds) p.1)
    have hpw := List.pairwise_mergeSort (sortLe_total (dataKind (sortingHeap (copyHeap s.heap its) (s.heap.objs.size + 1) its) ds).toKeyOrd false fun p : Keyed => keyD (dataKind (sortingHeap (copyHeap s.heap its) (s.heap.objs.size + 1) its) ds) p.1).trans
      (fun a b => by
        rcases (sortLe_total (dataKind (sortingHeap (copyHeap s.heap its) (s.heap.objs.size + 1) its) ds).toKeyOrd false fun p : Keyed => keyD (dataKind (sortingHeap (copyHeap s.heap its) (s.heap.objs.size + 1) its) ds) p.1).total a b with h | h
        · rw [h, Bool.true_or]
        · rw [h, Bool.or_true]) (its.zip its)
    have hout : sortVals (dataKind (sortingHeap (copyHeap s.heap its) (s.heap.objs.size + 1) its) ds) false its its = ((its.zip its).mergeSort (sortLe (dataKind (sortingHeap (copyHeap s.heap its) (s.heap.objs.size + 1) its) ds).toKeyOrd false fun p : Keyed => keyD (dataKind (sortingHeap (copyHeap s.heap its) (s.heap.objs.size + 1) its) ds) p.1)).map Prod.snd := rfl
    rw [hout]
    generalize (its.zip its).mergeSort (sortLe (dataKind (sortingHeap (copyHeap s.heap its) (s.heap.objs.size + 1) its) ds).toKeyOrd false fun p : Keyed => keyD (dataKind (sortingHeap (copyHeap s.heap its) (s.heap.objs.size + 1) its) ds) p.1) = m at hperm hpw
    rw [← eZ] at hperm
    obtain ⟨W, hW, rfl⟩ := perm_lift _ hperm
    rw [List.pairwise_map] at hpw
    have hWR : ∀ p, p ∈ W → p.2 ∈ ds ∧ ∃ as, Reads (sortingHeap (copyHeap s.heap its) (s.heap.objs.size + 1) its) p.1 p.2 as := fun p hp => by
      have hp' := hW.mem_iff.mp hp
      exact ⟨(List.of_mem_zip hp').2, hE'.zip p hp'⟩
    have key : ∀ p, p ∈ W → keyD (dataKind (sortingHeap (copyHeap s.heap its) (s.heap.objs.size + 1) its) ds) p.1 = keyToks p.2 := fun p hp => by
      obtain ⟨h1, as, h2⟩ := hWR p hp
      exact keyD_some (dataKind_some hal h1 h2)
    have hpw' : W.Pairwise (fun u v => dataLt v.2 u.2 = false) := by
      refine List.Pairwise.imp_of_mem (fun {u v} hu hv h => ?_) hpw
      have h' : (!PyProof.Rows.lexLt itemOrd (keyD (dataKind (sortingHeap (copyHeap s.heap its) (s.heap.objs.size + 1) its) ds) v.1) (keyD (dataKind (sortingHeap (copyHeap s.heap its) (s.heap.objs.size + 1) its) ds) u.1)) = true := h
      rw [key u hu, key v hv] at h'
      unfold dataLt
      simpa using h'
    have eM : (W.map (fun p : Value × PyData => (p.1, p.1))).map Prod.snd = W.map Prod.fst := by rw [List.map_map]; rfl
    rw [eM]
    have hrefs : ∀ u, u ∈ W.map Prod.fst → ∃ a, u = Value.ref a := fun u hu => by
      obtain ⟨p, hp, rfl⟩ := List.mem_map.mp hu
      exact e2 _ (List.of_mem_zip (hW.mem_iff.mp hp)).1
    obtain ⟨n, hn⟩ := sortedAll_at s.heap its (W.map Prod.fst).toArray
    have hmm : (W.map Prod.fst).map backV = (W.map fun p => (backV p.1, p.2)).map Prod.fst := by rw [List.map_map, List.map_map]; rfl
    have hlenW : (W.map Prod.fst).length = its.length := by
      rw [List.length_map, hW.length_eq, List.length_zip]
      omega
    refine ⟨.ref (s.heap.objs.size + 1), upd H (s.heap.objs.size + 1) (.lst ((W.map Prod.fst).map backV)), I.laid (t' := s.toks) (fun b o e => sortedAll_old e) (Nat.le_succ _) ⟨?_, W.map Prod.fst, n, vals_back hrefs, hn⟩, rfl, ?_⟩
    · rw [List.length_map, hlenW, hlen]
      exact hz
    · rw [hmm]
      refine q (W.map fun p => (backV p.1, p.2)) _ ?_ ?_ (I.hok.fresh (Nat.le_succ _))
      · rw [e1, List.zip_map_left]
        exact hW.map _
      · rw [List.pairwise_map]
        exact hpw'
end
end Sw
set_option Elab.async false
set_option maxRecDepth 100000
set_option maxHeartbeats 8000000
namespace Sw
open PySem L2 PySem.Spec PyProof.Rows PySem.W
theorem alikeNats : ∀ c d : List Nat, alikeAll (c.map fun n : Nat => PyData.int (n : Int)) (d.map fun n : Nat => PyData.int (n : Int)) = true
  | [], _ => by simp [alikeAll]
  | _ :: _, [] => by simp [alikeAll]
  | x :: c, y :: d => by
    simp only [List.map_cons, alikeAll, alike, alikeNats c d]
    rfl
theorem alikeLs (L : List (List Nat)) : AllAlike (L.map nsD) := by
  intro d hd e he
  obtain ⟨c, _, rfl⟩ := List.mem_map.mp hd
  obtain ⟨c', _, rfl⟩ := List.mem_map.mp he
  simp only [nsD, alike]
  exact alikeNats c c'
theorem sortableLs (L : List (List Nat)) : Sortable (L.map nsD) := by
  refine .inr fun d hd => ?_
  obtain ⟨c, _, rfl⟩ := List.mem_map.mp hd
  exact ⟨fun e => (by cases e), fun xs e => (by cases e)⟩
theorem ltNs {c d : List Nat} (hc : c ≠ []) (hd' : d ≠ []) (h : dataLt (nsD d) (nsD c) = false) : hd c ≤ hd d := by
  cases c with
  | nil => exact absurd rfl hc
  | cons x c =>
    cases d with
    | nil => exact absurd rfl hd'
    | cons y d =>
      show x ≤ y
      by_cases e : x ≤ y
      · exact e
      · exfalso
        have hlt : y < x := by omega
        have e1 : dataLt (nsD (y :: d)) (nsD (x :: c)) = PyProof.Rows.lexLt itemOrd [Sum.inl (y : Int)] [Sum.inl (x : Int)] := by
          unfold dataLt nsD
          simp only [List.map_cons, keyToks, keyToksAll, List.singleton_append]
          rw [show (Sum.inl (1 : Int) :: Sum.inl (y : Int) :: keyToksAll (d.map fun n : Nat => PyData.int (n : Int)) : List (Int ⊕ List Nat)) = [Sum.inl (1 : Int)] ++ (Sum.inl (y : Int) :: keyToksAll (d.map fun n : Nat => PyData.int (n : Int))) from rfl,
            show (Sum.inl (1 : Int) :: Sum.inl (x : Int) :: keyToksAll (c.map fun n : Nat => PyData.int (n : Int)) : List (Int ⊕ List Nat)) = [Sum.inl (1 : Int)] ++ (Sum.inl (x : Int) :: keyToksAll (c.map fun n : Nat => PyData.int (n : Int))) from rfl, lex_pre]
          exact lex_atom (by intro q; have := Sum.inl.inj q; omega) _ _
        rw [e1] at h
        have e2 : PyProof.Rows.lexLt itemOrd [Sum.inl (y : Int)] [Sum.inl (x : Int)] = true := by
          simp [PyProof.Rows.lexLt, itemOrd, itemLt]
          omega
        rw [e2] at h
        cases h
theorem pairedMapM {α β : Type} {F G : α → β → Prop} : ∀ {l₁ : List α} {l₂ : List β}, Paired F l₁ l₂ → (∀ a b, a ∈ l₁ → F a b → G a b) → Paired G l₁ l₂
  | _, _, .nil, _ => .nil
  | _, _, .cons r t, f => .cons (f _ _ List.mem_cons_self r) (pairedMapM t fun a b h => f a b (List.mem_cons_of_mem _ h))
theorem pairedSet {H : Hp} {a : Addr} {c' : List Nat} : ∀ {as : List Addr} {B : List (List Nat)} {x : Nat}, Paired (fun b c => H b = some (.lst (natV c))) as B → as.Nodup → as[x]? = some a → Paired (fun b c => (upd H a (.lst (natV c'))) b = some (.lst (natV c))) as (B.set x c')
  | _, _, _, .nil, _, h => by simp at h
  | b :: as, c :: B, 0, .cons r t, nd, h => by
    simp at h
    subst h
    rw [List.nodup_cons] at nd
    refine .cons upd_same ?_
    have : ∀ {as : List Addr} {B : List (List Nat)}, b ∉ as → Paired (fun b c => H b = some (.lst (natV c))) as B → Paired (fun b' c => (upd H b (.lst (natV c'))) b' = some (.lst (natV c))) as B := by
      intro as B hb h
      induction h with
      | nil => exact .nil
      | cons r t ih =>
        rename_i a' c'' as' B'
        exact .cons (by rw [upd_ne (fun e => hb (by rw [e]; simp))]; exact r) (ih fun q => hb (List.mem_cons_of_mem _ q))
    exact this nd.1 t
  | b :: as, c :: B, x + 1, .cons r t, nd, h => by
    simp at h
    rw [List.nodup_cons] at nd
    exact .cons (by rw [upd_ne (fun e => nd.1 (by rw [e]; exact List.mem_of_getElem? h))]; exact r) (pairedSet t nd.2 h)
section
variable {P : Program} {w : World} {K : PySem.W.Frag} {mg : Str → Option Value} {base : Heap}
abbrev n_orbits_onward : List Str := ["machine", "back", "_", "number", "steps", "behind", "told", "placed", "first"]
theorem sc_orbits_onward : FnScope n_orbits_onward ["machine"] (defScope s_orbits_onward) := ⟨rfl, rfl, rfl, by decide +kernel, rfl, by decide +kernel, by decide +kernel⟩
def spOnward (K : PySem.W.Frag) : Sp := fun vs H Q _ => ∃ (v : V) (M : List Rm), vs = [v] ∧ Dp K H v (maD M) ∧ MOk M ∧ ∀ H' fl (P : List Nat) L, Same H H' → LLAt H H' fl L → Par (Eg M) M.length P L → (∀ k, k < M.length → k ∈ P) → L.length ≤ M.length → Q (.ref fl) H'
theorem ok_orbits_onward (F : DefAt K mg "orbits_onward" s_orbits_onward ["machine"]) (d__in_order_left : DefOk P w K mg base "_in_order_left" 1 ["machine"] (spLeft K)) (d__placed_by : DefOk P w K mg base "_placed_by" 1 ["back", "first", "placed"] spPlaced) (b_enumerate : mg "enumerate" = none) : DefOk P w K mg base "orbits_onward" 2 ["machine"] (spOnward K) := by
  refine F.ok sc_orbits_onward (fun vs H Q E h => ?_) (fun f cdv A outer s H vs Q E hr h => ?_)
  · obtain ⟨_, _, rfl, _⟩ := h
    rfl
  obtain ⟨v, M, rfl, hv, hM, k⟩ := h
  obtain ⟨ma, rs, rfl, hma, hrs⟩ := dpTup hv
  have hlen := dpsLen hrs
  rw [List.length_map] at hlen
  have hMl := hM.le
  have hE := Eg_lt hM
  have hu := hu_of hr
  refine ⟨_, (pss_cons (ps_setLc (i := 1) (own := [("_", 2)]) (g := gName 2) rfl sc_orbits_onward.nd rfl rfl (sw_true rfl rfl rfl (by decide +kernel)) (pi_tup (pv 0)) (blkOk_by (own := [("_", 2)]) (N := n_orbits_onward) (sc := defScope s_orbits_onward) (by decide +kernel)) (fun _ _ _ _ _ => (pg_name (i := 2) sc_orbits_onward.nd rfl (Or.inl rfl))) (fun _ _ _ _ _ => pts_nil) (fun _ _ _ _ _ => (pe_lst pa_nil)))
    (pss_cons (ps_for PassesOwn.never rfl (pi_enumT (by rfl) b_enumerate (pa_cons (pv 0) pa_nil)) (pg_tup rfl (pgs_cons (pg_name (i := 3) sc_orbits_onward.nd rfl (Or.inl rfl)) (pgs_cons (pg_tup rfl (pgs_cons (pg_name (i := 2) sc_orbits_onward.nd rfl (Or.inl rfl)) (pgs_cons (pg_name (i := 4) sc_orbits_onward.nd rfl (Or.inl rfl)) pgs_nil))) pgs_nil)))
      (pss_one (ps_for PassesOwn.never rfl (pi_tup (pv 4)) (pg_tup rfl (pgs_cons (pg_name (i := 2) sc_orbits_onward.nd rfl (Or.inl rfl)) (pgs_cons (pg_name (i := 5) sc_orbits_onward.nd rfl (Or.inl rfl)) pgs_nil)))
      (pss_one (ps_expr (pe_bm PySem.F.plainAttrs_list PySem.F.slot_list_append PySem.F.type_list_append mt_append (pe_ix ix_list (pv 1) (pv 5) (fun _ _ => rfl)) (pa_cons (pv 3) pa_nil)))))))
    (pss_cons (ps_set (i := 6) sc_orbits_onward.nd rfl (Or.inl rfl) (pe_lst pa_nil))
    (pss_cons (ps_set (i := 7) sc_orbits_onward.nd rfl (Or.inl rfl) pe_dnewK)
    (pss_cons (ps_for PassesOwn.never rfl (pi_list (pe_revL (pe_callD d__in_order_left (hr.mono (by decide)) rfl (pa_cons (pv 0) pa_nil)))) (pg_name (i := 8) sc_orbits_onward.nd rfl (Or.inl rfl))
      (pss_one (ps_if (pt_cmp (pc_dnotin hu (pv 8) (pv 7)) rfl) (pss_one (ps_expr (pe_bm PySem.F.plainAttrs_list PySem.F.slot_list_append PySem.F.type_list_append mt_append (pv 6) (pa_cons (pe_callD d__placed_by (hr.mono (by decide)) rfl (pa_cons (pv 1) (pa_cons (pv 8) (pa_cons (pv 7) pa_nil)))) pa_nil)))) pss_nil)))
    (pss_one (ps_ret (pv 6)))))))), ?_⟩
  refine ⟨_, rfl, ma, rfl, ⟨_, hma⟩, fun bl nbl => ?_⟩
  refine lc_tup (K := K) (a := ma) (xs := rs) (fun j H' => ∃ as : List Addr, Same H H' ∧ H' bl = some (.lst (as.map V.ref)) ∧ Paired (fun a c => H' a = some (.lst (natV c))) as (List.replicate j ([] : List Nat)) ∧ as.Nodup ∧ bl ∉ as ∧ (∀ a, a ∈ as → H a = none)) ⟨[], .new nbl, upd_same, .nil, .nil, by simp, fun a h => (by cases h)⟩ (fun j H' _ ⟨_, g, _⟩ => g.sqT hma) ?_ ?_
  · rintro j u H1 hu1 ⟨as, s1, hbl, has, nd, nob, nas⟩
    have hj := (List.getElem?_eq_some_iff.mp hu1).1
    have hal := pairedLen has
    rw [List.length_replicate] at hal
    refine ⟨rfl, ?_⟩
    refine ⟨(by show 0 ≤ sizeLine; decide), fun q nq => ?_⟩
    have sq : Same H1 (upd H1 q (.lst [])) := .new nq
    have nqb : q ≠ bl := (ne_of_none hbl nq).symm
    have nqH : H q = none := by
      cases e : H q with
      | none => rfl
      | some o => rw [s1 _ _ e] at nq; cases nq
    have nqas : q ∉ as := fun h => by
      obtain ⟨i, hi, e⟩ := List.getElem_of_mem h
      obtain ⟨c, hc1, hc2⟩ := pairedAtL has (i := i) (a := q) (by rw [List.getElem?_eq_getElem hi, e])
      rw [nq] at hc2
      cases hc2
    refine ⟨_, sq _ _ hbl, szb (by rw [List.length_map]; omega), as ++ [q], (s1.trans sq).mut nbl, by rw [upd_same, List.map_append]; rfl, ?_, ?_, ?_, ?_⟩
    · rw [List.replicate_succ']
      refine pairedApp ?_ (.cons (by rw [upd_ne nqb, upd_same]; rfl) .nil)
      exact pairedMapM has fun a c ha h => by rw [upd_ne (fun e => nob (by rw [← e]; exact ha))]; exact sq _ _ h
    · rw [(List.perm_append_singleton q as).nodup_iff, List.nodup_cons]
      exact ⟨nqas, nd⟩
    · intro h
      rcases List.mem_append.mp h with h | h
      · exact nob h
      · exact nqb (List.mem_singleton.mp h).symm
    · intro a ha
      rcases List.mem_append.mp ha with ha | ha
      · exact nas a ha
      · rw [List.mem_singleton.mp ha]; exact nqH
  · rintro H1 ⟨as, s1, hbl, has, nd, nob, nas⟩
    have hal := pairedLen has
    rw [List.length_replicate, hlen] at hal
    refine ⟨_, rfl, ma, _, rfl, s1.sqT hma, ?_⟩
    refine for_enumT (K := K) (a := ma) (xs := rs) (fun i σ H' => ∃ (B : List (List Nat)) (o2 o3 o4 o5 : Option V), σ = [some (.ref ma), some (.ref bl), o2, o3, o4, o5, none, none, none] ∧ Same H H' ∧ H' bl = some (.lst (as.map V.ref)) ∧ Paired (fun a c => H' a = some (.lst (natV c))) as B ∧ ∀ (x : Nat) (ys : List Nat), B[x]? = some ys → ys.length ≤ 6 * i ∧ ∀ y, y ∈ ys ↔ y < i ∧ x ∈ Eg M y)
      ⟨List.replicate rs.length [], none, none, none, none, rfl, s1, hbl, has, fun x ys h => ?_⟩ (fun i σ H' _ ⟨_, _, _, _, _, _, g, _⟩ => g.sqT hma) ?_ ?_
    · have : ys = [] := by
        have := List.mem_of_getElem? h
        exact (List.mem_replicate.mp this).2
      subst this
      exact ⟨by simp, fun y => ⟨fun h => (by cases h), fun h => absurd h.1 (Nat.not_lt_zero _)⟩⟩
    · rintro i u T σ H2 hu1 ⟨B, o2, o3, o4, o5, rfl, s2, hbl2, hB, hBm⟩ nT
      have hi : i < rs.length := (List.getElem?_eq_some_iff.mp hu1).1
      obtain ⟨r, hr'⟩ : ∃ r, M[i]? = some r := ⟨_, List.getElem?_eq_getElem (by omega)⟩
      have hrM := List.mem_of_getElem? hr'
      have hdeg := hM.deg r hrM
      have hEgi : Eg M i = r.2.map (·.2) := by unfold Eg; rw [stepsOf_at hr']
      obtain ⟨ra, b, ls, e1, e2, e3, e4⟩ := rmsAt hrs hr'
      have eu : u = .ref ra := by rw [hu1] at e1; exact Option.some.inj e1
      subst eu
      have hls := dpsLen e4
      rw [List.length_map] at hls
      have sT' : Same H2 (upd H2 T (.tup [.int (i : Nat), .ref ra])) := .new nT
      have hT : SqT K (upd H2 T (.tup [.int (i : Nat), .ref ra])) T [.int (i : Nat), .ref ra] := sT upd_same
      generalize upd H2 T (.tup [.int (i : Nat), .ref ra]) = H3 at sT' hT ⊢
      have s3 := s2.trans sT'
      refine ⟨T, _, rfl, hT, rfl, _, _, rfl, _, _, rfl, ra, _, rfl, s3.sqT e2, rfl, _, _, rfl, _, _, rfl, rfl, rfl, ?_⟩
      refine ⟨_, rfl, b, rfl, ⟨_, s3.sqT e3⟩, ?_⟩
      refine for_tup (K := K) (a := b) (xs := ls) (fun j σ H' => ∃ (B : List (List Nat)) (o2 o5 : Option V), σ = [some (.ref ma), some (.ref bl), o2, some (.int (i : Nat)), some (.ref b), o5, none, none, none] ∧ Same H H' ∧ H' bl = some (.lst (as.map V.ref)) ∧ Paired (fun a c => H' a = some (.lst (natV c))) as B ∧ ∀ (x : Nat) (ys : List Nat), B[x]? = some ys → ys.length ≤ 6 * i + j ∧ ∀ y, y ∈ ys ↔ (y < i ∧ x ∈ Eg M y) ∨ (y = i ∧ x ∈ (r.2.take j).map (·.2)))
        ⟨B, _, o5, rfl, s3, sT' _ _ hbl2, pairedMap hB fun a c h => sT' _ _ h, fun x ys h => ?_⟩ (fun j σ H' _ ⟨_, _, _, _, g, _⟩ => g.sqT e3) ?_ ?_
      · obtain ⟨h1, h2⟩ := hBm x ys h
        refine ⟨by omega, fun y => ?_⟩
        rw [h2 y]
        simp
      · rintro j w' σ H4 hv ⟨B, o2, o5, rfl, s4, hbl4, hB4, hBm4⟩
        obtain ⟨p, pa, hp, rfl, hpa⟩ := stsAt e4 hv
        have hj := (List.getElem?_eq_some_iff.mp hv).1
        have hpM := List.mem_of_getElem? hp
        have hpn : p.2 < as.length := by have := hM.tgt r hrM p hpM; omega
        have hBl := pairedLen hB4
        obtain ⟨a, ha⟩ : ∃ a, as[p.2]? = some a := ⟨_, List.getElem?_eq_getElem hpn⟩
        obtain ⟨ys, hys, hya⟩ := pairedAtL hB4 ha
        obtain ⟨hyl, hym⟩ := hBm4 p.2 ys hys
        have haas := List.mem_of_getElem? ha
        refine ⟨pa, _, rfl, s4.sqT hpa, rfl, _, _, rfl, _, _, rfl, rfl, ?_⟩
        refine ⟨_, rfl, _, rfl, bl, _, _, V.ref a, rfl, rfl, sL hbl4, atI_nat (v := V.ref a) (by rw [List.getElem?_map, ha]; rfl), .inl ⟨rfl, _, .inl (.inl hya)⟩, _, rfl, a, _, _, rfl, rfl, hya, szb (by rw [ints_len]; omega), ?_⟩
        rw [show natV ys ++ [V.int ((i : Nat) : Int)] = natV (ys ++ [i]) from (natV_snoc ys i).symm]
        refine ⟨B.set p.2 (ys ++ [i]), _, _, rfl, s4.mut (nas a haas), by rw [upd_ne (fun e => nob (by rw [e]; exact haas))]; exact hbl4, pairedSet hB4 nd ha, fun x zs hz => ?_⟩
        by_cases ex : x = p.2
        · subst ex
          rw [List.getElem?_set_self (by omega)] at hz
          have ez : zs = ys ++ [i] := (Option.some.inj hz).symm
          subst ez
          refine ⟨by rw [List.length_append, List.length_singleton]; omega, fun y => ?_⟩
          rw [List.mem_append, hym y, List.mem_singleton, take_snoc hp, List.map_append, List.mem_append]
          simp only [List.map_cons, List.map_nil, List.mem_singleton]
          constructor
          · rintro ((h | h) | h)
            · exact .inl h
            · exact .inr ⟨h.1, .inl h.2⟩
            · exact .inr ⟨h, .inr trivial⟩
          · rintro (h | ⟨h, h' | h'⟩)
            · exact .inl (.inl h)
            · exact .inl (.inr ⟨h, h'⟩)
            · exact .inr h
        · rw [List.getElem?_set_ne (fun e => ex e.symm)] at hz
          obtain ⟨h1, h2⟩ := hBm4 x zs hz
          refine ⟨by omega, fun y => ?_⟩
          rw [h2 y, take_snoc hp, List.map_append, List.mem_append]
          simp only [List.map_cons, List.map_nil, List.mem_singleton]
          constructor
          · rintro (h | h)
            · exact .inl h
            · exact .inr ⟨h.1, .inl h.2⟩
          · rintro (h | ⟨h, h' | h'⟩)
            · exact .inl h
            · exact .inr ⟨h, h'⟩
            · exact absurd h' ex
      · rintro σ H4 ⟨B, o2, o5, rfl, s4, hbl4, hB4, hBm4⟩
        refine ⟨B, _, _, _, _, rfl, s4, hbl4, hB4, fun x ys h => ?_⟩
        obtain ⟨h1, h2⟩ := hBm4 x ys h
        rw [hls, List.take_length, ← hEgi] at h2
        refine ⟨by omega, fun y => ?_⟩
        rw [h2 y]
        constructor
        · rintro (h | ⟨rfl, h⟩)
          · exact ⟨by omega, h.2⟩
          · exact ⟨by omega, h⟩
        · rintro ⟨h, h'⟩
          by_cases e : y = i
          · subst e; exact .inr ⟨rfl, h'⟩
          · exact .inl ⟨by omega, h'⟩
    · rintro σ H2 ⟨B, o2, o3, o4, o5, rfl, s2, hbl2, hB, hBm⟩
      have hBl := pairedLen hB
      rw [hlen] at hBm
      have hbk2 : BkAt H2 bl (Eg M) M.length := ⟨as, B, hbl2, hB, by omega, fun x ys h => ⟨by have := (hBm x ys h).1; omega, (hBm x ys h).2⟩⟩
      refine ⟨(by show 0 ≤ sizeLine; decide), fun tl ntl pd npd => ?_⟩
      have s3 : Same H2 (upd H2 tl (.lst [])) := .new ntl
      have htl3 : (upd H2 tl (.lst [])) tl = some (.lst (([] : List Addr).map V.ref)) := upd_same
      generalize upd H2 tl (.lst []) = H3 at s3 htl3 npd ⊢
      have s4 : Same H3 (upd H3 pd (.dK [])) := .new npd
      have hpd4 : (upd H3 pd (.dK [])) pd = some (.dK (pdK [])) := upd_same
      have ntp : tl ≠ pd := ne_of_none htl3 npd
      generalize upd H3 pd (.dK []) = H4 at s4 hpd4 ⊢
      have fr : ∀ {H' : Hp} {a : Addr}, Same H H' → H' a = none → H a = none := fun {H' a} s n => by
        cases e : H a with
        | none => rfl
        | some o => rw [s _ _ e] at n; cases n
      have ntlH := fr s2 ntl
      have npdH := fr (s2.trans s3) npd
      have s04 := s2.trans (s3.trans s4)
      refine ⟨_, rfl, _, M, rfl, dpS s04 hv, hM, fun H5 ol F s5 hF nF hLeft => ?_⟩
      refine ⟨ol, _, rfl, sL hF, fun rl nrl => ⟨rl, rfl, ⟨_, sL upd_same⟩, ?_⟩⟩
      have s6 : Same H5 (upd H5 rl (.lst (natV F).reverse)) := .new nrl
      have hrl6 : (upd H5 rl (.lst (natV F).reverse)) rl = some (.lst (natV F.reverse)) := by rw [upd_same]; unfold natV; rw [List.map_reverse]
      have erev : (natV F).reverse = natV F.reverse := by unfold natV; rw [List.map_reverse]
      rw [erev] at s6 ⊢
      have s46 := s5.trans s6
      have hrl6' : (upd H5 rl (.lst (natV F.reverse))) rl = some (.lst (natV F.reverse)) := upd_same
      have htl6 := s46 _ _ (s4 _ _ htl3)
      have hpd6 := s46 _ _ hpd4
      generalize upd H5 rl (.lst (natV F.reverse)) = H6 at s6 s46 hrl6' htl6 hpd6 ⊢
      have hbk4 : BkAt H4 bl (Eg M) M.length := hbk2.same fun a xs q => (s3.trans s4) _ _ q
      have nrlt : rl ≠ tl := (ne_of_none (s5 _ _ (s4 _ _ htl3)) nrl).symm
      have nrlp : rl ≠ pd := (ne_of_none (s5 _ _ hpd4) nrl).symm
      have nblt : bl ≠ tl := ne_of_none hbl2 ntl
      -- what is written from here on: the dict and the list
      refine for_list (K := K) (a := rl) (xs := natV F.reverse) (fun i σ H' => ∃ (os : List Addr) (L : List (List Nat)) (P : List Nat) (o8 : Option V), σ = [some (.ref ma), some (.ref bl), o2, o3, o4, o5, some (.ref tl), some (.ref pd), o8] ∧ Same H2 H' ∧ H' rl = some (.lst (natV F.reverse)) ∧ H' tl = some (.lst (os.map V.ref)) ∧ H' pd = some (.dK (pdK P)) ∧ Paired (fun a c => H' a = some (.lst (natV c)) ∧ H a = none ∧ a ≠ tl) os L ∧ Par (Eg M) M.length P L ∧ (∀ x, x ∈ F.reverse.take i → x ∈ P) ∧ P.Nodup ∧ (∀ x, x ∈ P → x < M.length) ∧ L.length ≤ i)
        ⟨[], [], [], none, rfl, (s3.trans s4).trans s46, hrl6', htl6, hpd6, .nil, ⟨fun c h => (by cases h), fun x => ⟨fun h => (by cases h), fun ⟨c, h, _⟩ => (by cases h)⟩, .nil⟩, fun x h => by simp at h, .nil, fun x h => (by cases h), Nat.zero_le _⟩ (fun i σ H' _ ⟨_, _, _, _, _, _, g, _⟩ => sL g) ?_ ?_
      · rintro i v' σ H7 hv' ⟨os, L, Pp, o8, rfl, s7, hrl7, htl7, hpd7, hos, hpar, hdone, ndP, ltP, hLl⟩
        obtain ⟨x, hx, rfl⟩ := ints_get hv'
        have hxF : x ∈ F := List.mem_reverse.mp (List.mem_of_getElem? hx)
        have hxn : x < M.length := (hLeft.mem x).mp hxF
        have hi := (List.getElem?_eq_some_iff.mp hx).1
        have hPn : Pp.length ≤ M.length := nodup_le ndP ltP
        have hiF : i < M.length := by
          have := nodup_le hLeft.nd fun k hk => (hLeft.mem k).mp hk
          rw [List.length_reverse] at hi
          omega
        have hal := pairedLen hos
        have hbk7 : BkAt H7 bl (Eg M) M.length := hbk2.same fun a xs q => s7 _ _ q
        have npd2 : H2 pd = none := by
          cases e : H2 pd with
          | none => rfl
          | some o => rw [s3 _ _ e] at npd; cases npd
        refine ⟨_, rfl, _, rfl, pd, _, rfl, DGet.k (k := .inl (x : Int)) hpd7, _, rfl, ?_⟩
        rw [pdK_get]
        refine ite2 (fun hn => ?_) (fun hy => ?_)
        · have hn' : x ∉ Pp := by simpa using hn
          refine ⟨_, rfl, .inl ⟨rfl, _, .inl (.inl htl7)⟩, _, rfl, _, rfl, _, rfl, bl, pd, Eg M, M.length, x, Pp, rfl, hbk7, by omega, hpd7, by omega, hn', hxn, fun H8 p T c b8 hpd8 hp8 np8 upc pc hPl => ?_⟩
          have keep : ∀ {a : Addr} {xs : List V}, H7 a = some (.lst xs) → H8 a = some (.lst xs) := fun q => b8 _ _ q (fun e => by rw [e, hpd7] at q; cases q)
          have htl8 := keep htl7
          have hsp : F = (F.reverse.drop (i + 1)).reverse ++ x :: (F.reverse.take i).reverse := by
            have h1 := List.take_append_drop i F.reverse
            rw [List.drop_eq_getElem_cons hi, show F.reverse[i] = x from Option.some.inj (by rw [← hx, List.getElem?_eq_getElem hi])] at h1
            have h2 := congrArg List.reverse h1
            rw [List.reverse_reverse, List.reverse_append, List.reverse_cons, List.append_assoc] at h2
            exact h2.symm
          have hall := Pl.all hE hLeft hsp (fun y hy => hdone y (List.mem_reverse.mp hy)) hpar.whole hPl
          have hcT : ∀ y, y ∈ c ↔ y ∈ T := fun y => pc.mem_iff
          have hmc : ∀ y, y ∈ c ↔ y < M.length ∧ Mu (Eg M) x y := fun y => by rw [hcT y, hall y]
          have hxc : x ∈ c := (hmc x).mpr ⟨hxn, .refl x⟩
          have hoc : IsOrb (Eg M) M.length c := by
            refine ⟨upc, fun e => (by rw [e] at hxc; cases hxc), fun z hz y => ?_⟩
            have mx := ((hmc z).mp hz).2
            rw [hmc y]
            exact ⟨fun ⟨h1, h2⟩ => ⟨h1, mx.symm.trans h2⟩, fun ⟨h1, h2⟩ => ⟨h1, mx.trans h2⟩⟩
          have npt : p ≠ tl := fun e => by rw [e, htl7] at np8; cases np8
          have nHp : H p = none := fr (s2.trans s7) np8
          refine ⟨tl, _, _, rfl, rfl, htl8, szb (by rw [List.length_map]; omega), ?_⟩
          refine ⟨os ++ [p], L ++ [c], Pp ++ T, _, rfl, fun a o e => ?_, ?_, by rw [upd_same, List.map_append]; rfl, ?_, ?_, hpar.more hoc hcT hPl.off, ?_, ?_, ?_, ?_⟩
          · rw [upd_ne (fun q => by rw [q, ntl] at e; cases e)]
            exact b8 _ _ (s7 _ _ e) (fun q => by rw [q, npd2] at e; cases e)
          · rw [upd_ne nrlt]; exact keep hrl7
          · rw [upd_ne ntp.symm]; exact hpd8
          · refine pairedApp (pairedMap hos fun a c ⟨h1, h2, h3⟩ => ⟨by rw [upd_ne h3]; exact keep h1, h2, h3⟩) (.cons ⟨by rw [upd_ne npt]; exact hp8, nHp, npt⟩ .nil)
          · intro y hy
            rw [take_snoc hx] at hy
            rcases List.mem_append.mp hy with hy | hy
            · exact List.mem_append_left _ (hdone y hy)
            · rw [List.mem_singleton.mp hy]; exact List.mem_append_right _ hPl.me
          · rw [List.nodup_append]
            exact ⟨ndP, hPl.nd, fun a ha b hb e => hPl.off b hb (by rw [← e]; exact ha)⟩
          · intro y hy
            rcases List.mem_append.mp hy with hy | hy
            · exact ltP y hy
            · exact hPl.lt y hy
          · rw [List.length_append, List.length_singleton]; omega
        · have hx' : x ∈ Pp := Decidable.of_not_not fun q => hy (by rw [decide_eq_false q]; rfl)
          refine ⟨os, L, Pp, _, rfl, s7, hrl7, htl7, hpd7, hos, hpar, fun y hy => ?_, ndP, ltP, by omega⟩
          rw [take_snoc hx] at hy
          rcases List.mem_append.mp hy with hy | hy
          · exact hdone y hy
          · rw [List.mem_singleton.mp hy]; exact hx'
      · rintro σ H7 ⟨os, L, Pp, o8, rfl, s7, hrl7, htl7, hpd7, hos, hpar, hdone, ndP, ltP, hLl⟩
        have hFn := nodup_le hLeft.nd fun k hk => (hLeft.mem k).mp hk
        rw [ints_len, List.length_reverse] at hLl
        rw [ints_len, List.take_length] at hdone
        exact ⟨_, rfl, k H7 tl Pp L (s2.trans s7) ⟨os, htl7, pairedMap hos fun a c ⟨h1, h2, _⟩ => ⟨h1, h2⟩, ntlH⟩ hpar (fun x hx => hdone x (List.mem_reverse.mpr ((hLeft.mem x).mpr hx))) (by omega)⟩
end
end Sw
set_option Elab.async false
set_option maxRecDepth 100000
set_option maxHeartbeats 8000000
namespace Sw
open PySem L2 PySem.Spec PyProof.Rows
theorem zipMaps {α β γ δ : Type} (f : α → γ) (g : β → δ) : ∀ (as : List α) (bs : List β), (as.map f).zip (bs.map g) = (as.zip bs).map fun q => (f q.1, g q.2)
  | [], _ => rfl
  | _ :: _, [] => rfl
  | a :: as, b :: bs => by simp only [List.map_cons, List.zip_cons_cons, zipMaps f g as bs]
theorem pairedZip {α β : Type} {F : α → β → Prop} : ∀ {as : List α} {bs : List β}, Paired F as bs → ∀ q, q ∈ as.zip bs → F q.1 q.2
  | _, _, .nil, q, h => by cases h
  | _, _, .cons r t, q, h => by
    rw [List.zip_cons_cons] at h
    rcases List.mem_cons.mp h with rfl | h
    · exact r
    · exact pairedZip t q h
theorem pairedOf {α β : Type} {F : α → β → Prop} : ∀ {Z : List (α × β)}, (∀ q, q ∈ Z → F q.1 q.2) → Paired F (Z.map Prod.fst) (Z.map Prod.snd)
  | [], _ => .nil
  | q :: Z, h => .cons (h q List.mem_cons_self) (pairedOf fun p hp => h p (List.mem_cons_of_mem _ hp))
section
variable {P : Program} {w : World} {K : PySem.W.Frag} {mg : Str → Option Value} {base : Heap}
abbrev n_orbits : List Str := ["machine"]
theorem sc_orbits : FnScope n_orbits ["machine"] (defScope s_orbits) := ⟨rfl, rfl, rfl, by decide +kernel, rfl, by decide +kernel, by decide +kernel⟩
theorem ok_orbits (F : DefAt K mg "orbits" s_orbits ["machine"]) (d_orbits_onward : DefOk P w K mg base "orbits_onward" 2 ["machine"] (spOnward K)) (b_sorted : mg "sorted" = none) : DefOk P w K mg base "orbits" 3 ["machine"] (spOrbs K) := by
  refine F.ok sc_orbits (fun vs H Q E h => ?_) (fun f cdv A outer s H vs Q E hr h => ?_)
  · obtain ⟨_, _, rfl, _⟩ := h
    rfl
  obtain ⟨v, M, rfl, hv, hM, k⟩ := h
  refine ⟨_, (pss_one (ps_ret (pe_callB (cr_sortedD (Nat.lt_of_succ_lt (units65 hr))) (by rfl) b_sorted (by decide +kernel) (pa_cons (pe_callD d_orbits_onward (hr.mono (by decide)) rfl (pa_cons (pv 0) pa_nil)) pa_nil)))), ?_⟩
  refine ⟨_, rfl, v, M, rfl, hv, hM, fun H1 fl Pp L s1 hL hpar hall hLl => ?_⟩
  obtain ⟨as, hfl, hp, nfl⟩ := hL
  have hal := pairedLen hp
  refine ⟨fl, as.map V.ref, L.map nsD, rfl, sL hfl, pairedDp (fun a c q => q.1) hp, fun x hx => ?_, alikeLs L, sortableLs L, fun d hd => ?_, fun W p hW hs np => ?_⟩
  · obtain ⟨a, _, rfl⟩ := List.mem_map.mp hx
    exact ⟨a, rfl⟩
  · obtain ⟨c, _, rfl⟩ := List.mem_map.mp hd
    rw [depthNs]; decide
  · rw [zipMaps] at hW
    obtain ⟨Z, hZ, rfl⟩ := perm_lift _ hW
    have e1 : (Z.map fun q : Addr × List Nat => (V.ref q.1, nsD q.2)).map Prod.fst = (Z.map Prod.fst).map V.ref := by rw [List.map_map, List.map_map]; rfl
    rw [e1]
    have sp : Same H1 (upd H1 p (.lst ((Z.map Prod.fst).map V.ref))) := .new np
    have nHp : H p = none := by
      cases e : H p with
      | none => rfl
      | some o => rw [s1 _ _ e] at np; cases np
    refine k _ p (Z.map Prod.snd) (s1.trans sp) ⟨Z.map Prod.fst, upd_same, pairedMap (pairedOf (F := fun (a : Addr) (c : List Nat) => H1 a = some (.lst (natV c)) ∧ H a = none) fun q hq => pairedZip hp q (hZ.mem_iff.mp hq)) (fun a c ⟨h1, h2⟩ => ⟨sp _ _ h1, h2⟩), nHp⟩ (hpar.end hall ?_ ?_)
    · have := hZ.map Prod.snd
      rwa [List.map_snd_zip (by omega)] at this
    · rw [List.pairwise_map] at hs ⊢
      refine List.Pairwise.imp_of_mem (fun {u v} hu hv h => ?_) hs
      have ne : ∀ q, q ∈ Z → q.2 ≠ [] := fun q hq => (hpar.o _ (List.of_mem_zip (hZ.mem_iff.mp hq)).2).ne
      exact ltNs (ne u hu) (ne v hv) h
end
end Sw
set_option Elab.async false
set_option maxRecDepth 100000
set_option maxHeartbeats 8000000
namespace Sw
open PySem L2 PySem.Spec PyProof.Rows
section
variable {X : Cx}
/-- x in a tuple of data of any depth -/
def rInT (K : PySem.W.Frag) : R2 := fun x y H Q => ∃ d ds, Dp K H x d ∧ Dp K H y (.tuple ds) ∧ SeqAt.shaped d = true ∧ SeqAt.shaped (.tuple ds) = true ∧ Q (.bl (ds.any fun z => PyData.eqv z d)) H
theorem op_inT (hu : X.A.units + 65 < cLine) : OpR X (compareOp .In) (rInT X.K) := by
  intro pins s σ H x y v u Q I rx ry h
  obtain ⟨d, ds, hd, he, sd, se, q⟩ := h
  obtain ⟨as, r1⟩ := Dp.reads I d x v hd rx
  obtain ⟨bs, r2⟩ := Dp.reads I (.tuple ds) y u he ry
  exact SeqAt.in_tuple_reads r2 r1 (SeqAt.canLay_of_shaped se) (SeqAt.canLay_of_shaped sd) (room_in_shaped sd hu) ⟨.bl _, H, I, rfl, q⟩
/-- is of two truths -/
def rIsB (n : Bool) : R2 := fun x y H Q => ∃ a b, x = .bl a ∧ y = .bl b ∧ Q (.bl (if n then !decide (a = b) else decide (a = b))) H
theorem bool_beq (a b : Bool) : (Value.bool a == Value.bool b) = decide (a = b) := by cases a <;> cases b <;> rfl
theorem op_isB : OpR X (compareOp .Is) (rIsB false) := by
  intro pins s σ H x y v u Q I rx ry h
  obtain ⟨a, b, rfl, rfl, q⟩ := h
  cases (show v = Value.bool a from rx)
  cases (show u = Value.bool b from ry)
  exact wpAny_is_plain rfl (fin_bl I q (bool_beq a b).symm)
theorem op_notB : OpR X (compareOp .IsNot) (rIsB true) := by
  intro pins s σ H x y v u Q I rx ry h
  obtain ⟨a, b, rfl, rfl, q⟩ := h
  cases (show v = Value.bool a from rx)
  cases (show u = Value.bool b from ry)
  exact wpAny_isNot_plain rfl (fin_bl I q (congrArg not (bool_beq a b).symm))
end
/-- the steps of a room as data -/
def stsD (L : List Stp) : PyData := .tuple (L.map stD)
theorem noL_sts (L : List Stp) : noL (stsD L) = true := by rw [stsD, noL]; exact noLs_st L
theorem noLs_sts : ∀ N : List (List Stp), noLs (N.map stsD) = true
  | [] => by simp [noLs]
  | L :: N => by rw [List.map_cons, noLs, noL_sts, noLs_sts N]; rfl
theorem anySt (p : Stp) : ∀ L : List Stp, ((L.map stD).any fun z => PyData.eqv z (stD p)) = decide (p ∈ L)
  | [] => by simp
  | q :: L => by
    rw [List.map_cons, List.any_cons, anySt p L, eqvSt]
    by_cases e : q = p
    · subst e; simp
    · rw [decide_eq_false e, Bool.false_or]
      have : (p ∈ q :: L) ↔ p ∈ L := by
        rw [List.mem_cons]
        exact ⟨fun h => h.elim (fun q' => absurd q'.symm e) id, .inr⟩
      exact (decide_eq_decide.mpr this).symm
theorem shSt (p : Stp) (h : PyData.strOk p.1 = true) : SeqAt.shaped (stD p) = true := by
  unfold SeqAt.shaped
  rw [layStD p h, depthSt]
  rfl
theorem shTps (L : List Stp) (h : ∀ p, p ∈ L → PyData.strOk p.1 = true) : SeqAt.shaped (.tuple (L.map stD)) = true := by
  unfold SeqAt.shaped
  have := depthSts L
  rw [PyData.canLay0, laySts L h, PyData.depth, Bool.true_and, decide_eq_true_eq]
  omega
/-- the steps of the rooms that end -/
def endsL (M : List Rm) : List (List Stp) := (M.filter (·.1)).map (·.2)
theorem endsL_app (M N : List Rm) : endsL (M ++ N) = endsL M ++ endsL N := by unfold endsL; rw [List.filter_append, List.map_append]
theorem endsL_len (M : List Rm) : (endsL M).length ≤ M.length := by unfold endsL; rw [List.length_map]; exact List.length_filter_le _ _
theorem endsL_mem {M : List Rm} {L : List Stp} (h : L ∈ endsL M) : ∃ r, r ∈ M ∧ r.1 = true ∧ r.2 = L := by
  obtain ⟨r, hr, e⟩ := List.mem_map.mp h
  exact ⟨r, (List.mem_filter.mp hr).1, (List.mem_filter.mp hr).2, e⟩
theorem HasEnd.ne {M : List Rm} (h : HasEnd M) : ∃ L0 N, endsL M = L0 :: N := by
  obtain ⟨r, hr, e⟩ := h
  have : r.2 ∈ endsL M := List.mem_map_of_mem (List.mem_filter.mpr ⟨hr, e⟩)
  cases q : endsL M with
  | nil => rw [q] at this; cases this
  | cons L0 N => exact ⟨L0, N, rfl⟩
/-- the step stands with each room that ends -/
def stdB (M : List Rm) (p : Stp) : Bool := (endsL M).all fun L => decide (p ∈ L)
def steadyM (M : List Rm) : List Str := (((endsL M).headD []).filter (stdB M)).map (·.1)
/-- without these steps from the rooms that end -/
def cutR (S : List Str) (r : Rm) : Rm := (r.1, r.2.filter fun p => !r.1 || !decide (p.1 ∈ S))
def cutM (M : List Rm) : List Rm := M.map (cutR (steadyM M))
theorem cut_ok {M : List Rm} (S : List Str) (h : MOk M) : MOk (M.map (cutR S)) := by
  have mem : ∀ r, r ∈ M.map (cutR S) → ∃ q, q ∈ M ∧ r = cutR S q := fun r hr => by
    obtain ⟨q, hq, e⟩ := List.mem_map.mp hr
    exact ⟨q, hq, e.symm⟩
  refine ⟨⟨fun r hr => ?_, fun r hr p hp => ?_, fun r hr p hp => ?_, fun r hr => ?_⟩, by rw [List.length_map]; exact h.pos, by rw [List.length_map]; exact h.le⟩
  · obtain ⟨q, hq, rfl⟩ := mem r hr
    exact Nat.le_trans (List.length_filter_le _ _) (h.deg q hq)
  · obtain ⟨q, hq, rfl⟩ := mem r hr
    rw [List.length_map]
    exact h.tgt q hq p (List.mem_filter.mp hp).1
  · obtain ⟨q, hq, rfl⟩ := mem r hr
    exact h.str q hq p (List.mem_filter.mp hp).1
  · obtain ⟨q, hq, rfl⟩ := mem r hr
    exact (h.inc q hq).sub (List.filter_sublist.map _)
section
variable {P : Program} {w : World} {K : PySem.W.Frag} {mg : Str → Option Value} {base : Heap}
abbrev n_steady : List Str := ["machine", "ending", "ends", "steps", "sign", "behind"]
theorem sc_steady : FnScope n_steady ["machine"] (defScope s_steady) := ⟨rfl, rfl, rfl, by decide +kernel, rfl, by decide +kernel, by decide +kernel⟩
abbrev lc2_steady : Scope := { kind := .function, names := [(".0", .local), ("sign", .cell), ("behind", .cell), ("all", .globalImplicit), ("ending", .cell)], isGenerator := false, isCoroutine := false }
def spSteady (K : PySem.W.Frag) : Sp := fun vs H Q _ => ∃ (v : V) (M : List Rm), vs = [v] ∧ Dp K H v (maD M) ∧ MOk M ∧ HasEnd M ∧ ∀ H' p, Same H H' → H' p = some (.lst ((steadyM M).map V.str)) → H p = none → Q (.ref p) H'
theorem ok_steady (F : DefAt K mg "steady" s_steady ["machine"]) (b_all : mg "all" = none) : DefOk P w K mg base "steady" 1 ["machine"] (spSteady K) := by
  refine F.ok sc_steady (fun vs H Q E h => ?_) (fun f cdv A outer s H vs Q E hr h => ?_)
  · obtain ⟨_, _, rfl, _⟩ := h
    rfl
  obtain ⟨v, M, rfl, hv, hM, hE, k⟩ := h
  obtain ⟨ma, rs, rfl, hma, hrs⟩ := dpTup hv
  have hlen := dpsLen hrs
  rw [List.length_map] at hlen
  have hMl := hM.le
  have hu65 := units65 hr
  refine ⟨_, (pss_cons (ps_set (i := 1) sc_steady.nd rfl (Or.inr rfl) (pe_lc (own := [("ends", 2), ("steps", 3)]) (g := gTup K 2 (gCons (gName 2) (gCons (gName 3) gNil))) rfl sc_steady.nd (pi_tup (pv 0)) (blkOk_by (own := [("ends", 2), ("steps", 3)]) (N := n_steady) (sc := defScope s_steady) (by decide +kernel)) (fun _ _ _ _ _ => (pg_tup rfl (pgs_cons (pg_name (i := 2) sc_steady.nd rfl (Or.inl rfl)) (pgs_cons (pg_name (i := 3) sc_steady.nd rfl (Or.inl rfl)) pgs_nil)))) (fun _ _ _ _ _ => (pts_one (pt_val (pv 2)))) (fun _ _ _ _ _ => (pv 3))))
    (pss_one (ps_ret (pe_lc (own := [("sign", 4), ("behind", 5)]) (g := gTup K 2 (gCons (gName 4) (gCons (gName 5) gNil))) rfl sc_steady.nd (pi_tup (pe_ix ix_list (pv 1) pe_int (fun _ _ => rfl))) (blkOk_by (own := [("sign", 4), ("behind", 5)]) (N := n_steady) (sc := defScope s_steady) (by decide +kernel)) (fun _ _ _ _ _ => (pg_tup rfl (pgs_cons (pg_name (i := 4) sc_steady.nd rfl (Or.inr rfl)) (pgs_cons (pg_name (i := 5) sc_steady.nd rfl (Or.inr rfl)) pgs_nil)))) (fun _ _ _ _ _ => (pts_one (pt_val (pe_callB (r := rAll K) (cr_all rfl) (by rfl) b_all (by decide +kernel) (pa_cons (pe_lc (wi := iList K (tVar 1)) (own := [("steps", 3)]) (g := gName 3) rfl sc_steady.nd (pi_list (pv 1)) (blkOk_by (own := [("steps", 3)]) (N := n_steady) (sc := lc2_steady) (by decide +kernel)) (fun _ _ _ _ _ => (pg_name (i := 3) sc_steady.nd rfl (Or.inl rfl))) (fun _ _ _ _ _ => pts_nil) (fun _ _ _ _ _ => (pe_cmpR (r := rInT K) (op_inT hu65) (pe_tup (pa_cons (pv 4) (pa_cons (pv 5) pa_nil))) (pv 3) (by rfl)))) pa_nil))))) (fun _ _ _ _ _ => (pv 4)))))), ?_⟩
  refine ⟨_, rfl, ma, rfl, ⟨_, hma⟩, fun D nD => ?_⟩
  refine lc_tup (K := K) (a := ma) (xs := rs) (fun i H' => ∃ us : List V, Same H H' ∧ H' D = some (.lst us) ∧ DpAll K H' us ((endsL (M.take i)).map stsD)) ⟨[], .new nD, upd_same, .nil⟩ (fun i H' _ ⟨_, g, _⟩ => g.sqT hma) ?_ ?_
  · rintro i v H1 hv1 ⟨us, s1, hD, hus⟩
    have hi := (List.getElem?_eq_some_iff.mp hv1).1
    obtain ⟨r, hr'⟩ : ∃ r, M[i]? = some r := ⟨_, List.getElem?_eq_getElem (by omega)⟩
    obtain ⟨ra, b, ls, e1, e2, e3, e4⟩ := rmsAt hrs hr'
    have ev : v = .ref ra := by rw [hv1] at e1; exact Option.some.inj e1
    subst ev
    have hul := dpsLen hus
    rw [List.length_map] at hul
    have hel := endsL_len (M.take i)
    rw [List.length_take] at hel
    have et : endsL (M.take (i + 1)) = endsL (M.take i) ++ (if r.1 = true then [r.2] else []) := by
      rw [take_snoc hr', endsL_app]
      congr 1
      unfold endsL
      by_cases q : r.1 = true
      · rw [if_pos q, List.filter_cons_of_pos q]; rfl
      · rw [if_neg q, List.filter_cons_of_neg q]; rfl
    refine ⟨ra, _, rfl, s1.sqT e2, rfl, _, _, rfl, _, _, rfl, rfl, rfl, ?_⟩
    refine ⟨_, rfl, _, rfl, ite2 (fun q => ?_) (fun q => ?_)⟩
    · rw [if_pos q] at et
      refine ⟨_, rfl, us, hD, szb (by omega), us ++ [.ref b], s1.mut nD, upd_same, ?_⟩
      rw [et, List.map_append]
      exact dpsApp (dpsW hD (noLs_sts _) hus) (.cons (dpW hD (noL_sts r.2) (.tup (s1.sqT e3) (dpsS s1 e4))) .nil)
    · rw [if_neg q, List.append_nil] at et
      rw [et]
      exact ⟨us, s1, hD, hus⟩
  · rintro H1 ⟨us, s1, hD, hus⟩
    rw [hlen, List.take_length] at hus
    have hul := dpsLen hus
    rw [List.length_map] at hul
    have hel := endsL_len M
    obtain ⟨L0, N, eN⟩ := hE.ne
    obtain ⟨u0, hu0, hd0⟩ := dpsAt hus (i := 0) (d := stsD L0) (by rw [eN]; rfl)
    obtain ⟨b0, ls0, rfl, hb0, hls0⟩ := dpTup hd0
    have eh : (endsL M).headD [] = L0 := by rw [eN]; rfl
    obtain ⟨r0, hr0, _, er0⟩ := endsL_mem (M := M) (L := L0) (by rw [eN]; simp)
    have hdeg := hM.deg r0 hr0
    rw [er0] at hdeg
    have hstr := hM.str r0 hr0
    rw [er0] at hstr
    have hl0 := dpsLen hls0
    rw [List.length_map] at hl0
    refine ⟨_, rfl, D, _, 0, .ref b0, rfl, rfl, sL hD, atI_nat (j := 0) hu0, b0, rfl, ⟨_, hb0⟩, fun D2 nD2 => ?_⟩
    refine lc_tup (K := K) (a := b0) (xs := ls0) (fun j H' => Same H1 H' ∧ H' D2 = some (.lst ((((L0.take j).filter (stdB M)).map (·.1)).map V.str))) ⟨.new nD2, upd_same⟩ (fun j H' _ ⟨g, _⟩ => g.sqT hb0) ?_ ?_
    · rintro j v H2 hv2 ⟨s2, hD2⟩
      obtain ⟨p, pa, hp, rfl, hpa⟩ := stsAt hls0 hv2
      have hj := (List.getElem?_eq_some_iff.mp hp).1
      have hpM := List.mem_of_getElem? hp
      have et : (L0.take (j + 1)).filter (stdB M) = (L0.take j).filter (stdB M) ++ (if stdB M p = true then [p] else []) := by
        rw [take_snoc hp, List.filter_append]
        congr 1
        by_cases q : stdB M p = true
        · rw [if_pos q, List.filter_cons_of_pos q]; rfl
        · rw [if_neg q, List.filter_cons_of_neg q]; rfl
      have hfl : ((L0.take j).filter (stdB M)).length ≤ 6 := Nat.le_trans (List.length_filter_le _ _) (by rw [List.length_take]; omega)
      refine ⟨pa, _, rfl, s2.sqT hpa, rfl, _, _, rfl, _, _, rfl, rfl, rfl, ?_⟩
      refine ⟨_, rfl, D, rfl, ⟨_, sL (s2 _ _ hD)⟩, fun D3 nD3 => ?_⟩
      refine lc_list (K := K) (a := D) (xs := us) (fun m H' => Same H2 H' ∧ H' D3 = some (.lst ((((endsL M).take m).map fun L => decide (p ∈ L)).map V.bl))) ⟨.new nD3, upd_same⟩ (fun m H' _ ⟨g, _⟩ => sL (g _ _ (s2 _ _ hD))) ?_ ?_
      · rintro m u H3 hu3 ⟨s3, hD3⟩
        have hm := (List.getElem?_eq_some_iff.mp hu3).1
        obtain ⟨dd, hdd, hdp⟩ := dpsAtV hus hu3
        rw [List.getElem?_map] at hdd
        obtain ⟨L, hL, rfl⟩ := Option.map_eq_some_iff.mp hdd
        obtain ⟨r1, hr1, _, er1⟩ := endsL_mem (List.mem_of_getElem? hL)
        refine ⟨rfl, ?_⟩
        refine ⟨_, rfl, _, rfl, (by show 2 ≤ sizeLine; decide), fun t nt => ?_⟩
        have st : Same H3 (upd H3 t (.tup [.str p.1, .int (p.2 : Int)])) := .new nt
        have ht : Dp K (upd H3 t (.tup [.str p.1, .int (p.2 : Int)])) (.ref t) (stD p) := .tup (sT upd_same) (.cons (.str _) (.cons (.int _) .nil))
        generalize upd H3 t (.tup [.str p.1, .int (p.2 : Int)]) = H4 at st ht ⊢
        refine ⟨_, rfl, stD p, L.map stD, ht, dpS (s2.trans (s3.trans st)) hdp, shSt p (hstr p hpM), shTps L (fun q hq => hM.str r1 hr1 q (by rw [er1]; exact hq)), ?_⟩
        rw [anySt]
        refine ⟨_, st _ _ hD3, szb (by rw [List.length_map, List.length_map, List.length_take]; omega), (s3.trans st).mut nD3, ?_⟩
        rw [upd_same, take_snoc hL, List.map_append, List.map_append]
        rfl
      · rintro H3 ⟨s3, hD3⟩
        rw [hul, List.take_length] at hD3
        refine ⟨D3, _, rfl, sL hD3, ?_⟩
        have eall : ((endsL M).map fun L => decide (p ∈ L)).all id = stdB M p := by unfold stdB; rw [List.all_map]; rfl
        rw [eall]
        refine ⟨_, rfl, ite2 (fun q => ?_) (fun q => ?_)⟩
        · rw [if_pos q] at et
          refine ⟨_, rfl, _, s3 _ _ hD2, szb (by rw [List.length_map, List.length_map]; omega), (s2.trans s3).mut nD2, ?_⟩
          rw [upd_same, et, List.map_append, List.map_append]
          rfl
        · rw [if_neg q, List.append_nil] at et
          rw [et]
          exact ⟨s2.trans s3, s3 _ _ hD2⟩
    · rintro H2 ⟨s2, hD2⟩
      rw [hl0, List.take_length] at hD2
      refine k H2 D2 (s1.trans s2) (by rw [hD2, steadyM, eh]) ?_
      cases e : H D2 with
      | none => rfl
      | some o => rw [s1 _ _ e] at nD2; cases nD2
end
end Sw
set_option Elab.async false
set_option maxRecDepth 100000
set_option maxHeartbeats 8000000
namespace Sw
open PySem L2 PySem.Spec PyProof.Rows
theorem filter_snoc {α : Type} (f : α → Bool) (l : List α) (p : α) : (l ++ [p]).filter f = l.filter f ++ (if f p = true then [p] else []) := by
  rw [List.filter_append]
  congr 1
  by_cases q : f p = true
  · rw [if_pos q, List.filter_cons_of_pos q]; rfl
  · rw [if_neg q, List.filter_cons_of_neg q]; rfl
theorem steady_len {M : List Rm} (h : MOk M) : (steadyM M).length ≤ 6 := by
  unfold steadyM
  rw [List.length_map]
  refine Nat.le_trans (List.length_filter_le _ _) ?_
  cases q : endsL M with
  | nil => exact Nat.zero_le _
  | cons L0 N =>
    obtain ⟨r, hr, _, e⟩ := endsL_mem (M := M) (L := L0) (by rw [q]; simp)
    show L0.length ≤ 6
    rw [← e]
    exact h.deg r hr
theorem strs_in (x : Str) : ∀ S : List Str, inV (.str x) (S.map V.str) = decide (x ∈ S)
  | [] => by simp [inV]
  | y :: S => by
    have ih := strs_in x S
    unfold inV at ih ⊢
    rw [List.map_cons, List.any_cons, ih]
    by_cases e : y = x
    · subst e; simp [eqV]
    · have h1 : eqV (V.str y) (V.str x) = false := by simp [eqV, e]
      have : (x ∈ y :: S) ↔ x ∈ S := by
        rw [List.mem_cons]
        exact ⟨fun h => h.elim (fun q => absurd q.symm e) id, .inr⟩
      rw [h1, Bool.false_or]
      exact (decide_eq_decide.mpr this).symm
theorem strs_flat (S : List Str) : (S.map V.str).all flatV = true := by
  rw [List.all_eq_true]
  intro v hv
  obtain ⟨k, _, rfl⟩ := List.mem_map.mp hv
  rfl
section
variable {P : Program} {w : World} {K : PySem.W.Frag} {mg : Str → Option Value} {base : Heap}
def rTup (K : PySem.W.Frag) : List V → Hp → VK → Prop := fun xs H Q => ∃ p ys, xs = [V.ref p] ∧ ((SqL K H p ys ∧ ∀ l : Addr, H l = none → Q (V.ref l) (upd H l (.tup ys))) ∨ SqT K H p ys ∧ Q (V.ref p) H)
abbrev n_cut : List Str := ["machine", "left_out", "step", "ends", "steps"]
theorem sc_cut : FnScope n_cut ["machine"] (defScope s_cut) := ⟨rfl, rfl, rfl, by decide +kernel, rfl, by decide +kernel, by decide +kernel⟩
abbrev lc2_cut : Scope := { kind := .function, names := [(".0", .local), ("ends", .cell), ("steps", .local), ("tuple", .globalImplicit), ("left_out", .cell)], isGenerator := false, isCoroutine := false }
def spCut (K : PySem.W.Frag) : Sp := fun vs H Q _ => ∃ (v : V) (M : List Rm), vs = [v] ∧ Dp K H v (maD M) ∧ MOk M ∧ HasEnd M ∧ ∀ H' u, Same H H' → Dp K H' u (maD (cutM M)) → Q u H'
theorem ok_cut (F : DefAt K mg "cut" s_cut ["machine"]) (d_steady : DefOk P w K mg base "steady" 1 ["machine"] (spSteady K)) (b_tuple : mg "tuple" = none) : DefOk P w K mg base "cut" 2 ["machine"] (spCut K) := by
  refine F.ok sc_cut (fun vs H Q E h => ?_) (fun f cdv A outer s H vs Q E hr h => ?_)
  · obtain ⟨_, _, rfl, _⟩ := h
    rfl
  obtain ⟨v, M, rfl, hv, hM, hE, k⟩ := h
  have hv0 := hv
  obtain ⟨ma, rs, rfl, hma, hrs⟩ := dpTup hv0
  have hlen := dpsLen hrs
  rw [List.length_map] at hlen
  have hMl := hM.le
  refine ⟨_, (pss_cons (ps_set (i := 1) sc_cut.nd rfl (Or.inr rfl) (pe_callD d_steady (hr.mono (by decide)) rfl (pa_cons (pv 0) pa_nil)))
    (pss_one (ps_ret (pe_callTy call_tuple_of (by rfl) b_tuple (by decide +kernel) (pa_cons (pe_lc (own := [("ends", 3), ("steps", 4)]) (g := gTup K 2 (gCons (gName 3) (gCons (gName 4) gNil))) rfl sc_cut.nd (pi_tup (pv 0)) (blkOk_by (own := [("ends", 3), ("steps", 4)]) (N := n_cut) (sc := defScope s_cut) (by decide +kernel)) (fun _ _ _ _ _ => (pg_tup rfl (pgs_cons (pg_name (i := 3) sc_cut.nd rfl (Or.inr rfl)) (pgs_cons (pg_name (i := 4) sc_cut.nd rfl (Or.inl rfl)) pgs_nil)))) (fun _ _ _ _ _ => pts_nil) (fun _ _ _ _ _ => (pe_tup (pa_cons (pv 3) (pa_cons (pe_callTy (r := rTup K) call_tuple_of (by rfl) b_tuple (by decide +kernel) (pa_cons (pe_lc (wi := iTup K (tVar 4)) (own := [("step", 2)]) (g := gName 2) rfl sc_cut.nd (pi_tup (pv 4)) (blkOk_by (own := [("step", 2)]) (N := n_cut) (sc := lc2_cut) (by decide +kernel)) (fun _ _ _ _ _ => (pg_name (i := 2) sc_cut.nd rfl (Or.inl rfl))) (fun _ _ _ _ _ => (pts_one (PW.pt (pw_or (pt_not (pt_val (pv 3))) (pw_or1 (pt_cmpR (r := rIn K true) op_notIn_seq (pe_ix (r := rIxT K) ix_tup (pv 2) pe_int (fun _ _ => rfl)) (pv 1) (by rfl))))))) (fun _ _ _ _ _ => (pv 2))) pa_nil)) pa_nil))))) pa_nil))))), ?_⟩
  refine ⟨_, rfl, _, M, rfl, hv, hM, hE, fun H1 S s1 hS nS => ?_⟩
  have hSl := steady_len hM
  refine ⟨_, rfl, ma, rfl, ⟨_, s1.sqT hma⟩, fun D nD => ?_⟩
  refine lc_tup (K := K) (a := ma) (xs := rs) (fun i H' => ∃ us : List V, Same H1 H' ∧ H' D = some (.lst us) ∧ DpAll K H' us (((M.take i).map (cutR (steadyM M))).map rmD)) ⟨[], .new nD, upd_same, .nil⟩ (fun i H' _ ⟨_, g, _⟩ => (s1.trans g).sqT hma) ?_ ?_
  · rintro i v H2 hv1 ⟨us, s2, hD, hus⟩
    have hi := (List.getElem?_eq_some_iff.mp hv1).1
    obtain ⟨r, hr'⟩ : ∃ r, M[i]? = some r := ⟨_, List.getElem?_eq_getElem (by omega)⟩
    have s12 := s1.trans s2
    obtain ⟨ra, b, ls, e1, e2, e3, e4⟩ := rmsAt (dpsS s12 hrs) hr'
    have ev : v = .ref ra := by rw [hv1] at e1; exact Option.some.inj e1
    subst ev
    have hul := dpsLen hus
    rw [List.length_map, List.length_map, List.length_take] at hul
    have hls := dpsLen e4
    rw [List.length_map] at hls
    have hdeg := hM.deg r (List.mem_of_getElem? hr')
    refine ⟨ra, _, rfl, e2, rfl, _, _, rfl, _, _, rfl, rfl, rfl, ?_⟩
    refine ⟨_, rfl, _, rfl, b, rfl, ⟨_, e3⟩, fun D2 nD2 => ?_⟩
    refine lc_tup (K := K) (a := b) (xs := ls) (fun j H' => ∃ ws : List V, Same H2 H' ∧ H' D2 = some (.lst ws) ∧ DpAll K H' ws (((r.2.take j).filter fun p => !r.1 || !decide (p.1 ∈ steadyM M)).map stD)) ⟨[], .new nD2, upd_same, .nil⟩ (fun j H' _ ⟨_, g, _⟩ => g.sqT e3) ?_ ?_
    · rintro j v H3 hv3 ⟨ws, s3, hD2, hws⟩
      obtain ⟨p, pa, hp, rfl, hpa⟩ := stsAt e4 hv3
      have hj := (List.getElem?_eq_some_iff.mp hp).1
      have hpD : Dp K H3 (.ref pa) (stD p) := .tup (s3.sqT hpa) (.cons (.str _) (.cons (.int _) .nil))
      have hwl := dpsLen hws
      rw [List.length_map] at hwl
      have hfl : ((r.2.take j).filter fun p => !r.1 || !decide (p.1 ∈ steadyM M)).length ≤ 6 := Nat.le_trans (List.length_filter_le _ _) (by rw [List.length_take]; omega)
      have et : (r.2.take (j + 1)).filter (fun p => !r.1 || !decide (p.1 ∈ steadyM M)) = (r.2.take j).filter (fun p => !r.1 || !decide (p.1 ∈ steadyM M)) ++ (if (!r.1 || !decide (p.1 ∈ steadyM M)) = true then [p] else []) := by
        rw [take_snoc hp, filter_snoc]
      have yes : (!r.1 || !decide (p.1 ∈ steadyM M)) = true → ∃ acc, H3 D2 = some (.lst acc) ∧ acc.length < sizeLine ∧ ∃ ws : List V, Same H2 (upd H3 D2 (.lst (acc ++ [.ref pa]))) ∧ (upd H3 D2 (.lst (acc ++ [.ref pa]))) D2 = some (.lst ws) ∧ DpAll K (upd H3 D2 (.lst (acc ++ [.ref pa]))) ws (((r.2.take (j + 1)).filter fun p => !r.1 || !decide (p.1 ∈ steadyM M)).map stD) := fun q => by
        rw [if_pos q] at et
        refine ⟨ws, hD2, szb (by omega), ws ++ [.ref pa], s3.mut nD2, upd_same, ?_⟩
        rw [et, List.map_append]
        exact dpsApp (dpsW hD2 (noLs_st _) hws) (.cons (dpW hD2 (noL_st p) hpD) .nil)
      refine ⟨rfl, ?_⟩
      refine ⟨_, rfl, r.1, rfl, ?_⟩
      refine ite2 (fun q1 => ?_) (fun q1 => ?_)
      · have q1' : (!r.1) = true := q1
        exact iteT' rfl ⟨_, rfl, yes (by rw [q1', Bool.true_or])⟩
      · have q1' : (!r.1) = false := by simpa using q1
        refine ⟨_, rfl, pa, _, 0, _, rfl, rfl, s3.sqT hpa, atI_nat (j := 0) rfl, _, rfl, S, _, rfl, .inl (sL ((s2.trans s3) _ _ hS)), rfl, strs_flat _, _, rfl, ?_⟩
        rw [strs_in]
        refine ite2 (fun q => ⟨_, rfl, yes (by rw [q1', Bool.false_or]; exact q)⟩) (fun q => ?_)
        rw [if_neg (by rw [q1', Bool.false_or]; exact q), List.append_nil] at et
        rw [et]
        exact ⟨ws, s3, hD2, hws⟩
    · rintro H3 ⟨ws, s3, hD2, hws⟩
      rw [hls, List.take_length] at hws
      refine ⟨D2, ws, rfl, .inl ⟨sL hD2, fun l nl => ⟨(by show 2 ≤ sizeLine; decide), fun t nt => ?_⟩⟩⟩
      have hD3 := s3 _ _ hD
      refine ⟨us, Same.new nt _ _ (Same.new nl _ _ hD3), szb (by omega), us ++ [.ref t], (s2.trans (s3.trans ((Same.new nl).trans (.new nt)))).mut nD, upd_same, ?_⟩
      rw [take_snoc hr', List.map_append]
      exact roomAdd (N := (M.take i).map (cutR (steadyM M))) (L := r.2.filter fun p => !r.1 || !decide (p.1 ∈ steadyM M)) (bb := r.1) hD3 (dpsS s3 hus) hws nl nt
  · rintro H2 ⟨us, s2, hD, hus⟩
    rw [hlen, List.take_length] at hus
    refine ⟨D, us, rfl, .inl ⟨sL hD, fun t nt => ?_⟩⟩
    have st : Same H2 (upd H2 t (.tup us)) := .new nt
    exact k _ (.ref t) (s1.trans (s2.trans st)) (.tup (sT upd_same) (dpsS st hus))
end
end Sw
set_option Elab.async false
set_option maxRecDepth 100000
set_option maxHeartbeats 8000000
namespace Sw
open PySem L2 PySem.Spec PyProof.Rows
theorem cutM_len (M : List Rm) : (cutM M).length = M.length := List.length_map ..
section
variable {P : Program} {w : World} {K : PySem.W.Frag} {mg : Str → Option Value} {base : Heap}
abbrev n_cut_orbits : List Str := ["machine"]
theorem sc_cut_orbits : FnScope n_cut_orbits ["machine"] (defScope s_cut_orbits) := ⟨rfl, rfl, rfl, by decide +kernel, rfl, by decide +kernel, by decide +kernel⟩
def spCutOrbs (K : PySem.W.Frag) : Sp := fun vs H Q _ => ∃ (v : V) (M : List Rm), vs = [v] ∧ Dp K H v (maD M) ∧ MOk M ∧ HasEnd M ∧ ∀ H' fl L, Same H H' → LLAt H H' fl L → Orbs (Eg (cutM M)) M.length L → Q (.ref fl) H'
theorem llBack {H0 H1 H : Hp} {a : Addr} {L : List (List Nat)} (h : LLAt H1 H a L) (s : Same H0 H1) : LLAt H0 H a L := by
  have fr : ∀ {x : Addr}, H1 x = none → H0 x = none := fun {x} n => by
    cases e : H0 x with
    | none => rfl
    | some o => rw [s _ _ e] at n; cases n
  obtain ⟨as, h1, h2, h3⟩ := h
  exact ⟨as, h1, pairedMap h2 (fun a c ⟨g1, g2⟩ => ⟨g1, fr g2⟩), fr h3⟩
theorem ok_cut_orbits (F : DefAt K mg "cut_orbits" s_cut_orbits ["machine"]) (d_cut : DefOk P w K mg base "cut" 2 ["machine"] (spCut K)) (d_orbits : DefOk P w K mg base "orbits" 3 ["machine"] (spOrbs K)) : DefOk P w K mg base "cut_orbits" 4 ["machine"] (spCutOrbs K) := by
  refine F.ok sc_cut_orbits (fun vs H Q E h => ?_) (fun f cdv A outer s H vs Q E hr h => ?_)
  · obtain ⟨_, _, rfl, _⟩ := h
    rfl
  obtain ⟨v, M, rfl, hv, hM, hE, k⟩ := h
  refine ⟨_, (pss_one (ps_ret (pe_callD d_orbits (hr.mono (by decide)) rfl (pa_cons (pe_callD d_cut (hr.mono (by decide)) rfl (pa_cons (pv 0) pa_nil)) pa_nil)))), ?_⟩
  refine ⟨_, rfl, v, M, rfl, hv, hM, hE, fun H1 u s1 hu => ?_⟩
  refine ⟨u, cutM M, rfl, hu, cut_ok _ hM, fun H2 fl L s2 hL hO => ?_⟩
  rw [cutM_len] at hO
  exact k H2 fl L (s1.trans s2) (llBack hL s1) hO
abbrev n_cut_gates : List Str := ["machine", "orbit"]
theorem sc_cut_gates : FnScope n_cut_gates ["machine", "orbit"] (defScope s_cut_gates) := ⟨rfl, rfl, rfl, by decide +kernel, rfl, by decide +kernel, by decide +kernel⟩
def spCutGates (K : PySem.W.Frag) : Sp := fun vs H Q _ => ∃ (v : V) (M : List Rm) (oa : Addr) (o : List Nat), vs = [v, .ref oa] ∧ Dp K H v (maD M) ∧ MOk M ∧ HasEnd M ∧ H oa = some (.lst (natV o)) ∧ o.length ≤ 1000 ∧ (∀ x, x ∈ o → x < M.length) ∧
  ∀ H' p, Same H H' → H' p = some (.lst (natV (gatesM (cutM M) o))) → H p = none → Q (.ref p) H'
theorem ok_cut_gates (F : DefAt K mg "cut_gates" s_cut_gates ["machine", "orbit"]) (d_cut : DefOk P w K mg base "cut" 2 ["machine"] (spCut K)) (d_gates : DefOk P w K mg base "gates" 2 ["machine", "orbit"] (spGates K)) : DefOk P w K mg base "cut_gates" 3 ["machine", "orbit"] (spCutGates K) := by
  refine F.ok sc_cut_gates (fun vs H Q E h => ?_) (fun f cdv A outer s H vs Q E hr h => ?_)
  · obtain ⟨_, _, _, _, rfl, _⟩ := h
    rfl
  obtain ⟨v, M, oa, o, rfl, hv, hM, hE, ho, hol, hlt, k⟩ := h
  refine ⟨_, (pss_one (ps_ret (pe_callD d_gates (hr.mono (by decide)) rfl (pa_cons (pe_callD d_cut (hr.mono (by decide)) rfl (pa_cons (pv 0) pa_nil)) (pa_cons (pv 1) pa_nil))))), ?_⟩
  refine ⟨_, rfl, v, M, rfl, hv, hM, hE, fun H1 u s1 hu => ?_⟩
  refine ⟨_, rfl, u, cutM M, oa, o, rfl, hu, cut_ok _ hM, s1 _ _ ho, hol, fun x hx => by rw [cutM_len]; exact hlt x hx, fun H2 p s2 hp np => ?_⟩
  refine k H2 p (s1.trans s2) hp ?_
  cases e : H p with
  | none => rfl
  | some o => rw [s1 _ _ e] at np; cases np
def goalL (L : List Stp) (x : Str) : List Nat := (L.filter fun p => decide (p.1 = x)).map (·.2)
abbrev n_law_ggoal : List Str := ["leads", "sign", "one", "there"]
theorem sc_law_ggoal : FnScope n_law_ggoal ["leads", "sign"] (defScope s_law_ggoal) := ⟨rfl, rfl, rfl, by decide +kernel, rfl, by decide +kernel, by decide +kernel⟩
def spGoal (K : PySem.W.Frag) : Sp := fun vs H Q _ => ∃ (v : V) (L : List Stp) (x : Str), vs = [v, .str x] ∧ Dp K H v (stsD L) ∧ L.length ≤ 6 ∧ ∀ H' p, Same H H' → H' p = some (.lst (natV (goalL L x))) → H p = none → Q (.ref p) H'
theorem ok_law_ggoal (F : DefAt K mg "_law_ggoal" s_law_ggoal ["leads", "sign"]) : DefOk P w K mg base "_law_ggoal" 1 ["leads", "sign"] (spGoal K) := by
  refine F.ok sc_law_ggoal (fun vs H Q E h => ?_) (fun f cdv A outer s H vs Q E hr h => ?_)
  · obtain ⟨_, _, _, rfl, _⟩ := h
    rfl
  obtain ⟨v, L, x, rfl, hv, hL6, k⟩ := h
  obtain ⟨b, ls, rfl, hb, hls⟩ := dpTup hv
  have hll := dpsLen hls
  rw [List.length_map] at hll
  refine ⟨_, (pss_one (ps_ret (pe_lc (own := [("one", 2), ("there", 3)]) (g := gTup K 2 (gCons (gName 2) (gCons (gName 3) gNil))) rfl sc_law_ggoal.nd (pi_tup (pv 0)) (blkOk_by (own := [("one", 2), ("there", 3)]) (N := n_law_ggoal) (sc := defScope s_law_ggoal) (by decide +kernel)) (fun _ _ _ _ _ => (pg_tup rfl (pgs_cons (pg_name (i := 2) sc_law_ggoal.nd rfl (Or.inl rfl)) (pgs_cons (pg_name (i := 3) sc_law_ggoal.nd rfl (Or.inl rfl)) pgs_nil)))) (fun _ _ _ _ _ => (pts_one (pt_cmpR op_eq (pv 2) (pv 1) (nomark _)))) (fun _ _ _ _ _ => (pv 3))))), ?_⟩
  refine ⟨_, rfl, b, rfl, ⟨_, hb⟩, fun D nD => ?_⟩
  refine lc_tup (K := K) (a := b) (xs := ls) (fun j H' => Same H H' ∧ H' D = some (.lst (natV (goalL (L.take j) x)))) ⟨.new nD, upd_same⟩ (fun j H' _ ⟨g, _⟩ => g.sqT hb) ?_ ?_
  · rintro j v H1 hv1 ⟨s1, hD⟩
    obtain ⟨p, pa, hp, rfl, hpa⟩ := stsAt hls hv1
    have et : goalL (L.take (j + 1)) x = goalL (L.take j) x ++ (if p.1 = x then [p.2] else []) := by
      unfold goalL
      rw [take_snoc hp, filter_snoc, List.map_append]
      congr 1
      by_cases q : p.1 = x
      · rw [if_pos q, if_pos (decide_eq_true q)]; rfl
      · rw [if_neg q, if_neg (by rw [decide_eq_false q]; decide)]; rfl
    have hfl : (goalL (L.take j) x).length ≤ 6 := by
      unfold goalL
      rw [List.length_map]
      exact Nat.le_trans (List.length_filter_le _ _) (by rw [List.length_take]; omega)
    refine ⟨pa, _, rfl, s1.sqT hpa, rfl, _, _, rfl, _, _, rfl, rfl, rfl, ?_⟩
    refine ⟨_, rfl, _, rfl, rfl, _, rfl, ite2 (fun q => ?_) (fun q => ?_)⟩
    · have q' : p.1 = x := V.str.inj (of_decide_eq_true q)
      rw [if_pos q'] at et
      refine ⟨_, rfl, _, hD, szb (by rw [ints_len]; omega), s1.mut nD, ?_⟩
      rw [upd_same, et, natV_snoc]
    · have q' : ¬ p.1 = x := fun e => q (decide_eq_true (congrArg V.str e))
      rw [if_neg q', List.append_nil] at et
      rw [et]
      exact ⟨s1, hD⟩
  · rintro H1 ⟨s1, hD⟩
    rw [hll, List.take_length] at hD
    exact k H1 D s1 hD nD
end
end Sw
set_option Elab.async false
set_option maxRecDepth 100000
set_option maxHeartbeats 8000000
namespace Sw
open PySem L2 PySem.Spec PyProof.Rows
theorem goal_mem {L : List Stp} {x : Str} {n : Nat} (h : n ∈ goalL L x) : (x, n) ∈ L := by
  unfold goalL at h
  obtain ⟨p, hp, e⟩ := List.mem_map.mp h
  obtain ⟨h1, h2⟩ := List.mem_filter.mp hp
  have : p = (x, n) := by
    obtain ⟨a, b⟩ := p
    have e1 : a = x := of_decide_eq_true h2
    have e2 : b = n := e
    rw [e1, e2]
  rw [← this]
  exact h1
theorem goal_none {L : List Stp} {x : Str} (h : ∀ q, q ∈ L → q.1 ≠ x) : goalL L x = [] := by
  unfold goalL
  rw [List.filter_eq_nil_iff.mpr fun q hq => by rw [decide_eq_false (h q hq)]; decide]
  rfl
theorem goal_one : ∀ {L : List Stp} {p : Stp}, Inc L → p ∈ L → goalL L p.1 = [p.2]
  | [], _, _, h => by cases h
  | q :: L, p, hi, hp => by
    have hi' : (q.1 :: L.map (·.1)).Pairwise SL := hi
    obtain ⟨h1, h2⟩ := List.pairwise_cons.mp hi'
    have hc : goalL (q :: L) p.1 = (if q.1 = p.1 then [q.2] else []) ++ goalL L p.1 := by
      unfold goalL
      by_cases e : q.1 = p.1
      · rw [if_pos e, List.filter_cons, if_pos (decide_eq_true e)]; rfl
      · rw [if_neg e, List.filter_cons, if_neg (by rw [decide_eq_false e]; decide)]; rfl
    rw [hc]
    rcases List.mem_cons.mp hp with rfl | hp
    · rw [if_pos rfl, goal_none fun r hr e => ?_]
      · rfl
      · have := h1 r.1 (List.mem_map_of_mem hr)
        rw [e] at this
        exact this.asymm this
    · have hne : q.1 ≠ p.1 := fun e => by
        have := h1 p.1 (List.mem_map_of_mem hp)
        rw [e] at this
        exact this.asymm this
      rw [if_neg hne, goal_one h2 hp]
      rfl
theorem countNs (c : List Nat) : ∀ L : List (List Nat), (L.map nsD).countP (fun z => PyData.eqv z (nsD c)) = L.countP fun d => decide (d = c)
  | [] => rfl
  | d :: L => by
    rw [List.map_cons, List.countP_cons, List.countP_cons, countNs c L, eqvNs]
theorem count_all {α : Type} {f : α → Bool} {L : List α} : (L.countP f = L.length) ↔ ∀ x, x ∈ L → f x = true := List.countP_eq_length
/-- where all goals are the first one's, the step stands with all -/
theorem goals_std {M : List Rm} {L0 : List Stp} {N : List (List Stp)} {p : Stp} (hM : MOk M) (eN : endsL M = L0 :: N) (hp : p ∈ L0) :
    decide (((endsL M).map fun L => goalL L p.1).countP (fun d => decide (d = goalL L0 p.1)) = ((endsL M).map fun L => goalL L p.1).length) = stdB M p := by
  have inc : ∀ L, L ∈ endsL M → Inc L := fun L hL => by
    obtain ⟨r, hr, _, e⟩ := endsL_mem hL
    rw [← e]
    exact hM.inc r hr
  have h0 := goal_one (inc L0 (by rw [eN]; simp)) hp
  rw [Bool.eq_iff_iff, decide_eq_true_eq, count_all, h0]
  unfold stdB
  rw [List.all_eq_true]
  constructor
  · intro h L hL
    have := of_decide_eq_true (h _ (List.mem_map_of_mem hL))
    exact decide_eq_true (goal_mem (L := L) (x := p.1) (n := p.2) (by rw [this]; simp))
  · intro h d hd
    obtain ⟨L, hL, rfl⟩ := List.mem_map.mp hd
    exact decide_eq_true (goal_one (inc L hL) (of_decide_eq_true (h L hL)))
end Sw
set_option Elab.async false
set_option maxRecDepth 100000
set_option maxHeartbeats 4000000
namespace Sw
open PySem L2 PySem.Spec PyProof.Rows
/-! ### numbering by first occurrence -/
section
variable {α : Type} [DecidableEq α]
def addNew (O : List α) (k : α) : List α := if k ∈ O then O else O ++ [k]
def nubL (ks : List α) : List α := ks.foldl addNew []
def ranks (ks : List α) : List Nat := ks.map fun k => (nubL ks).idxOf k
theorem nubL_snoc (ks : List α) (k : α) : nubL (ks ++ [k]) = addNew (nubL ks) k := by unfold nubL; rw [List.foldl_append]; rfl
theorem addNew_nd {O : List α} {k : α} (h : O.Nodup) : (addNew O k).Nodup := by
  unfold addNew
  by_cases e : k ∈ O
  · rw [if_pos e]; exact h
  · rw [if_neg e, (List.perm_append_singleton k O).nodup_iff, List.nodup_cons]; exact ⟨e, h⟩
theorem addNew_mem {O : List α} {k x : α} : x ∈ addNew O k ↔ x ∈ O ∨ x = k := by
  unfold addNew
  by_cases e : k ∈ O
  · rw [if_pos e]
    exact ⟨.inl, fun h => h.elim id fun q => q ▸ e⟩
  · rw [if_neg e, List.mem_append, List.mem_singleton]
theorem fold_nd : ∀ {ks O : List α}, O.Nodup → (ks.foldl addNew O).Nodup
  | [], _, h => h
  | k :: ks, _, h => by rw [List.foldl_cons]; exact fold_nd (addNew_nd h)
theorem nubL_nd (ks : List α) : (nubL ks).Nodup := fold_nd List.nodup_nil
theorem fold_mem {x : α} : ∀ {ks O : List α}, x ∈ ks.foldl addNew O ↔ x ∈ O ∨ x ∈ ks
  | [], _ => by simp
  | k :: ks, O => by
    rw [List.foldl_cons, fold_mem, addNew_mem, List.mem_cons]
    exact ⟨fun h => h.elim (fun h => h.elim .inl fun h => .inr (.inl h)) fun h => .inr (.inr h), fun h => h.elim (fun h => .inl (.inl h)) fun h => h.elim (fun h => .inl (.inr h)) .inr⟩
theorem nubL_mem {ks : List α} {x : α} : x ∈ nubL ks ↔ x ∈ ks := by unfold nubL; rw [fold_mem]; simp
theorem fold_pre : ∀ {ks O : List α}, ∃ B, ks.foldl addNew O = O ++ B
  | [], O => ⟨[], by simp⟩
  | k :: ks, O => by
    rw [List.foldl_cons]
    obtain ⟨B, hB⟩ := fold_pre (ks := ks) (O := addNew O k)
    rw [hB]
    unfold addNew
    by_cases e : k ∈ O
    · rw [if_pos e]; exact ⟨B, rfl⟩
    · rw [if_neg e]; exact ⟨k :: B, by simp⟩
theorem idx_pre {O B : List α} {x : α} (h : x ∈ O) : (O ++ B).idxOf x = O.idxOf x := by rw [List.idxOf_append, if_pos h]
theorem idx_new {O : List α} {x : α} (h : x ∉ O) : (O ++ [x]).idxOf x = O.length := by
  rw [List.idxOf_append, if_neg h]
  simp
/-- the numbers told so far, by what is known so far -/
theorem ranks_snoc (ks : List α) (k : α) : ranks (ks ++ [k]) = ranks ks ++ [if k ∈ nubL ks then (nubL ks).idxOf k else (nubL ks).length] := by
  unfold ranks
  rw [List.map_append, nubL_snoc]
  have h1 : ks.map (fun k' => (addNew (nubL ks) k).idxOf k') = ks.map fun k' => (nubL ks).idxOf k' := by
    refine List.map_congr_left fun x hx => ?_
    unfold addNew
    by_cases e : k ∈ nubL ks
    · rw [if_pos e]
    · rw [if_neg e]; exact idx_pre (nubL_mem.mpr hx)
  rw [h1]
  congr 1
  simp only [List.map_cons, List.map_nil]
  unfold addNew
  by_cases e : k ∈ nubL ks
  · rw [if_pos e, if_pos e]
  · rw [if_neg e, if_neg e, idx_new e]
theorem idx_inj {O : List α} {x y : α} (hx : x ∈ O) (hy : y ∈ O) (h : O.idxOf x = O.idxOf y) : x = y := by
  have h1 := List.getElem_idxOf (List.idxOf_lt_length_iff.mpr hx)
  have h2 := List.getElem_idxOf (List.idxOf_lt_length_iff.mpr hy)
  rw [← h1, ← h2]
  congr 1
/-- a list without doubles within another is no longer -/
theorem nd_le : ∀ {l L : List α}, l.Nodup → (∀ x, x ∈ l → x ∈ L) → l.length ≤ L.length
  | [], _, _, _ => Nat.zero_le _
  | x :: l, L, nd, h => by
    rw [List.nodup_cons] at nd
    have hx := h x List.mem_cons_self
    have := nd_le (l := l) (L := L.erase x) nd.2 fun y hy => (List.mem_erase_of_ne (fun e => nd.1 (by rw [← e]; exact hy))).mpr (h y (List.mem_cons_of_mem _ hy))
    rw [List.length_erase_of_mem hx] at this
    have := List.length_pos_of_mem hx
    rw [List.length_cons]
    omega
theorem nub_len_le (ks : List α) : (nubL ks).length ≤ ks.length := nd_le (nubL_nd ks) fun x hx => nubL_mem.mp hx
/-- what covers as many as it is long has no doubles -/
theorem cover_nd : ∀ {l L : List α}, l.Nodup → (∀ x, x ∈ l → x ∈ L) → L.length ≤ l.length → L.Nodup
  | l, [], _, _, _ => List.nodup_nil
  | l, y :: L, nd, h, hl => by
    rw [List.nodup_cons]
    by_cases hy : y ∈ L
    · exfalso
      have := nd_le (l := l) (L := L) nd fun x hx => by
        rcases List.mem_cons.mp (h x hx) with e | e
        · rw [e]; exact hy
        · exact e
      rw [List.length_cons] at hl
      omega
    · refine ⟨hy, cover_nd (l := l.erase y) (nd.sublist List.erase_sublist) (fun x hx => ?_) ?_⟩
      · have hx' := (nd.mem_erase_iff).mp hx
        rcases List.mem_cons.mp (h x hx'.2) with e | e
        · exact absurd e hx'.1
        · exact e
      · by_cases hy2 : y ∈ l
        · rw [List.length_erase_of_mem hy2]
          rw [List.length_cons] at hl
          omega
        · have := nd_le (l := l) (L := L) nd fun x hx => by
            rcases List.mem_cons.mp (h x hx) with e | e
            · exact absurd (e ▸ hx) hy2
            · exact e
          rw [List.length_cons] at hl
          rw [List.erase_of_not_mem hy2]
          omega
end
/-! ### kinds of rooms -/
def kAt (κ : List Nat) (x : Nat) : Nat := κ.getD x 0
theorem kAt_some {κ : List Nat} {x v : Nat} (h : κ[x]? = some v) : kAt κ x = v := by unfold kAt; rw [List.getD_eq_getElem?_getD, h]; rfl
def stK (M : List Rm) (κ : List Nat) (x : Nat) : List (Str × Nat) := (stepsOf M x).map fun p => (p.1, kAt κ p.2)
/-- rooms that behave alike -/
def Bis (M : List Rm) (R : Nat → Nat → Prop) : Prop := ∀ x y, R x y → x < M.length ∧ y < M.length ∧ endsOf M x = endsOf M y ∧ Paired (fun (p q : Stp) => p.1 = q.1 ∧ R p.2 q.2) (stepsOf M x) (stepsOf M y)
theorem bis_st {M : List Rm} {R : Nat → Nat → Prop} {κ : List Nat} (hk : ∀ x y, R x y → kAt κ x = kAt κ y) : ∀ {L N : List Stp}, Paired (fun (p q : Stp) => p.1 = q.1 ∧ R p.2 q.2) L N → (L.map fun p => (p.1, kAt κ p.2)) = N.map fun p => (p.1, kAt κ p.2)
  | _, _, .nil => rfl
  | _, _, .cons r t => by
    rw [List.map_cons, List.map_cons, bis_st (M := M) hk t, r.1, hk _ _ r.2]
theorem kAt_get {κ : List Nat} {x : Nat} (h : x < κ.length) : κ[x]? = some (kAt κ x) := by
  rw [List.getElem?_eq_getElem h]
  unfold kAt
  rw [List.getD_eq_getElem?_getD, List.getElem?_eq_getElem h]
  rfl
theorem nub_map {α β : Type} [DecidableEq α] [DecidableEq β] {f : α → β} : ∀ {ks : List α} {O : List α}, (∀ a b, (a ∈ O ∨ a ∈ ks) → (b ∈ O ∨ b ∈ ks) → f a = f b → a = b) → (ks.map f).foldl addNew (O.map f) = (ks.foldl addNew O).map f
  | [], _, _ => rfl
  | k :: ks, O, h => by
    have e1 : addNew (O.map f) (f k) = (addNew O k).map f := by
      unfold addNew
      by_cases e : k ∈ O
      · rw [if_pos e, if_pos (List.mem_map_of_mem e)]
      · rw [if_neg e, if_neg (fun q => by
          obtain ⟨a, ha, ea⟩ := List.mem_map.mp q
          exact e (h a k (.inl ha) (.inr List.mem_cons_self) ea ▸ ha)), List.map_append]
        rfl
    rw [List.map_cons, List.foldl_cons, List.foldl_cons, e1]
    refine nub_map fun a b ha hb => h a b ?_ ?_
    · rcases ha with ha | ha
      · rcases addNew_mem.mp ha with ha | rfl
        · exact .inl ha
        · exact .inr List.mem_cons_self
      · exact .inr (List.mem_cons_of_mem _ ha)
    · rcases hb with hb | hb
      · rcases addNew_mem.mp hb with hb | rfl
        · exact .inl hb
        · exact .inr List.mem_cons_self
      · exact .inr (List.mem_cons_of_mem _ hb)
theorem rank_cnt {α : Type} [DecidableEq α] (ks : List α) : (nubL (ranks ks)).length = (nubL ks).length := by
  have := nub_map (f := fun k => (nubL ks).idxOf k) (ks := ks) (O := []) fun a b ha hb => by
    rcases ha with ha | ha
    · cases ha
    · rcases hb with hb | hb
      · cases hb
      · exact idx_inj (nubL_mem.mpr ha) (nubL_mem.mpr hb)
  have e : nubL (ranks ks) = (nubL ks).map fun k => (nubL ks).idxOf k := this
  rw [e, List.length_map]
/-- kinds so far: m of them, none parts what behaves alike -/
structure RfOk (M : List Rm) (κ : List Nat) (m : Nat) : Prop where
  len : κ.length = M.length
  cnt : (nubL κ).length = m
  coarse : ∀ R, Bis M R → ∀ x y, R x y → kAt κ x = kAt κ y
/-- the keys of the rooms part just by kind, steps and (where e) ends -/
structure KeyOk {α : Type} (M : List Rm) (κ : List Nat) (e : Bool) (ky : Nat → α) : Prop where
  iff : ∀ x y, x < M.length → y < M.length → (ky x = ky y ↔ kAt κ x = kAt κ y ∧ stK M κ x = stK M κ y ∧ (e = true → endsOf M x = endsOf M y))
section
variable {α : Type} [DecidableEq α] {M : List Rm} {κ : List Nat} {m : Nat} {e : Bool} {ky : Nat → α}
def keysOf (M : List Rm) (ky : Nat → α) : List α := (List.range M.length).map ky
theorem keysOf_len : (keysOf M ky).length = M.length := by unfold keysOf; rw [List.length_map, List.length_range]
theorem keysOf_mem {x : Nat} (h : x < M.length) : ky x ∈ keysOf M ky := List.mem_map_of_mem (List.mem_range.mpr h)
theorem rank_at {x : Nat} (h : x < M.length) : kAt (ranks (keysOf M ky)) x = (nubL (keysOf M ky)).idxOf (ky x) := by
  refine kAt_some ?_
  unfold ranks keysOf
  rw [List.getElem?_map, List.getElem?_map, List.getElem?_range h]
  rfl
theorem rank_eq {x y : Nat} (hx : x < M.length) (hy : y < M.length) : kAt (ranks (keysOf M ky)) x = kAt (ranks (keysOf M ky)) y ↔ ky x = ky y := by
  rw [rank_at hx, rank_at hy]
  exact ⟨idx_inj (nubL_mem.mpr (keysOf_mem hx)) (nubL_mem.mpr (keysOf_mem hy)), fun h => by rw [h]⟩
theorem RfOk.step (h : RfOk M κ m) (hk : KeyOk M κ e ky) : RfOk M (ranks (keysOf M ky)) (nubL (keysOf M ky)).length := by
  refine ⟨by unfold ranks; rw [List.length_map, keysOf_len], rank_cnt _, fun R hR x y r => ?_⟩
  · obtain ⟨hx, hy, he, hp⟩ := hR x y r
    refine (rank_eq hx hy).mpr ((hk.iff x y hx hy).mpr ⟨h.coarse R hR x y r, ?_, fun _ => he⟩)
    exact bis_st (M := M) (h.coarse R hR) hp
theorem RfOk.on (h : RfOk M κ m) : ∀ v, v ∈ nubL κ → ∃ x, x < M.length ∧ kAt κ x = v := by
  intro v hv
  obtain ⟨x, hx, e⟩ := List.getElem_of_mem (nubL_mem.mp hv)
  exact ⟨x, by rw [← h.len]; exact hx, kAt_some (by rw [List.getElem?_eq_getElem hx, e])⟩
/-- no fewer kinds than before -/
theorem RfOk.grow (h : RfOk M κ m) (hk : KeyOk M κ e ky) : m ≤ (nubL (keysOf M ky)).length := by
  have hn := h.step hk
  -- each old kind has a new one of its own
  have : ∀ v, v ∈ nubL κ → v ∈ (nubL (keysOf M ky)).map fun k => kAt κ (((List.range M.length).find? fun x => decide (ky x = k)).getD 0) := by
    intro v hv
    obtain ⟨x, hx, ex⟩ := h.on v hv
    refine List.mem_map.mpr ⟨ky x, nubL_mem.mpr (keysOf_mem hx), ?_⟩
    obtain ⟨y, hy⟩ : ∃ y, (List.range M.length).find? (fun z => decide (ky z = ky x)) = some y := by
      have : ((List.range M.length).find? fun z => decide (ky z = ky x)).isSome = true := List.find?_isSome.mpr ⟨x, List.mem_range.mpr hx, decide_eq_true rfl⟩
      exact Option.isSome_iff_exists.mp this
    rw [hy]
    have hy1 : ky y = ky x := of_decide_eq_true (List.find?_some (p := fun z => decide (ky z = ky x)) hy)
    have hy2 := List.mem_range.mp (List.mem_of_find?_eq_some hy)
    show kAt κ y = v
    rw [((hk.iff y x hy2 hx).mp hy1).1, ex]
  have := nd_le (nubL_nd κ) this
  rwa [h.cnt, List.length_map] at this
/-- no more kinds than before: none was parted -/
theorem RfOk.stop (h : RfOk M κ m) (hk : KeyOk M κ e ky) (hm : (nubL (keysOf M ky)).length ≤ m) {x y : Nat} (hx : x < M.length) (hy : y < M.length) (hxy : kAt κ x = kAt κ y) : ky x = ky y := by
  let g : α → Nat := fun k => kAt κ (((List.range M.length).find? fun x => decide (ky x = k)).getD 0)
  have gk : ∀ x, x < M.length → g (ky x) = kAt κ x := by
    intro x hx
    obtain ⟨y, hy⟩ : ∃ y, (List.range M.length).find? (fun z => decide (ky z = ky x)) = some y := by
      have : ((List.range M.length).find? fun z => decide (ky z = ky x)).isSome = true := List.find?_isSome.mpr ⟨x, List.mem_range.mpr hx, decide_eq_true rfl⟩
      exact Option.isSome_iff_exists.mp this
    show kAt κ (((List.range M.length).find? fun z => decide (ky z = ky x)).getD 0) = _
    rw [hy]
    have hy1 : ky y = ky x := of_decide_eq_true (List.find?_some (p := fun z => decide (ky z = ky x)) hy)
    have hy2 := List.mem_range.mp (List.mem_of_find?_eq_some hy)
    exact ((hk.iff y x hy2 hx).mp hy1).1
  have cov : ∀ v, v ∈ nubL κ → v ∈ (nubL (keysOf M ky)).map g := by
    intro v hv
    obtain ⟨x, hx, ex⟩ := h.on v hv
    exact List.mem_map.mpr ⟨ky x, nubL_mem.mpr (keysOf_mem hx), by rw [gk x hx, ex]⟩
  have nd := cover_nd (nubL_nd κ) cov (by rw [List.length_map, h.cnt]; exact hm)
  -- g is injective on the keys
  have inj : ∀ {l : List α}, (l.map g).Nodup → ∀ a b, a ∈ l → b ∈ l → g a = g b → a = b := by
    intro l
    induction l with
    | nil => intro _ a b ha; cases ha
    | cons c l ih =>
      intro nd a b ha hb hab
      rw [List.map_cons, List.nodup_cons] at nd
      rcases List.mem_cons.mp ha with e1 | ha'
      · rcases List.mem_cons.mp hb with e2 | hb'
        · rw [e1, e2]
        · exact absurd (List.mem_map.mpr ⟨b, hb', by rw [← hab, e1]⟩) nd.1
      · rcases List.mem_cons.mp hb with e2 | hb'
        · exact absurd (List.mem_map.mpr ⟨a, ha', by rw [hab, e2]⟩) nd.1
        · exact ih nd.2 a b ha' hb' hab
  exact inj nd _ _ (nubL_mem.mpr (keysOf_mem hx)) (nubL_mem.mpr (keysOf_mem hy)) (by rw [gk x hx, gk y hy, hxy])
end
/-- kinds that part just what behaves otherwise -/
structure Kd (M : List Rm) (κ : List Nat) : Prop where
  len : κ.length = M.length
  stab : ∀ x y, x < M.length → y < M.length → kAt κ x = kAt κ y → endsOf M x = endsOf M y ∧ stK M κ x = stK M κ y
  coarse : ∀ R, Bis M R → ∀ x y, R x y → kAt κ x = kAt κ y
section
variable {α : Type} [DecidableEq α] {M : List Rm} {κ : List Nat} {m : Nat} {e : Bool} {ky : Nat → α}
theorem RfOk.done (h : RfOk M κ m) (hk : KeyOk M κ e ky) (hm : (nubL (keysOf M ky)).length ≤ m) (he : ∀ x y, x < M.length → y < M.length → ky x = ky y → endsOf M x = endsOf M y) (ht : ∀ x p, p ∈ stepsOf M x → p.2 < M.length) : Kd M (ranks (keysOf M ky)) := by
  have hs := h.step hk
  refine ⟨hs.len, fun x y hx hy hxy => ?_, hs.coarse⟩
  have hkey := (rank_eq hx hy).mp hxy
  refine ⟨he x y hx hy hkey, ?_⟩
  have h0 := ((hk.iff x y hx hy).mp hkey).2.1
  have go : ∀ {L N : List Stp}, (∀ p, p ∈ L → p.2 < M.length) → (∀ p, p ∈ N → p.2 < M.length) → (L.map fun p => (p.1, kAt κ p.2)) = (N.map fun p => (p.1, kAt κ p.2)) → (L.map fun p => (p.1, kAt (ranks (keysOf M ky)) p.2)) = N.map fun p => (p.1, kAt (ranks (keysOf M ky)) p.2) := by
    intro L
    induction L with
    | nil =>
      intro N _ _ q
      cases N with
      | nil => rfl
      | cons _ _ => cases q
    | cons p L ih =>
      intro N h1 h2 q
      cases N with
      | nil => cases q
      | cons p' N =>
        rw [List.map_cons, List.map_cons, List.cons.injEq, Prod.mk.injEq] at q
        rw [List.map_cons, List.map_cons, ih (fun z hz => h1 z (List.mem_cons_of_mem _ hz)) (fun z hz => h2 z (List.mem_cons_of_mem _ hz)) q.2, q.1.1,
          (rank_eq (h1 p List.mem_cons_self) (h2 p' List.mem_cons_self)).mpr (h.stop hk hm (h1 p List.mem_cons_self) (h2 p' List.mem_cons_self) q.1.2)]
  exact go (fun p hp => ht x p hp) (fun p hp => ht y p hp) h0
end
theorem steps_tgt {M : List Rm} (hM : MOk M) : ∀ x p, p ∈ stepsOf M x → p.2 < M.length := by
  intro x p hp
  by_cases hx : x < M.length
  · rw [stepsOf_at (List.getElem?_eq_getElem hx)] at hp
    exact hM.tgt _ (List.getElem_mem hx) p hp
  · unfold stepsOf at hp
    rw [List.getD_eq_getElem?_getD, List.getElem?_eq_none (by omega)] at hp
    cases hp
/-! ### the program's keys -/
def skN (L : List (Str × Nat)) : List NestedKey := L.map fun q => .tup [.text q.1, .num (q.2 : Int)]
theorem skN_inj : ∀ {L N : List (Str × Nat)}, skN L = skN N → L = N
  | [], [], _ => rfl
  | [], _ :: _, h => by cases h
  | _ :: _, [], h => by cases h
  | p :: L, q :: N, h => by
    have h' : NestedKey.tup [.text p.1, .num (p.2 : Int)] :: skN L = NestedKey.tup [.text q.1, .num (q.2 : Int)] :: skN N := h
    rw [List.cons.injEq] at h'
    have e1 : p = q := by
      have := h'.1
      simp only [NestedKey.tup.injEq, List.cons.injEq, NestedKey.text.injEq, NestedKey.num.injEq, and_true] at this
      obtain ⟨a, b⟩ := p
      obtain ⟨c, d⟩ := q
      simp only at this
      rw [this.1, show b = d by omega]
    rw [e1, skN_inj h'.2]
def b2i (b : Bool) : Int := if b = true then 1 else 0
theorem b2i_inj {a b : Bool} (h : b2i a = b2i b) : a = b := by cases a <;> cases b <;> simp [b2i] at h ⊢
def pk (M : List Rm) (κ : List Nat) (x : Nat) : NestedKey := .tup [.num (kAt κ x : Int), .num (b2i (endsOf M x)), .tup (skN (stK M κ x))]
theorem pk_ok (M : List Rm) (κ : List Nat) : KeyOk M κ true (pk M κ) := by
  refine ⟨fun x y _ _ => ⟨fun h => ?_, fun ⟨h1, h2, h3⟩ => ?_⟩⟩
  · unfold pk at h
    simp only [NestedKey.tup.injEq, List.cons.injEq, NestedKey.num.injEq, and_true] at h
    exact ⟨by omega, skN_inj h.2.2, fun _ => b2i_inj h.2.1⟩
  · unfold pk
    rw [h1, h2, h3 rfl]
def lookD (k : Nat) (b : Bool) (L : List (Str × Nat)) : PyData := .tuple [.int (k : Int), .bool b, .tuple (L.map stD)]
theorem keyDs_st : ∀ L : List (Str × Nat), nkDs (L.map stD) = some (skN L)
  | [] => by simp [nkDs, skN]
  | p :: L => by
    rw [List.map_cons, nkDs, keyDs_st L]
    simp [stD, nkD, nkDs, skN]
theorem keyD_look (k : Nat) (b : Bool) (L : List (Str × Nat)) : nkD (lookD k b L) = some (.tup [.num (k : Int), .num (b2i b), .tup (skN L)]) := by
  simp [lookD, nkD, nkDs, keyDs_st, b2i]
theorem skN_depth : ∀ L : List (Str × Nat), NestedKey.depthAll (skN L) ≤ 1
  | [] => by simp [skN, NestedKey.depthAll]
  | p :: L => by
    have ih := skN_depth L
    show max (NestedKey.depth (.tup [.text p.1, .num (p.2 : Int)])) (NestedKey.depthAll (skN L)) ≤ 1
    have : NestedKey.depth (.tup [.text p.1, .num (p.2 : Int)]) = 1 := by simp [NestedKey.depth, NestedKey.depthAll]
    omega
theorem pk_depth (M : List Rm) (κ : List Nat) (x : Nat) : (pk M κ x).depth ≤ 8 := by
  have := skN_depth (stK M κ x)
  unfold pk
  simp only [NestedKey.depth, NestedKey.depthAll]
  omega
/-- a dict of the keys told so far, each with its number -/
def nk (O : List NestedKey) : List (NestedKey × V) := O.mapIdx fun j k => (k, V.int (j : Int))
theorem nk_len (O : List NestedKey) : (nk O).length = O.length := List.length_mapIdx ..
theorem nk_snoc (O : List NestedKey) (k : NestedKey) : nk (O ++ [k]) = nk O ++ [(k, V.int (O.length : Int))] := by unfold nk; rw [List.mapIdx_concat]
theorem nk_get (k : NestedKey) (O : List NestedKey) : ndGet (nk O) k = if k ∈ O then some (V.int (O.idxOf k : Int)) else none := by
  have go : ∀ (O : List NestedKey) (n : Nat), ((O.mapIdx fun j k => (k, V.int ((n + j : Nat) : Int))).find? fun p => decide (p.1 = k)).map (·.2) = if k ∈ O then some (V.int ((n + O.idxOf k : Nat) : Int)) else none := by
    intro O
    induction O with
    | nil => intro n; simp
    | cons y O ih =>
      intro n
      rw [List.mapIdx_cons, List.find?_cons]
      by_cases e : y = k
      · subst e
        simp
      · have e' : ¬ k = y := fun q => e q.symm
        have := ih (n + 1)
        simp only [decide_eq_false e]
        rw [show (fun (j : Nat) (k : NestedKey) => (k, V.int ((n + (j + 1) : Nat) : Int))) = fun j k => (k, V.int ((n + 1 + j : Nat) : Int)) by funext j k; rw [show n + (j + 1) = n + 1 + j by omega], this]
        have hm : (k ∈ y :: O) ↔ k ∈ O := by rw [List.mem_cons]; exact ⟨fun h => h.elim (fun q => absurd q e') id, .inr⟩
        by_cases hk : k ∈ O
        · rw [if_pos hk, if_pos (hm.mpr hk), List.idxOf_cons]
          have hb : (y == k) = false := beq_eq_false_iff_ne.mpr e
          rw [hb]
          show some (V.int ((n + 1 + O.idxOf k : Nat) : Int)) = some (V.int ((n + (O.idxOf k + 1) : Nat) : Int))
          rw [show n + 1 + O.idxOf k = n + (O.idxOf k + 1) by omega]
        · rw [if_neg hk, if_neg (fun h => hk (hm.mp h))]
  have := go O 0
  simpa [ndGet, nk] using this
end Sw
set_option Elab.async false
set_option maxRecDepth 100000
set_option maxHeartbeats 8000000
namespace Sw
open PySem L2 PySem.Spec PyProof.Rows
/-- a dict of that many -/
def LenAt (P : Program) (w : World) (K : PySem.W.Frag) (H : Hp) (d : Addr) (c : Nat) : Prop := (∃ kvs, H d = some (.dK kvs) ∧ kvs.length = c) ∨ ∃ kvs, NdAt P w K H d kvs ∧ kvs.length = c
theorem LenAt.same {P : Program} {w : World} {K : PySem.W.Frag} {H H' : Hp} {d : Addr} {c : Nat} (h : LenAt P w K H d c) (s : Same H H') : LenAt P w K H' d c := by
  rcases h with ⟨kvs, h, e⟩ | ⟨kvs, h, e⟩
  · exact .inl ⟨kvs, s _ _ h, e⟩
  · exact .inr ⟨kvs, h.same s, e⟩
def rLenD (P : Program) (w : World) (K : PySem.W.Frag) : List V → Hp → VK → Prop := fun xs H Q => ∃ (d : Addr) (c : Nat), xs = [V.ref d] ∧ LenAt P w K H d c ∧ Q (.int (c : Int)) H
theorem call_len_dd {X : Cx} : CallR X (.builtin "len") (rLenD X.prog X.w X.K) := by
  intro pins s σ H xs us Q I r h
  obtain ⟨d, c, rfl, hd, q⟩ := h
  rcases hd with ⟨kvs, hk, rfl⟩ | ⟨kvs, hk, rfl⟩
  · exact call_lenD pins s σ H _ us Q I r ⟨d, kvs, rfl, hk, q⟩
  · exact call_len_nd pins s σ H _ us Q I r ⟨d, kvs, rfl, hk, q⟩
theorem kinds0 {M : List Rm} (hM : 0 < M.length) : RfOk M (List.replicate M.length 0) 1 := by
  have z : ∀ x, x < M.length → kAt (List.replicate M.length 0) x = 0 := fun x hx => kAt_some (by rw [List.getElem?_replicate, if_pos hx])
  have hc : (nubL (List.replicate M.length 0)).length = 1 := by
    have h1 : (nubL (List.replicate M.length 0)).length ≤ [0].length := nd_le (nubL_nd _) fun x hx => by
      rw [(List.mem_replicate.mp (nubL_mem.mp hx)).2]; simp
    have h2 : 0 < (nubL (List.replicate M.length 0)).length := List.length_pos_of_mem (a := 0) (nubL_mem.mpr (List.mem_replicate.mpr ⟨by omega, rfl⟩))
    simp at h1
    omega
  refine ⟨List.length_replicate .., hc, fun R hR x y r => ?_⟩
  obtain ⟨hx, hy, _⟩ := hR x y r
  rw [z x hx, z y hy]
theorem keysOf_at {α : Type} {M : List Rm} {ky : Nat → α} {i : Nat} (h : i < M.length) : (keysOf M ky)[i]? = some (ky i) := by
  unfold keysOf
  rw [List.getElem?_map, List.getElem?_range h]
  rfl
section
variable {P : Program} {w : World} {K : PySem.W.Frag} {mg : Str → Option Value} {base : Heap}
abbrev n_kinds : List Str := ["machine", "kinds", "_", "many", "looks", "told", "number", "ends", "steps", "look", "sign", "behind"]
theorem sc_kinds : FnScope n_kinds ["machine"] (defScope s_kinds) := ⟨rfl, rfl, rfl, by decide +kernel, rfl, by decide +kernel, by decide +kernel⟩
def spKinds (K : PySem.W.Frag) : Sp := fun vs H Q _ => ∃ (v : V) (M : List Rm), vs = [v] ∧ Dp K H v (maD M) ∧ MOk M ∧ ∀ H' p κ, Same H H' → H' p = some (.lst (natV κ)) → H p = none → Kd M κ → Q (.ref p) H'
theorem ok_kinds (F : DefAt K mg "_kinds" s_kinds ["machine"]) (b_enumerate : mg "enumerate" = none) (b_len : mg "len" = none) (b_tuple : mg "tuple" = none) : DefOk P w K mg base "_kinds" 1 ["machine"] (spKinds K) := by
  refine F.ok sc_kinds (fun vs H Q E h => ?_) (fun f cdv A outer s H vs Q E hr h => ?_)
  · obtain ⟨_, _, rfl, _⟩ := h
    rfl
  obtain ⟨v, M, rfl, hv, hM, k⟩ := h
  obtain ⟨ma, rs, rfl, hma, hrs⟩ := dpTup hv
  have hlen := dpsLen hrs
  rw [List.length_map] at hlen
  have hMl := hM.le
  have hu65 := units65 hr
  have hu9 := Nat.lt_of_le_of_lt (Nat.add_le_add_left (show 9 ≤ 65 by decide) _) hu65
  refine ⟨_, (pss_cons (ps_set (i := 1) sc_kinds.nd rfl (Or.inr rfl) (pe_lc (own := [("_", 2)]) (g := gName 2) rfl sc_kinds.nd (pi_tup (pv 0)) (blkOk_by (own := [("_", 2)]) (N := n_kinds) (sc := defScope s_kinds) (by decide +kernel)) (fun _ _ _ _ _ => (pg_name (i := 2) sc_kinds.nd rfl (Or.inl rfl))) (fun _ _ _ _ _ => pts_nil) (fun _ _ _ _ _ => pe_int)))
    (pss_cons (ps_set (i := 3) sc_kinds.nd rfl (Or.inl rfl) pe_int)
    (pss_cons (ps_set (i := 4) sc_kinds.nd rfl (Or.inl rfl) (pe_disp (pps_cons pe_int pe_int pps_nil) (by rfl) (by rfl) (fun z => by cases z) (by decide)))
    (pss_cons (ps_while PassesOwn.never (pt_cmpR op_gt (pe_callB call_len_dd (by rfl) b_len PySem.boot_len (pa_cons (pv 4) pa_nil)) (pv 3) (nomark _)) (pss_cons (ps_set (i := 3) sc_kinds.nd rfl (Or.inl rfl) (pe_callB call_len_dd (by rfl) b_len PySem.boot_len (pa_cons (pv 4) pa_nil)))
    (pss_cons (ps_set (i := 4) sc_kinds.nd rfl (Or.inl rfl) pe_dnewN)
    (pss_cons (ps_set (i := 5) sc_kinds.nd rfl (Or.inl rfl) (pe_lst pa_nil))
    (pss_cons (ps_for PassesOwn.never rfl (pi_enumT (by rfl) b_enumerate (pa_cons (pv 0) pa_nil)) (pg_tup rfl (pgs_cons (pg_name (i := 6) sc_kinds.nd rfl (Or.inl rfl)) (pgs_cons (pg_tup rfl (pgs_cons (pg_name (i := 7) sc_kinds.nd rfl (Or.inl rfl)) (pgs_cons (pg_name (i := 8) sc_kinds.nd rfl (Or.inl rfl)) pgs_nil))) pgs_nil)))
      (pss_cons (ps_set (i := 9) sc_kinds.nd rfl (Or.inl rfl) (pe_tup (pa_cons (pe_ix ix_list (pv 1) (pv 6) (fun _ _ => rfl)) (pa_cons (pv 7) (pa_cons (pe_callTy call_tuple_of (by rfl) b_tuple (by decide +kernel) (pa_cons (pe_lc (own := [("sign", 10), ("behind", 11)]) (g := gTup K 2 (gCons (gName 10) (gCons (gName 11) gNil))) rfl sc_kinds.nd (pi_tup (pv 8)) (blkOk_by (own := [("sign", 10), ("behind", 11)]) (N := n_kinds) (sc := defScope s_kinds) (by decide +kernel)) (fun _ _ _ _ _ => (pg_tup rfl (pgs_cons (pg_name (i := 10) sc_kinds.nd rfl (Or.inl rfl)) (pgs_cons (pg_name (i := 11) sc_kinds.nd rfl (Or.inl rfl)) pgs_nil)))) (fun _ _ _ _ _ => pts_nil) (fun _ _ _ _ _ => (pe_tup (pa_cons (pv 10) (pa_cons (pe_ix (r := rIxL K) ix_list (pv 1) (pv 11) (fun _ _ => rfl)) pa_nil))))) pa_nil)) pa_nil)))))
    (pss_one (ps_expr (pe_bm PySem.F.plainAttrs_list PySem.F.slot_list_append PySem.F.type_list_append mt_append (pv 5) (pa_cons (pe_dsetN hu9 (pv 4) (pv 9) (pe_callB call_len_dd (by rfl) b_len PySem.boot_len (pa_cons (pv 4) pa_nil)) ⟨rfl, rfl, rfl, rfl⟩) pa_nil))))))
    (pss_one (ps_set (i := 1) sc_kinds.nd rfl (Or.inr rfl) (pv 5))))))))
    (pss_one (ps_ret (pv 1))))))), ?_⟩
  refine ⟨_, rfl, ma, rfl, ⟨_, hma⟩, fun kl nkl => ?_⟩
  refine lc_tup (K := K) (a := ma) (xs := rs) (fun i H' => Same H H' ∧ H' kl = some (.lst (natV (List.replicate i 0)))) ⟨.new nkl, upd_same⟩ (fun i H' _ ⟨g, _⟩ => g.sqT hma) ?_ ?_
  · rintro i u H1 hu1 ⟨s1, hkl⟩
    have hi := (List.getElem?_eq_some_iff.mp hu1).1
    refine ⟨rfl, ?_⟩
    refine ⟨_, hkl, szb (by rw [ints_len, List.length_replicate]; omega), s1.mut nkl, ?_⟩
    rw [upd_same, List.replicate_succ', natV_snoc]
    rfl
  rintro H1 ⟨s1, hkl⟩
  rw [hlen] at hkl
  refine fun ld nld => ⟨upd_same, [(.inl 0, .int 0)], rfl, by decide, ?_⟩
  have sld : Same H1 (upd (upd H1 ld (.dK [])) ld (.dK (mergeK [] [(.inl 0, .int 0)]))) := fun b o e => by rw [upd_ne (ne_of_none e nld), upd_ne (ne_of_none e nld)]; exact e
  have hld : LenAt P w K (upd (upd H1 ld (.dK [])) ld (.dK (mergeK [] [(.inl 0, .int 0)]))) ld 1 := .inl ⟨_, upd_same, rfl⟩
  generalize upd (upd H1 ld (.dK [])) ld (.dK (mergeK [] [(.inl 0, .int 0)])) = H2 at sld hld ⊢
  refine ⟨fun m σ H' => ∃ (kl ld : Addr) (κ : List Nat) (c mny : Nat) (o5 o6 o7 o8 o9 : Option V), σ = [some (.ref ma), some (.ref kl), none, some (.int (mny : Int)), some (.ref ld), o5, o6, o7, o8, o9, none, none] ∧ m = M.length + 1 - mny ∧ Same H H' ∧ H' kl = some (.lst (natV κ)) ∧ H kl = none ∧ LenAt P w K H' ld c ∧ RfOk M κ c ∧ c ≤ M.length ∧ (mny < c ∨ Kd M κ),
    ⟨_, kl, ld, List.replicate M.length 0, 1, 0, none, none, none, none, none, rfl, rfl, s1.trans sld, sld _ _ hkl, nkl, hld, kinds0 hM.pos, hM.pos, .inl (by decide)⟩, ?_⟩
  rintro m σ H3 ⟨kl, ld, κ, c, mny, o5, o6, o7, o8, o9, rfl, rfl, s3, hkl, nkl, hld, hR, hc, hor⟩
  refine ⟨_, rfl, ld, c, rfl, hld, _, rfl, _, _, rfl, rfl, _, rfl, ite2 (fun hgt => ?_) (fun hle => ?_)⟩
  · have hmc : mny < c := by have := of_decide_eq_true hgt; omega
    have hkeys : KeyOk M κ true (pk M κ) := pk_ok M κ
    have hκl := hR.len
    refine ⟨fun σ' H' => ∃ (kl ld : Addr) (κ' : List Nat) (c' : Nat) (o5 o6 o7 o8 o9 : Option V), σ' = [some (.ref ma), some (.ref kl), none, some (.int (c : Int)), some (.ref ld), o5, o6, o7, o8, o9, none, none] ∧ Same H H' ∧ H' kl = some (.lst (natV κ')) ∧ H kl = none ∧ LenAt P w K H' ld c' ∧ RfOk M κ' c' ∧ c' ≤ M.length ∧ (c < c' ∨ Kd M κ'),
      fun σ' H' ⟨kl, ld, κ', c', o5, o6, o7, o8, o9, e, g1, g2, g3, g4, g5, g6, g7⟩ => ⟨_, by omega, kl, ld, κ', c', c, o5, o6, o7, o8, o9, e, rfl, g1, g2, g3, g4, g5, g6, g7⟩, ?_⟩
    refine ⟨_, rfl, ld, c, rfl, hld, ?_⟩
    refine fun l2 o2 nl2 hN2 => ⟨(by show 0 ≤ sizeLine; decide), fun tl ntl => ?_⟩
    have s4 : Same H3 (upd H3 l2 o2) := .new nl2
    generalize upd H3 l2 o2 = H4 at s4 hN2 ntl ⊢
    have s5 : Same H4 (upd H4 tl (.lst [])) := .new ntl
    have hN5 := hN2.same s5
    have htl5 : (upd H4 tl (.lst [])) tl = some (.lst (natV (ranks ((keysOf M (pk M κ)).take 0)))) := upd_same
    generalize upd H4 tl (.lst []) = H5 at s5 hN5 htl5 ⊢
    have s35 := s4.trans s5
    have ntl3 : H3 tl = none := by
      cases e : H3 tl with
      | none => rfl
      | some o => rw [s4 _ _ e] at ntl; cases ntl
    have ntH : H tl = none := by
      cases e : H tl with
      | none => rfl
      | some o => rw [s3 _ _ e] at ntl3; cases ntl3
    have hkn := keysOf_len (M := M) (ky := pk M κ)
    refine ⟨_, rfl, ma, _, rfl, (s3.trans s35).sqT hma, ?_⟩
    refine for_enumT (K := K) (a := ma) (xs := rs) (fun i σ H' => ∃ (o6 o7 o8 o9 : Option V), σ = [some (.ref ma), some (.ref kl), none, some (.int (c : Int)), some (.ref l2), some (.ref tl), o6, o7, o8, o9, none, none] ∧ Same H3 H' ∧ H' tl = some (.lst (natV (ranks ((keysOf M (pk M κ)).take i)))) ∧ NdAt P w K H' l2 (nk (nubL ((keysOf M (pk M κ)).take i))))
      ⟨o6, o7, o8, o9, rfl, s35, htl5, hN5⟩ (fun i σ H' _ ⟨_, _, _, _, _, g, _⟩ => (s3.trans g).sqT hma) ?_ ?_
    · rintro i u T σ H6 hu1 ⟨o6, o7, o8, o9, rfl, s6, htl, hN⟩ nT
      have hi : i < rs.length := (List.getElem?_eq_some_iff.mp hu1).1
      obtain ⟨r, hr'⟩ : ∃ r, M[i]? = some r := ⟨_, List.getElem?_eq_getElem (by omega)⟩
      have hrM := List.mem_of_getElem? hr'
      have hdeg := hM.deg r hrM
      obtain ⟨ra, b, ls, e1, e2, e3, e4⟩ := rmsAt (dpsS (s3.trans s6) hrs) hr'
      have eu : u = .ref ra := by rw [hu1] at e1; exact Option.some.inj e1
      subst eu
      have hls := dpsLen e4
      rw [List.length_map] at hls
      have sT' : Same H6 (upd H6 T (.tup [.int (i : Nat), .ref ra])) := .new nT
      have hT : SqT K (upd H6 T (.tup [.int (i : Nat), .ref ra])) T [.int (i : Nat), .ref ra] := sT upd_same
      generalize upd H6 T (.tup [.int (i : Nat), .ref ra]) = H7 at sT' hT ⊢
      have s37 := s6.trans sT'
      have hkl7 := s37 _ _ hkl
      refine ⟨T, _, rfl, hT, rfl, _, _, rfl, _, _, rfl, ra, _, rfl, sT'.sqT e2, rfl, _, _, rfl, _, _, rfl, rfl, rfl, ?_⟩
      refine ⟨_, rfl, _, rfl, kl, _, _, V.int (kAt κ i : Int), rfl, rfl, sL hkl7, atI_nat (ints_at (kAt_get (by omega))), _, rfl, _, rfl, b, rfl, ⟨_, sT'.sqT e3⟩, fun D nD => ?_⟩
      refine lc_tup (K := K) (a := b) (xs := ls) (fun j H' => ∃ as : List V, Same H7 H' ∧ H' D = some (.lst as) ∧ DpAll K H' as (((r.2.take j).map fun p => (p.1, kAt κ p.2)).map stD)) ⟨[], .new nD, upd_same, .nil⟩ (fun j H' _ ⟨_, g, _⟩ => (sT'.trans g).sqT e3) ?_ ?_
      · rintro j v H8 hv8 ⟨as, s8, hD, has⟩
        obtain ⟨p, pa, hp, rfl, hpa⟩ := stsAt e4 hv8
        have hj := (List.getElem?_eq_some_iff.mp hp).1
        have hpn := hM.tgt r hrM p (List.mem_of_getElem? hp)
        have hal := dpsLen has
        rw [List.length_map, List.length_map, List.length_take] at hal
        refine ⟨pa, _, rfl, (sT'.trans s8).sqT hpa, rfl, _, _, rfl, _, _, rfl, rfl, rfl, ?_⟩
        refine ⟨_, rfl, _, rfl, _, rfl, kl, _, _, V.int (kAt κ p.2 : Int), rfl, rfl, sL (s8 _ _ hkl7), atI_nat (ints_at (kAt_get (by omega))), (by show 2 ≤ sizeLine; decide), fun t nt => ?_⟩
        refine ⟨as, Same.new nt _ _ hD, szb (by omega), as ++ [.ref t], (s8.trans (.new nt)).mut nD, upd_same, ?_⟩
        rw [take_snoc hp, List.map_append]
        exact stepAdd (L := (r.2.take j).map fun p => (p.1, kAt κ p.2)) (sg := p.1) (n := kAt κ p.2) hD has nt
      · rintro H8 ⟨as, s8, hD, has⟩
        rw [hls, List.take_length] at has
        have est : (r.2.map fun p => (p.1, kAt κ p.2)) = stK M κ i := by unfold stK; rw [stepsOf_at hr']
        rw [est] at has
        refine ⟨D, as, rfl, .inl ⟨sL hD, fun l nl => ⟨(by show 3 ≤ sizeLine; decide), fun t nt => ?_⟩⟩⟩
        have sl : Same H8 (upd H8 l (.tup as)) := .new nl
        have hl : Dp K (upd H8 l (.tup as)) (.ref l) (.tuple ((stK M κ i).map stD)) := .tup (sT upd_same) (dpsS sl has)
        generalize upd H8 l (.tup as) = H9 at sl hl nt ⊢
        have st : Same H9 (upd H9 t (.tup [.int (kAt κ i : Int), .bl r.1, .ref l])) := .new nt
        have ht : Dp K (upd H9 t (.tup [.int (kAt κ i : Int), .bl r.1, .ref l])) (.ref t) (lookD (kAt κ i) r.1 (stK M κ i)) := .tup (sT upd_same) (.cons (.int _) (.cons (.bl _) (.cons (dpS st hl) .nil)))
        generalize upd H9 t (.tup [.int (kAt κ i : Int), .bl r.1, .ref l]) = H10 at st ht ⊢
        have s610 := sT'.trans (s8.trans (sl.trans st))
        have htl10 := s610 _ _ htl
        have hN10 := hN.same s610
        have hpk : nkD (lookD (kAt κ i) r.1 (stK M κ i)) = some (pk M κ i) := by rw [keyD_look, pk, endsOf_at hr']
        have hKey : KeyAt K H10 (pk M κ i) t := ⟨_, ht, hpk, pk_depth M κ i⟩
        have hnl : (nubL ((keysOf M (pk M κ)).take i)).length ≤ i := by have := nub_len_le ((keysOf M (pk M κ)).take i); rw [List.length_take] at this; omega
        have etk : (keysOf M (pk M κ)).take (i + 1) = (keysOf M (pk M κ)).take i ++ [pk M κ i] := take_snoc (keysOf_at (by omega))
        have hrk := ranks_snoc ((keysOf M (pk M κ)).take i) (pk M κ i)
        rw [← etk] at hrk
        have hnb := nubL_snoc ((keysOf M (pk M κ)).take i) (pk M κ i)
        rw [← etk] at hnb
        have hrl : (ranks ((keysOf M (pk M κ)).take i)).length ≤ i := by unfold ranks; rw [List.length_map, List.length_take]; omega
        have s310 := s6.trans s610
        have ntl2 : tl ≠ l2 := by
          rintro rfl
          obtain ⟨_, _, xs, hx, _⟩ := hN10
          rw [htl10] at hx
          cases hx
        have nl23 : H3 l2 = none := nl2
        refine ⟨_, rfl, .inl ⟨rfl, _, .inl (.inl htl10)⟩, _, rfl, l2, _, rfl, hN10, _, rfl, _, rfl, l2, _, rfl, .inr ⟨_, hN10, rfl⟩, ?_⟩
        rw [nk_len]
        refine ⟨l2, t, pk M κ i, _, _, rfl, rfl, hN10, hKey, by rw [nk_len]; exact szb (by omega), fun v hv => ?_, fun hn o hN' => ?_⟩
        · rw [nk_get] at hv
          by_cases hin : pk M κ i ∈ nubL ((keysOf M (pk M κ)).take i)
          · rw [if_pos hin] at hv hrk
            have ev := (Option.some.inj hv).symm
            subst ev
            refine ⟨tl, _, _, rfl, rfl, htl10, szb (by rw [ints_len]; omega), ?_⟩
            refine ⟨_, _, _, _, rfl, s310.mut ntl3, by rw [upd_same, hrk, natV_snoc], ?_⟩
            rw [hnb, addNew, if_pos hin]
            exact hN10.lst htl10
          · rw [if_neg hin] at hv; cases hv
        · rw [nk_get] at hn
          by_cases hin : pk M κ i ∈ nubL ((keysOf M (pk M κ)).take i)
          · rw [if_pos hin] at hn; cases hn
          · rw [if_neg hin] at hrk
            have htl11 : (upd H10 l2 o) tl = some (.lst (natV (ranks ((keysOf M (pk M κ)).take i)))) := by rw [upd_ne ntl2]; exact htl10
            have s311 : Same H3 (upd H10 l2 o) := s310.mut nl23
            generalize upd H10 l2 o = H11 at hN' htl11 s311 ⊢
            refine ⟨tl, _, _, rfl, rfl, htl11, szb (by rw [ints_len]; omega), ?_⟩
            refine ⟨_, _, _, _, rfl, s311.mut ntl3, by rw [upd_same, hrk, natV_snoc], ?_⟩
            rw [hnb, addNew, if_neg hin, nk_snoc]
            exact hN'.lst htl11
    · rintro σ H6 ⟨o6, o7, o8, o9, rfl, s6, htl, hN⟩
      rw [hlen, ← hkn, List.take_length] at htl hN
      have hnl : (nubL (keysOf M (pk M κ))).length ≤ M.length := by have := nub_len_le (keysOf M (pk M κ)); omega
      refine ⟨_, rfl, tl, l2, ranks (keysOf M (pk M κ)), (nubL (keysOf M (pk M κ))).length, _, _, _, _, _, rfl, s3.trans s6, htl, ntH, .inr ⟨_, hN, nk_len _⟩, hR.step hkeys, hnl, ?_⟩
      by_cases q : c < (nubL (keysOf M (pk M κ))).length
      · exact .inl q
      · exact .inr (hR.done hkeys (by omega) (fun x y hx hy e => ((hkeys.iff x y hx hy).mp e).2.2 rfl) (steps_tgt hM))
  · have hle' : ¬ mny < c := fun q => hle (decide_eq_true (by omega))
    rcases hor with q | q
    · exact absurd q hle'
    · exact ⟨_, rfl, k H3 kl κ s3 hkl nkl q⟩
end
end Sw
set_option Elab.async false
set_option maxRecDepth 100000
set_option maxHeartbeats 4000000
namespace Sw
open PySem L2 PySem.Spec PyProof.Rows
/-! ### the least machine, kind by kind, numbered as they are come to -/
/-- the kinds that a kind's rooms lead to -/
def succC (M : List Rm) (κ : List Nat) (c : Nat) : List Nat := (stK M κ (κ.idxOf c)).map (·.2)
def bfsC (sc : Nat → List Nat) : Nat → Nat → List Nat → List Nat
  | 0, _, O => O
  | n + 1, a, O => match O[a]? with
    | none => O
    | some c => bfsC sc n (a + 1) ((sc c).foldl addNew O)
theorem bfsC_end {sc : Nat → List Nat} {O : List Nat} : ∀ {n : Nat}, bfsC sc n O.length O = O
  | 0 => rfl
  | n + 1 => by unfold bfsC; rw [List.getElem?_eq_none (Nat.le_refl _)]
theorem bfsC_turn {sc : Nat → List Nat} {O : List Nat} {n a c : Nat} (h : O[a]? = some c) : bfsC sc (n + 1) a O = bfsC sc n (a + 1) ((sc c).foldl addNew O) := by
  rw [bfsC, h]
def classOut (M : List Rm) (κ O : List Nat) (c : Nat) : Rm := (endsOf M (κ.idxOf c), (stK M κ (κ.idxOf c)).map fun q => (q.1, O.idxOf q.2))
def orderC (M : List Rm) (κ : List Nat) (c : Nat) : List Nat := bfsC (succC M κ) 1000 0 [c]
def leastC (M : List Rm) (κ : List Nat) (c : Nat) : List Rm := (orderC M κ c).map (classOut M κ (orderC M κ c))
section
variable {M : List Rm} {κ : List Nat}
theorem kAt_mem {x : Nat} (h : x < κ.length) : kAt κ x ∈ κ := List.mem_of_getElem? (kAt_get h)
theorem rep_lt (hk : Kd M κ) {x : Nat} (h : x < M.length) : κ.idxOf (kAt κ x) < M.length := by
  rw [← hk.len]
  exact List.idxOf_lt_length_iff.mpr (kAt_mem (by rw [hk.len]; exact h))
theorem rep_at (hk : Kd M κ) {x : Nat} (h : x < M.length) : kAt κ (κ.idxOf (kAt κ x)) = kAt κ x := by
  have hm : kAt κ x ∈ κ := kAt_mem (by rw [hk.len]; exact h)
  refine kAt_some ?_
  have := List.idxOf_lt_length_iff.mpr hm
  rw [List.getElem?_eq_getElem this, List.getElem_idxOf]
theorem rep_st (hk : Kd M κ) {x : Nat} (h : x < M.length) : stK M κ (κ.idxOf (kAt κ x)) = stK M κ x := (hk.stab _ _ (rep_lt hk h) h (rep_at hk h)).2
theorem rep_end (hk : Kd M κ) {x : Nat} (h : x < M.length) : endsOf M (κ.idxOf (kAt κ x)) = endsOf M x := (hk.stab _ _ (rep_lt hk h) h (rep_at hk h)).1
theorem succ_of (hk : Kd M κ) {x : Nat} (h : x < M.length) : succC M κ (kAt κ x) = (stepsOf M x).map fun p => kAt κ p.2 := by
  unfold succC
  rw [rep_st hk h, stK, List.map_map]
  rfl
theorem out_of (hk : Kd M κ) {O : List Nat} {x : Nat} (h : x < M.length) : classOut M κ O (kAt κ x) = (endsOf M x, (stepsOf M x).map fun p => (p.1, O.idxOf (kAt κ p.2))) := by
  unfold classOut
  rw [rep_st hk h, rep_end hk h, stK, List.map_map]
  rfl
end
/-! ### the same for a machine within another -/
/-- N's rooms are some of M's, f tells which -/
structure Emb (N M : List Rm) (f : Nat → Nat) : Prop where
  lt : ∀ i, i < N.length → f i < M.length
  tgt : ∀ i p, p ∈ stepsOf N i → p.2 < N.length
  e : ∀ i, i < N.length → endsOf N i = endsOf M (f i)
  s : ∀ i, i < N.length → stepsOf M (f i) = (stepsOf N i).map fun p => (p.1, f p.2)
section
variable {M N : List Rm} {κ κ' : List Nat} {f : Nat → Nat}
theorem pairedOfMap {α β γ : Type} {g : α → γ} {h : β → γ} {R : α → β → Prop} (hr : ∀ a b, g a = h b → R a b) : ∀ {L : List α} {L' : List β}, L.map g = L'.map h → Paired R L L'
  | [], [], _ => .nil
  | [], _ :: _, q => by cases q
  | _ :: _, [], q => by cases q
  | a :: L, b :: L', q => by
    rw [List.map_cons, List.map_cons, List.cons.injEq] at q
    exact .cons (hr a b q.1) (pairedOfMap hr q.2)
theorem pairedIn {α β : Type} {R : α → β → Prop} {p : α → Prop} {q : β → Prop} : ∀ {L : List α} {L' : List β}, Paired R L L' → (∀ a, a ∈ L → p a) → (∀ b, b ∈ L' → q b) → Paired (fun a b => R a b ∧ p a ∧ q b) L L'
  | _, _, .nil, _, _ => .nil
  | _, _, .cons r t, h1, h2 => .cons ⟨r, h1 _ List.mem_cons_self, h2 _ List.mem_cons_self⟩ (pairedIn t (fun a h => h1 a (List.mem_cons_of_mem _ h)) fun b h => h2 b (List.mem_cons_of_mem _ h))
theorem emb_kinds (he : Emb N M f) (hM : Kd M κ) (hN : Kd N κ') {i j : Nat} (hi : i < N.length) (hj : j < N.length) : kAt κ (f i) = kAt κ (f j) ↔ kAt κ' i = kAt κ' j := by
  constructor
  · intro h
    refine hN.coarse (fun i j => i < N.length ∧ j < N.length ∧ kAt κ (f i) = kAt κ (f j)) ?_ i j ⟨hi, hj, h⟩
    rintro i j ⟨hi, hj, h⟩
    obtain ⟨h1, h2⟩ := hM.stab _ _ (he.lt i hi) (he.lt j hj) h
    refine ⟨hi, hj, by rw [he.e i hi, he.e j hj, h1], ?_⟩
    unfold stK at h2
    rw [he.s i hi, he.s j hj, List.map_map, List.map_map] at h2
    have hp := pairedOfMap (R := fun p q : Stp => p.1 = q.1 ∧ kAt κ (f p.2) = kAt κ (f q.2)) (fun a b q => by
      have q' : (a.1, kAt κ (f a.2)) = (b.1, kAt κ (f b.2)) := q
      rw [Prod.mk.injEq] at q'
      exact q') h2
    exact Paired.mapP (pairedIn hp (fun p hp => he.tgt i p hp) fun p hp => he.tgt j p hp) fun p q ⟨⟨g1, g2⟩, g3, g4⟩ => ⟨g1, g3, g4, g2⟩
  · intro h
    refine hM.coarse (fun x y => ∃ i j, i < N.length ∧ j < N.length ∧ x = f i ∧ y = f j ∧ kAt κ' i = kAt κ' j) ?_ (f i) (f j) ⟨i, j, hi, hj, rfl, rfl, h⟩
    rintro x y ⟨i, j, hi, hj, rfl, rfl, h⟩
    obtain ⟨h1, h2⟩ := hN.stab _ _ hi hj h
    refine ⟨he.lt i hi, he.lt j hj, by rw [← he.e i hi, ← he.e j hj, h1], ?_⟩
    unfold stK at h2
    have hp := pairedOfMap (R := fun p q : Stp => p.1 = q.1 ∧ kAt κ' p.2 = kAt κ' q.2) (fun a b q => by
      have q' : (a.1, kAt κ' a.2) = (b.1, kAt κ' b.2) := q
      rw [Prod.mk.injEq] at q'
      exact q') h2
    have hp2 := pairedIn hp (fun p hp => he.tgt i p hp) fun p hp => he.tgt j p hp
    rw [he.s i hi, he.s j hj]
    have go : ∀ {L L' : List Stp}, Paired (fun (p q : Stp) => (p.1 = q.1 ∧ kAt κ' p.2 = kAt κ' q.2) ∧ p.2 < N.length ∧ q.2 < N.length) L L' →
        Paired (fun (p q : Stp) => p.1 = q.1 ∧ ∃ i j, i < N.length ∧ j < N.length ∧ p.2 = f i ∧ q.2 = f j ∧ kAt κ' i = kAt κ' j) (L.map fun p => (p.1, f p.2)) (L'.map fun p => (p.1, f p.2)) := by
      intro L L' z
      induction z with
      | nil => exact .nil
      | cons r _ ih => exact .cons ⟨r.1.1, _, _, r.2.1, r.2.2, rfl, rfl, r.1.2⟩ ih
    exact go hp2
/-- N's kinds in M's -/
def phi (κ κ' : List Nat) (f : Nat → Nat) (c : Nat) : Nat := kAt κ (f (κ'.idxOf c))
theorem phi_at (he : Emb N M f) (hM : Kd M κ) (hN : Kd N κ') {i : Nat} (hi : i < N.length) : phi κ κ' f (kAt κ' i) = kAt κ (f i) := by
  unfold phi
  exact (emb_kinds he hM hN (rep_lt hN hi) hi).mpr (rep_at hN hi)
theorem phi_inj (he : Emb N M f) (hM : Kd M κ) (hN : Kd N κ') {i j : Nat} (hi : i < N.length) (hj : j < N.length) (h : phi κ κ' f (kAt κ' i) = phi κ κ' f (kAt κ' j)) : kAt κ' i = kAt κ' j := by
  rw [phi_at he hM hN hi, phi_at he hM hN hj] at h
  exact (emb_kinds he hM hN hi hj).mp h
/-- a list of kinds of N's rooms -/
def KL (N : List Rm) (κ' O : List Nat) : Prop := ∀ c, c ∈ O → ∃ i, i < N.length ∧ c = kAt κ' i
theorem KL.add {O : List Nat} {c : Nat} (h : KL N κ' O) {i : Nat} (hi : i < N.length) (hc : c = kAt κ' i) : KL N κ' (addNew O c) := fun d hd => by
  rcases addNew_mem.mp hd with hd | rfl
  · exact h d hd
  · exact ⟨i, hi, hc⟩
theorem phi_mem (he : Emb N M f) (hM : Kd M κ) (hN : Kd N κ') {O : List Nat} (hO : KL N κ' O) {i : Nat} (hi : i < N.length) : phi κ κ' f (kAt κ' i) ∈ O.map (phi κ κ' f) ↔ kAt κ' i ∈ O := by
  constructor
  · intro h
    obtain ⟨c, hc, e⟩ := List.mem_map.mp h
    obtain ⟨j, hj, rfl⟩ := hO c hc
    rw [phi_inj he hM hN hi hj e.symm]
    exact hc
  · exact fun h => List.mem_map_of_mem h
theorem phi_idx (he : Emb N M f) (hM : Kd M κ) (hN : Kd N κ') {i : Nat} (hi : i < N.length) : ∀ {O : List Nat}, KL N κ' O → (O.map (phi κ κ' f)).idxOf (phi κ κ' f (kAt κ' i)) = O.idxOf (kAt κ' i)
  | [], _ => rfl
  | c :: O, hO => by
    rw [List.map_cons, List.idxOf_cons, List.idxOf_cons, phi_idx he hM hN hi fun d hd => hO d (List.mem_cons_of_mem _ hd)]
    obtain ⟨j, hj, rfl⟩ := hO c List.mem_cons_self
    by_cases e : kAt κ' j = kAt κ' i
    · rw [e]
      simp
    · have e' : ¬ phi κ κ' f (kAt κ' j) = phi κ κ' f (kAt κ' i) := fun q => e (phi_inj he hM hN hj hi q)
      rw [beq_eq_false_iff_ne.mpr e, beq_eq_false_iff_ne.mpr e']
theorem phi_add (he : Emb N M f) (hM : Kd M κ) (hN : Kd N κ') {O : List Nat} (hO : KL N κ' O) {i : Nat} (hi : i < N.length) : addNew (O.map (phi κ κ' f)) (phi κ κ' f (kAt κ' i)) = (addNew O (kAt κ' i)).map (phi κ κ' f) := by
  unfold addNew
  by_cases e : kAt κ' i ∈ O
  · rw [if_pos e, if_pos ((phi_mem he hM hN hO hi).mpr e)]
  · rw [if_neg e, if_neg fun q => e ((phi_mem he hM hN hO hi).mp q), List.map_append]; rfl
theorem phi_fold (he : Emb N M f) (hM : Kd M κ) (hN : Kd N κ') : ∀ {l : List Stp} {O : List Nat}, KL N κ' O → (∀ p, p ∈ l → p.2 < N.length) →
    (l.map fun p => kAt κ (f p.2)).foldl addNew (O.map (phi κ κ' f)) = ((l.map fun p => kAt κ' p.2).foldl addNew O).map (phi κ κ' f) ∧ KL N κ' ((l.map fun p => kAt κ' p.2).foldl addNew O)
  | [], _, hO, _ => ⟨rfl, hO⟩
  | p :: l, O, hO, hl => by
    have hp := hl p List.mem_cons_self
    rw [List.map_cons, List.map_cons, List.foldl_cons, List.foldl_cons, ← phi_at he hM hN hp, phi_add he hM hN hO hp]
    exact phi_fold he hM hN (hO.add hp rfl) fun q hq => hl q (List.mem_cons_of_mem _ hq)
theorem phi_bfs (he : Emb N M f) (hM : Kd M κ) (hN : Kd N κ') : ∀ {n a : Nat} {O : List Nat}, KL N κ' O → bfsC (succC M κ) n a (O.map (phi κ κ' f)) = (bfsC (succC N κ') n a O).map (phi κ κ' f) ∧ KL N κ' (bfsC (succC N κ') n a O)
  | 0, _, _, hO => ⟨rfl, hO⟩
  | n + 1, a, O, hO => by
    cases q : O[a]? with
    | none =>
      have q' : (O.map (phi κ κ' f))[a]? = none := by rw [List.getElem?_map, q]; rfl
      rw [bfsC, q', bfsC, q]
      exact ⟨rfl, hO⟩
    | some c =>
      obtain ⟨i, hi, rfl⟩ := hO c (List.mem_of_getElem? q)
      have q' : (O.map (phi κ κ' f))[a]? = some (phi κ κ' f (kAt κ' i)) := by rw [List.getElem?_map, q]; rfl
      rw [bfsC_turn q', bfsC_turn q, phi_at he hM hN hi, succ_of hM (he.lt i hi), succ_of hN hi, he.s i hi, List.map_map]
      have hf := phi_fold he hM hN (l := stepsOf N i) hO fun p hp => he.tgt i p hp
      have e : ((fun p : Stp => kAt κ p.2) ∘ fun p : Stp => (p.1, f p.2)) = fun p : Stp => kAt κ (f p.2) := rfl
      rw [e, hf.1]
      exact phi_bfs he hM hN hf.2
/-- the least machine from a room is the same -/
theorem emb_least (he : Emb N M f) (hM : Kd M κ) (hN : Kd N κ') {i : Nat} (hi : i < N.length) : leastC M κ (kAt κ (f i)) = leastC N κ' (kAt κ' i) := by
  have hO : KL N κ' [kAt κ' i] := fun c hc => ⟨i, hi, List.mem_singleton.mp hc⟩
  obtain ⟨h1, h2⟩ := phi_bfs he hM hN (n := 1000) (a := 0) hO
  rw [List.map_singleton, phi_at he hM hN hi] at h1
  unfold leastC orderC
  rw [h1, List.map_map]
  refine List.map_congr_left fun c hc => ?_
  obtain ⟨j, hj, rfl⟩ := h2 c hc
  show classOut M κ _ (phi κ κ' f (kAt κ' j)) = _
  rw [phi_at he hM hN hj, out_of hM (he.lt j hj), out_of hN hj, he.e j hj, he.s j hj, List.map_map]
  congr 1
  refine List.map_congr_left fun p hp => ?_
  have hp' := he.tgt j p hp
  show (p.1, List.idxOf (kAt κ (f p.2)) _) = (p.1, _)
  rw [← phi_at he hM hN hp', phi_idx he hM hN hp' h2]
end
end Sw
set_option Elab.async false
set_option maxRecDepth 100000
set_option maxHeartbeats 8000000
namespace Sw
open PySem L2 PySem.Spec PyProof.Rows
/-- a dict of numbers told so far, each with its place -/
def nkK (O : List Nat) : List (Key × V) := O.mapIdx fun (j c : Nat) => ((Sum.inl (c : Int) : Key), V.int (j : Int))
theorem nkK_len (O : List Nat) : (nkK O).length = O.length := List.length_mapIdx ..
theorem nkK_get (c : Nat) (O : List Nat) : valV (nkK O) (.inl (c : Int)) = if c ∈ O then some (V.int (O.idxOf c : Int)) else none := by
  have go : ∀ (O : List Nat) (n : Nat), valV (O.mapIdx fun (j c : Nat) => ((Sum.inl (c : Int) : Key), V.int ((n + j : Nat) : Int))) (.inl (c : Int)) = if c ∈ O then some (V.int ((n + O.idxOf c : Nat) : Int)) else none := by
    intro O
    induction O with
    | nil => intro n; simp [valV_nil]
    | cons y O ih =>
      intro n
      rw [List.mapIdx_cons]
      by_cases e : y = c
      · subst e
        rw [valV_pos rfl]
        simp
      · have e' : ¬ c = y := fun q => e q.symm
        rw [valV_neg (by intro h; have := Sum.inl.inj h; omega)]
        have := ih (n + 1)
        rw [show (fun (j : Nat) (c : Nat) => ((Sum.inl (c : Int) : Key), V.int ((n + (j + 1) : Nat) : Int))) = fun (j c : Nat) => ((Sum.inl (c : Int) : Key), V.int ((n + 1 + j : Nat) : Int)) by funext j c; rw [show n + (j + 1) = n + 1 + j by omega], this]
        have hm : (c ∈ y :: O) ↔ c ∈ O := by rw [List.mem_cons]; exact ⟨fun h => h.elim (fun q => absurd q e') id, .inr⟩
        by_cases hk : c ∈ O
        · rw [if_pos hk, if_pos (hm.mpr hk), List.idxOf_cons, beq_eq_false_iff_ne.mpr e]
          show some (V.int ((n + 1 + O.idxOf c : Nat) : Int)) = some (V.int ((n + (O.idxOf c + 1) : Nat) : Int))
          rw [show n + 1 + O.idxOf c = n + (O.idxOf c + 1) by omega]
        · rw [if_neg hk, if_neg (fun h => hk (hm.mp h))]
  have := go O 0
  simpa [nkK] using this
theorem nkK_put {O : List Nat} {c : Nat} (h : c ∉ O) : putK (nkK O) (.inl (c : Int)) (.int (O.length : Int)) = nkK (O ++ [c]) := by
  have h1 : (valV (nkK O) (.inl (c : Int))).isSome = false := by rw [nkK_get, if_neg h]; rfl
  unfold putK
  rw [valV_any, h1]
  unfold nkK
  rw [List.mapIdx_concat]
  rfl
section
variable {P : Program} {w : World} {K : PySem.W.Frag} {mg : Str → Option Value} {base : Heap}
abbrev n_renumbered : List Str := ["room", "kinds", "numbers", "ends", "steps", "sign", "behind"]
theorem sc_renumbered : FnScope n_renumbered ["room", "kinds", "numbers"] (defScope s_renumbered) := ⟨rfl, rfl, rfl, by decide +kernel, rfl, by decide +kernel, by decide +kernel⟩
def spRen (K : PySem.W.Frag) : Sp := fun vs H Q _ => ∃ (v : V) (kl nd : Addr) (r : Rm) (κ O : List Nat), vs = [v, .ref kl, .ref nd] ∧ Dp K H v (rmD r) ∧ H kl = some (.lst (natV κ)) ∧ H nd = some (.dK (nkK O)) ∧ r.2.length ≤ 6 ∧ (∀ p, p ∈ r.2 → p.2 < κ.length ∧ kAt κ p.2 ∈ O) ∧
  ∀ H' u, Same H H' → Dp K H' u (rmD (r.1, r.2.map fun p => (p.1, O.idxOf (kAt κ p.2)))) → Q u H'
theorem ok_renumbered (F : DefAt K mg "_renumbered" s_renumbered ["room", "kinds", "numbers"]) (b_tuple : mg "tuple" = none) : DefOk P w K mg base "_renumbered" 1 ["room", "kinds", "numbers"] (spRen K) := by
  refine F.ok sc_renumbered (fun vs H Q E h => ?_) (fun f cdv A outer s H vs Q E hr h => ?_)
  · obtain ⟨_, _, _, _, _, _, rfl, _⟩ := h
    rfl
  obtain ⟨v, kl, nd, r, κ, O, rfl, hv, hkl, hnd, hdeg, hin, k⟩ := h
  obtain ⟨ra, b, ls, rfl, e2, e3, e4⟩ := rmAt hv
  have hls := dpsLen e4
  rw [List.length_map] at hls
  have hu := hu_of hr
  refine ⟨_, (pss_cons (ps_asg (pv 0) (pg_tup rfl (pgs_cons (pg_name (i := 3) sc_renumbered.nd rfl (Or.inl rfl)) (pgs_cons (pg_name (i := 4) sc_renumbered.nd rfl (Or.inl rfl)) pgs_nil))))
    (pss_one (ps_ret (pe_tup (pa_cons (pv 3) (pa_cons (pe_callTy call_tuple_of (by rfl) b_tuple (by decide +kernel) (pa_cons (pe_lc (own := [("sign", 5), ("behind", 6)]) (g := gTup K 2 (gCons (gName 5) (gCons (gName 6) gNil))) rfl sc_renumbered.nd (pi_tup (pv 4)) (blkOk_by (own := [("sign", 5), ("behind", 6)]) (N := n_renumbered) (sc := defScope s_renumbered) (by decide +kernel)) (fun _ _ _ _ _ => (pg_tup rfl (pgs_cons (pg_name (i := 5) sc_renumbered.nd rfl (Or.inl rfl)) (pgs_cons (pg_name (i := 6) sc_renumbered.nd rfl (Or.inl rfl)) pgs_nil)))) (fun _ _ _ _ _ => pts_nil) (fun _ _ _ _ _ => (pe_tup (pa_cons (pv 5) (pa_cons (pe_dget hu (pv 2) (pe_ix (r := rIxL K) ix_list (pv 1) (pv 6) (fun _ _ => rfl)) (fun _ _ => rfl)) pa_nil))))) pa_nil)) pa_nil)))))), ?_⟩
  refine ⟨_, rfl, ra, _, rfl, e2, rfl, _, _, rfl, _, _, rfl, rfl, ?_⟩
  refine ⟨_, rfl, _, rfl, b, rfl, ⟨_, e3⟩, fun D nD => ?_⟩
  refine lc_tup (K := K) (a := b) (xs := ls) (fun j H' => ∃ as : List V, Same H H' ∧ H' D = some (.lst as) ∧ DpAll K H' as (((r.2.take j).map fun p => (p.1, O.idxOf (kAt κ p.2))).map stD)) ⟨[], .new nD, upd_same, .nil⟩ (fun j H' _ ⟨_, g, _⟩ => g.sqT e3) ?_ ?_
  · rintro j v H1 hv1 ⟨as, s1, hD, has⟩
    obtain ⟨p, pa, hp, rfl, hpa⟩ := stsAt e4 hv1
    have hj := (List.getElem?_eq_some_iff.mp hp).1
    obtain ⟨hp1, hp2⟩ := hin p (List.mem_of_getElem? hp)
    have hal := dpsLen has
    rw [List.length_map, List.length_map, List.length_take] at hal
    have hg : valV (nkK O) (.inl (kAt κ p.2 : Int)) = some (V.int (O.idxOf (kAt κ p.2) : Int)) := by rw [nkK_get, if_pos hp2]
    refine ⟨pa, _, rfl, s1.sqT hpa, rfl, _, _, rfl, _, _, rfl, rfl, rfl, ?_⟩
    refine ⟨_, rfl, _, rfl, _, rfl, _, rfl, kl, _, _, V.int (kAt κ p.2 : Int), rfl, rfl, sL (s1 _ _ hkl), atI_nat (ints_at (kAt_get hp1)), ?_⟩
    have hdg : DGet H1 nd (.int (kAt κ p.2 : Int)) (some (V.int (O.idxOf (kAt κ p.2) : Int))) := by
      have := DGet.k (k := .inl (kAt κ p.2 : Int)) (s1 _ _ hnd)
      rw [hg] at this
      exact this
    refine ⟨nd, _, rfl, hdg, (by show 2 ≤ sizeLine; decide), fun t nt => ?_⟩
    refine ⟨as, Same.new nt _ _ hD, szb (by omega), as ++ [.ref t], (s1.trans (.new nt)).mut nD, upd_same, ?_⟩
    rw [take_snoc hp, List.map_append]
    exact stepAdd (L := (r.2.take j).map fun p => (p.1, O.idxOf (kAt κ p.2))) (sg := p.1) (n := O.idxOf (kAt κ p.2)) hD has nt
  · rintro H1 ⟨as, s1, hD, has⟩
    rw [hls, List.take_length] at has
    refine ⟨D, as, rfl, .inl ⟨sL hD, fun l nl => ⟨(by show 2 ≤ sizeLine; decide), fun t nt => ?_⟩⟩⟩
    have sl : Same H1 (upd H1 l (.tup as)) := .new nl
    have hl : Dp K (upd H1 l (.tup as)) (.ref l) (.tuple ((r.2.map fun p => (p.1, O.idxOf (kAt κ p.2))).map stD)) := .tup (sT upd_same) (dpsS sl has)
    exact k _ (.ref t) (s1.trans (sl.trans (.new nt))) (.tup (sT upd_same) (.cons (.bl _) (.cons (dpS (.new nt) hl) .nil)))
end
end Sw
set_option Elab.async false
set_option maxRecDepth 100000
set_option maxHeartbeats 8000000
namespace Sw
open PySem L2 PySem.Spec PyProof.Rows
theorem nkK_is (c : Nat) (O : List Nat) : (valV (nkK O) (.inl (c : Int))).isSome = decide (c ∈ O) := by
  rw [nkK_get]
  by_cases h : c ∈ O
  · rw [if_pos h, decide_eq_true h]; rfl
  · rw [if_neg h, decide_eq_false h]; rfl
theorem nd_of_map {α β : Type} {f : α → β} : ∀ {l : List α}, (l.map f).Nodup → l.Nodup
  | [], _ => List.nodup_nil
  | x :: l, h => by
    rw [List.map_cons, List.nodup_cons] at h
    exact List.nodup_cons.mpr ⟨fun q => h.1 (List.mem_map_of_mem q), nd_of_map h.2⟩
/-- rooms come to so far, by kinds: from each ahead of a place all is come to -/
structure Bf (M : List Rm) (κ ρ : List Nat) (c0 a : Nat) : Prop where
  bfs : bfsC (succC M κ) (1000 - a) a (ρ.map (kAt κ)) = orderC M κ c0
  nd : (ρ.map (kAt κ)).Nodup
  lt : ∀ x, x ∈ ρ → x < M.length
  le : a ≤ ρ.length
  cl : ∀ (i x : Nat), i < a → ρ[i]? = some x → ∀ p, p ∈ stepsOf M x → kAt κ p.2 ∈ ρ.map (kAt κ)
theorem Bf.len {M : List Rm} {κ ρ : List Nat} {c0 a : Nat} (h : Bf M κ ρ c0 a) : ρ.length ≤ M.length := nodup_le (nd_of_map h.nd) h.lt
theorem Bf.start {M : List Rm} {κ : List Nat} {x : Nat} (h : x < M.length) : Bf M κ [x] (kAt κ x) 0 := by
  refine ⟨rfl, by simp, fun y hy => by rw [List.mem_singleton.mp hy]; exact h, Nat.zero_le _, fun i y hi => absurd hi (Nat.not_lt_zero _)⟩
/-- a turn -/
theorem Bf.turn {M : List Rm} {κ ρ B : List Nat} {c0 a x : Nat} (h : Bf M κ ρ c0 a) (hk : Kd M κ) (hx : ρ[a]? = some x) (hM : M.length ≤ 100) (he : (ρ ++ B).map (kAt κ) = ((stepsOf M x).map fun p => kAt κ p.2).foldl addNew (ρ.map (kAt κ))) (hB : ∀ y, y ∈ B → y < M.length) : Bf M κ (ρ ++ B) c0 (a + 1) := by
  have hxm := h.lt x (List.mem_of_getElem? hx)
  have ha := (List.getElem?_eq_some_iff.mp hx).1
  have hl := h.len
  have hO : (ρ.map (kAt κ))[a]? = some (kAt κ x) := by rw [List.getElem?_map, hx]; rfl
  refine ⟨?_, ?_, fun y hy => ?_, by rw [List.length_append]; omega, fun i y hi hy p hp => ?_⟩
  · have hb := h.bfs
    rw [show 1000 - a = (1000 - (a + 1)) + 1 by omega, bfsC_turn hO, succ_of hk hxm] at hb
    rw [he]
    exact hb
  · rw [he]; exact fold_nd h.nd
  · rcases List.mem_append.mp hy with hy | hy
    · exact h.lt y hy
    · exact hB y hy
  · by_cases e : i = a
    · subst e
      rw [List.getElem?_append_left ha, hx] at hy
      cases hy
      rw [he, fold_mem]
      exact .inr (List.mem_map_of_mem (f := fun p : Stp => kAt κ p.2) hp)
    · rw [List.getElem?_append_left (by omega)] at hy
      have := h.cl i y (by omega) hy p hp
      rw [List.map_append]
      exact List.mem_append_left _ this
section
variable {P : Program} {w : World} {K : PySem.W.Frag} {mg : Str → Option Value} {base : Heap}
abbrev n_least_from : List Str := ["machine", "first", "kinds", "rooms", "numbers", "at", "_", "behind", "room"]
theorem sc_least_from : FnScope n_least_from ["machine", "first"] (defScope s_least_from) := ⟨rfl, rfl, rfl, by decide +kernel, rfl, by decide +kernel, by decide +kernel⟩
def spLeast (K : PySem.W.Frag) : Sp := fun vs H Q _ => ∃ (v : V) (M : List Rm) (x : Nat), vs = [v, .int (x : Int)] ∧ Dp K H v (maD M) ∧ MOk M ∧ x < M.length ∧ ∀ H' u κ, Same H H' → Kd M κ → (∃ ρ, Bf M κ ρ (kAt κ x) ρ.length) → Dp K H' u (maD (leastC M κ (kAt κ x))) → Q u H'
theorem ok_least_from (F : DefAt K mg "least_from" s_least_from ["machine", "first"]) (d__kinds : DefOk P w K mg base "_kinds" 1 ["machine"] (spKinds K)) (d__renumbered : DefOk P w K mg base "_renumbered" 1 ["room", "kinds", "numbers"] (spRen K)) (b_len : mg "len" = none) (b_tuple : mg "tuple" = none) : DefOk P w K mg base "least_from" 2 ["machine", "first"] (spLeast K) := by
  refine F.ok sc_least_from (fun vs H Q E h => ?_) (fun f cdv A outer s H vs Q E hr h => ?_)
  · obtain ⟨_, _, _, rfl, _⟩ := h
    rfl
  obtain ⟨v, M, x0, rfl, hv, hM, hx0, k⟩ := h
  have hv0 := hv
  obtain ⟨ma, rs, rfl, hma, hrs⟩ := dpTup hv0
  have hlen := dpsLen hrs
  rw [List.length_map] at hlen
  have hMl := hM.le
  have hu := hu_of hr
  refine ⟨_, (pss_cons (ps_set (i := 2) sc_least_from.nd rfl (Or.inr rfl) (pe_callD d__kinds (hr.mono (by decide)) rfl (pa_cons (pv 0) pa_nil)))
    (pss_cons (ps_set (i := 3) sc_least_from.nd rfl (Or.inl rfl) (pe_lst (pa_cons (pv 1) pa_nil)))
    (pss_cons (ps_set (i := 4) sc_least_from.nd rfl (Or.inr rfl) (pe_disp (pps_cons (pe_ix ix_list (pv 2) (pv 1) (fun _ _ => rfl)) pe_int pps_nil) (by rfl) (by rfl) (fun z => by cases z) (by decide)))
    (pss_cons (ps_set (i := 5) sc_least_from.nd rfl (Or.inl rfl) pe_int)
    (pss_cons (ps_while PassesOwn.never (pt_cmpR op_lt (pv 5) (pe_callB call_len_seq (by rfl) b_len PySem.boot_len (pa_cons (pv 3) pa_nil)) (nomark _)) (pss_cons (ps_for PassesOwn.never rfl (pi_tup (pe_ix ix_tup (pe_ix ix_tup (pv 0) (pe_ix ix_list (pv 3) (pv 5) (fun _ _ => rfl)) (fun _ _ => rfl)) pe_int (fun _ _ => rfl))) (pg_tup rfl (pgs_cons (pg_name (i := 6) sc_least_from.nd rfl (Or.inl rfl)) (pgs_cons (pg_name (i := 7) sc_least_from.nd rfl (Or.inl rfl)) pgs_nil)))
      (pss_one (ps_if (pt_cmp (pc_dnotin hu (pe_ix ix_list (pv 2) (pv 7) (fun _ _ => rfl)) (pv 4)) rfl) (pss_cons (ps_dput hu (pv 4) (pe_ix ix_list (pv 2) (pv 7) (fun _ _ => rfl)) (pe_callB call_len_seq (by rfl) b_len PySem.boot_len (pa_cons (pv 3) pa_nil)) rfl)
    (pss_one (ps_expr (pe_bm PySem.F.plainAttrs_list PySem.F.slot_list_append PySem.F.type_list_append mt_append (pv 3) (pa_cons (pv 7) pa_nil))))) pss_nil)))
    (pss_one (ps_aug (i := 5) sc_least_from.nd rfl (Or.inl rfl) pe_int ip_add))))
    (pss_one (ps_ret (pe_callTy call_tuple_of (by rfl) b_tuple (by decide +kernel) (pa_cons (pe_lc (own := [("room", 8)]) (g := gName 8) rfl sc_least_from.nd (pi_list (pv 3)) (blkOk_by (own := [("room", 8)]) (N := n_least_from) (sc := defScope s_least_from) (by decide +kernel)) (fun _ _ _ _ _ => (pg_name (i := 8) sc_least_from.nd rfl (Or.inl rfl))) (fun _ _ _ _ _ => pts_nil) (fun _ _ _ _ _ => (pe_callD d__renumbered (hr.mono (by decide)) rfl (pa_cons (pe_ix (r := rIxT K) ix_tup (pv 0) (pv 8) (fun _ _ => rfl)) (pa_cons (pv 2) (pa_cons (pv 4) pa_nil)))))) pa_nil))))))))), ?_⟩
  refine ⟨_, rfl, _, M, rfl, hv, hM, fun H1 kl κ s1 hkl nkl hK => ?_⟩
  have hκl := hK.len
  refine ⟨_, rfl, (by show 1 ≤ sizeLine; decide), fun rl nrl => ?_⟩
  have s2 : Same H1 (upd H1 rl (.lst [.int (x0 : Int)])) := .new nrl
  have hrl : (upd H1 rl (.lst [.int (x0 : Int)])) rl = some (.lst (natV [x0])) := upd_same
  generalize upd H1 rl (.lst [.int (x0 : Int)]) = H2 at s2 hrl ⊢
  refine fun nd nnd => ?_
  have s3 : Same H2 (upd H2 nd (.dK [])) := .new nnd
  refine ⟨_, rfl, _, rfl, kl, _, _, V.int (kAt κ x0 : Int), rfl, rfl, sL (s3 _ _ (s2 _ _ hkl)), atI_nat (ints_at (kAt_get (by omega))), upd_same, [(.inl (kAt κ x0 : Int), .int 0)], rfl, by simp, ?_⟩
  have s4 : Same H2 (upd (upd H2 nd (.dK [])) nd (.dK (mergeK [] [(.inl (kAt κ x0 : Int), .int 0)]))) := fun b o e => by rw [upd_ne (ne_of_none e nnd), upd_ne (ne_of_none e nnd)]; exact e
  have hnd : (upd (upd H2 nd (.dK [])) nd (.dK (mergeK [] [(.inl (kAt κ x0 : Int), .int 0)]))) nd = some (.dK (nkK ([x0].map (kAt κ)))) := upd_same
  generalize upd (upd H2 nd (.dK [])) nd (.dK (mergeK [] [(.inl (kAt κ x0 : Int), .int 0)])) = H3 at s4 hnd ⊢
  have nnd1 : H1 nd = none := by
    cases e : H1 nd with
    | none => rfl
    | some o => rw [s2 _ _ e] at nnd; cases nnd
  have nrd : rl ≠ nd := ne_of_none hrl nnd
  refine ⟨fun m σ H' => ∃ (ρ : List Nat) (a : Nat) (o6 o7 : Option V), σ = [some (.ref ma), some (.int (x0 : Int)), some (.ref kl), some (.ref rl), some (.ref nd), some (.int (a : Int)), o6, o7, none] ∧ m = M.length + 1 - a ∧ Same H1 H' ∧ H' rl = some (.lst (natV ρ)) ∧ H' nd = some (.dK (nkK (ρ.map (kAt κ)))) ∧ Bf M κ ρ (kAt κ x0) a,
    ⟨_, [x0], 0, none, none, rfl, rfl, s2.trans s4, s4 _ _ hrl, hnd, .start hx0⟩, ?_⟩
  rintro m σ H4 ⟨ρ, a, o6, o7, rfl, rfl, s5, hρ, hnd4, hB⟩
  have hρl := hB.len
  refine ⟨_, rfl, _, rfl, rl, _, rfl, .inl (sL hρ), _, _, rfl, rfl, _, rfl, ?_⟩
  rw [ints_len]
  refine ite2 (fun hlt => ?_) (fun hge => ?_)
  · have ha : a < ρ.length := by have := of_decide_eq_true hlt; omega
    obtain ⟨x, hx⟩ : ∃ x, ρ[a]? = some x := ⟨_, List.getElem?_eq_getElem ha⟩
    have hxm := hB.lt x (List.mem_of_getElem? hx)
    obtain ⟨r, hr'⟩ : ∃ r, M[x]? = some r := ⟨_, List.getElem?_eq_getElem hxm⟩
    have hrM := List.mem_of_getElem? hr'
    obtain ⟨ra, b, ls, e1, e2, e3, e4⟩ := rmsAt hrs hr'
    have hls := dpsLen e4
    rw [List.length_map] at hls
    have est : stepsOf M x = r.2 := stepsOf_at hr'
    refine ⟨fun σ' H' => ∃ (ρ : List Nat) (o6 o7 : Option V), σ' = [some (.ref ma), some (.int (x0 : Int)), some (.ref kl), some (.ref rl), some (.ref nd), some (.int ((a + 1 : Nat) : Int)), o6, o7, none] ∧ Same H1 H' ∧ H' rl = some (.lst (natV ρ)) ∧ H' nd = some (.dK (nkK (ρ.map (kAt κ)))) ∧ Bf M κ ρ (kAt κ x0) (a + 1),
      fun σ' H' ⟨ρ', o6, o7, z, g1, g2, g3, g4⟩ => ⟨_, by omega, ρ', a + 1, o6, o7, z, rfl, g1, g2, g3, g4⟩, ?_⟩
    have s14 := s1.trans s5
    refine ⟨_, rfl, _, rfl, _, rfl, rl, _, _, _, rfl, rfl, sL hρ, atI_nat (ints_at hx), ma, _, _, _, rfl, rfl, s14.sqT hma, atI_nat e1, ra, _, 1, _, rfl, rfl, s14.sqT e2, atI_nat (j := 1) rfl, b, rfl, ⟨_, s14.sqT e3⟩, ?_⟩
    refine for_tup (K := K) (a := b) (xs := ls) (fun j σ H' => ∃ (B : List Nat) (o6 o7 : Option V), σ = [some (.ref ma), some (.int (x0 : Int)), some (.ref kl), some (.ref rl), some (.ref nd), some (.int (a : Int)), o6, o7, none] ∧ Same H1 H' ∧ H' rl = some (.lst (natV (ρ ++ B))) ∧ H' nd = some (.dK (nkK ((ρ ++ B).map (kAt κ)))) ∧ (ρ ++ B).map (kAt κ) = ((r.2.take j).map fun p => kAt κ p.2).foldl addNew (ρ.map (kAt κ)) ∧ (∀ y, y ∈ B → y < M.length) ∧ B.length ≤ j)
      ⟨[], o6, o7, rfl, s5, by simpa using hρ, by simpa using hnd4, by simp, fun y hy => (by cases hy), Nat.zero_le _⟩ (fun j σ H' _ ⟨_, _, _, _, g, _⟩ => (s1.trans g).sqT e3) ?_ ?_
    · rintro j v σ H5 hv5 ⟨B, o6, o7, rfl, s6, hρ5, hnd5, hO, hBl, hBj⟩
      obtain ⟨p, pa, hp, rfl, hpa⟩ := stsAt e4 hv5
      have hj := (List.getElem?_eq_some_iff.mp hp).1
      have hdeg := hM.deg r hrM
      have hpn := hM.tgt r hrM p (List.mem_of_getElem? hp)
      have hkl5 := s6 _ _ hkl
      have hfn : ((r.2.take (j + 1)).map fun p => kAt κ p.2).foldl addNew (ρ.map (kAt κ)) = addNew ((ρ ++ B).map (kAt κ)) (kAt κ p.2) := by rw [take_snoc hp, List.map_append, List.foldl_append, ← hO]; rfl
      have hal : (ρ ++ B).length ≤ 200 := by rw [List.length_append]; omega
      have hix := atI_nat (ints_at (kAt_get (κ := κ) (x := p.2) (by omega)))
      refine ⟨pa, _, rfl, (s1.trans s6).sqT hpa, rfl, _, _, rfl, _, _, rfl, rfl, ?_⟩
      refine ⟨_, rfl, _, rfl, kl, _, _, V.int (kAt κ p.2 : Int), rfl, rfl, sL hkl5, hix, _, rfl, nd, _, rfl, DGet.k (k := .inl (kAt κ p.2 : Int)) hnd5, _, rfl, ?_⟩
      rw [nkK_is]
      refine ite2 (fun hn => ?_) (fun hy => ?_)
      · have hn' : kAt κ p.2 ∉ (ρ ++ B).map (kAt κ) := by simpa using hn
        refine ⟨_, rfl, rl, _, rfl, .inl (sL hρ5), _, rfl, _, rfl, _, rfl, kl, _, _, V.int (kAt κ p.2 : Int), rfl, rfl, sL hkl5, hix, nd, _, rfl, DPut.k (k := .inl (kAt κ p.2 : Int)) hnd5 (szb (by rw [nkK_len, List.length_map]; omega)), ?_⟩
        have hlenE : ((natV (ρ ++ B)).length : Int) = (((ρ ++ B).map (kAt κ)).length : Int) := by rw [ints_len, List.length_map]
        rw [hlenE, nkK_put hn']
        have s7 : Same H1 (upd H5 nd (.dK (nkK ((ρ ++ B).map (kAt κ) ++ [kAt κ p.2])))) := s6.mut nnd1
        have hρ7 : (upd H5 nd (.dK (nkK ((ρ ++ B).map (kAt κ) ++ [kAt κ p.2])))) rl = some (.lst (natV (ρ ++ B))) := by rw [upd_ne nrd]; exact hρ5
        have hnd7 : (upd H5 nd (.dK (nkK ((ρ ++ B).map (kAt κ) ++ [kAt κ p.2])))) nd = some (.dK (nkK ((ρ ++ B).map (kAt κ) ++ [kAt κ p.2]))) := upd_same
        generalize upd H5 nd (.dK (nkK ((ρ ++ B).map (kAt κ) ++ [kAt κ p.2]))) = H7 at s7 hρ7 hnd7 ⊢
        refine ⟨_, rfl, .inl ⟨rfl, _, .inl (.inl hρ7)⟩, _, rfl, rl, _, _, rfl, rfl, hρ7, szb (by rw [ints_len]; omega), ?_⟩
        refine ⟨B ++ [p.2], _, _, rfl, s7.mut nrl, by rw [upd_same, ← List.append_assoc, natV_snoc], by rw [upd_ne nrd.symm, hnd7]; simp, ?_, fun y hy => ?_, by rw [List.length_append, List.length_singleton]; omega⟩
        · rw [hfn, addNew, if_neg hn']; simp
        · rcases List.mem_append.mp hy with hy | hy
          · exact hBl y hy
          · rw [List.mem_singleton.mp hy]; exact hpn
      · have hy' : kAt κ p.2 ∈ (ρ ++ B).map (kAt κ) := Decidable.of_not_not fun q => hy (by rw [decide_eq_false q]; rfl)
        refine ⟨B, _, _, rfl, s6, hρ5, hnd5, ?_, hBl, by omega⟩
        rw [hfn, addNew, if_pos hy']
    · rintro σ H5 ⟨B, o6, o7, rfl, s6, hρ5, hnd5, hO, hBl, hBj⟩
      rw [hls, List.take_length, ← est] at hO
      refine ⟨_, rfl, _, _, rfl, rfl, ?_⟩
      exact ⟨ρ ++ B, _, _, by rw [Int.natCast_add]; rfl, s6, hρ5, hnd5, hB.turn hK hx hMl hO hBl⟩
  · have ha : a = ρ.length := by
      have := hB.le
      have : ¬ ((a : Int) < (ρ.length : Int)) := fun q => hge (decide_eq_true q)
      omega
    subst ha
    have hOrd : ρ.map (kAt κ) = orderC M κ (kAt κ x0) := by
      have := hB.bfs
      have e : (ρ.map (kAt κ)).length = ρ.length := List.length_map ..
      rw [← e, bfsC_end] at this
      exact this
    refine ⟨_, rfl, rl, rfl, ⟨_, sL hρ⟩, fun D nD => ?_⟩
    refine lc_list (K := K) (a := rl) (xs := natV ρ) (fun j H' => ∃ us : List V, Same H4 H' ∧ H' D = some (.lst us) ∧ DpAll K H' us (((ρ.take j).map fun x => classOut M κ (ρ.map (kAt κ)) (kAt κ x)).map rmD)) ⟨[], .new nD, upd_same, .nil⟩ (fun j H' _ ⟨_, g, _⟩ => sL (g _ _ hρ)) ?_ ?_
    · rintro j v H5 hv5 ⟨us, s6, hD, hus⟩
      obtain ⟨x, hx, rfl⟩ := ints_get hv5
      have hj := (List.getElem?_eq_some_iff.mp hx).1
      have hxm := hB.lt x (List.mem_of_getElem? hx)
      obtain ⟨r, hr'⟩ : ∃ r, M[x]? = some r := ⟨_, List.getElem?_eq_getElem hxm⟩
      have hrM := List.mem_of_getElem? hr'
      have s15 := s1.trans (s5.trans s6)
      obtain ⟨u, hu1, hu2⟩ := dpsAt (dpsS s15 hrs) (i := x) (d := rmD r) (by rw [List.getElem?_map, hr']; rfl)
      have est : stepsOf M x = r.2 := stepsOf_at hr'
      have hul := dpsLen hus
      rw [List.length_map, List.length_map, List.length_take] at hul
      refine ⟨rfl, ?_⟩
      refine ⟨_, rfl, _, rfl, ma, _, _, u, rfl, rfl, s15.sqT hma, atI_nat hu1, _, rfl, _, rfl, u, kl, nd, r, κ, ρ.map (kAt κ), rfl, hu2, (s5.trans s6) _ _ hkl, s6 _ _ hnd4, hM.deg r hrM, fun p hp => ⟨by rw [hκl]; exact hM.tgt r hrM p hp, hB.cl j x hj hx p (by rw [est]; exact hp)⟩, fun H6 w s7 hw => ?_⟩
      refine ⟨us, s7 _ _ hD, szb (by omega), us ++ [w], (s6.trans s7).mut nD, upd_same, ?_⟩
      have hD7 := s7 _ _ hD
      rw [take_snoc hx, List.map_append, List.map_append]
      refine dpsApp (dpsW hD7 (noLs_rm _) (dpsS s7 hus)) (.cons (dpW hD7 (noL_rm _) ?_) .nil)
      show Dp K H6 w (rmD (classOut M κ (ρ.map (kAt κ)) (kAt κ x)))
      rw [out_of hK hxm, est, endsOf_at hr']
      exact hw
    · rintro H5 ⟨us, s6, hD, hus⟩
      rw [ints_len, List.take_length] at hus
      refine ⟨D, us, rfl, .inl ⟨sL hD, fun t nt => ?_⟩⟩
      have st : Same H5 (upd H5 t (.tup us)) := .new nt
      refine k _ (.ref t) κ (s1.trans (s5.trans (s6.trans st))) hK ⟨ρ, hB⟩ (.tup (sT upd_same) ?_)
      unfold leastC
      rw [← hOrd, List.map_map (l := ρ)]
      exact dpsS st hus
end
end Sw
set_option Elab.async false
set_option maxRecDepth 100000
set_option maxHeartbeats 8000000
namespace Sw
open PySem L2 PySem.Spec PyProof.Rows
/-- the machine within an orbit, its gates the ends -/
def partR (A : List Rm) (o : List Nat) (x : Nat) : Rm := (decide (x ∈ gatesM A o), (stepsOf A x).filter fun p => decide (p.2 ∈ o))
def partM (A : List Rm) (o : List Nat) : List Rm := (List.range A.length).map (partR A o)
theorem partM_len (A : List Rm) (o : List Nat) : (partM A o).length = A.length := by unfold partM; rw [List.length_map, List.length_range]
theorem partM_at {A : List Rm} {o : List Nat} {x : Nat} (h : x < A.length) : (partM A o)[x]? = some (partR A o x) := by
  unfold partM
  rw [List.getElem?_map, List.getElem?_range h]
  rfl
theorem part_ok {A : List Rm} {o : List Nat} (h : MOk A) : MOk (partM A o) := by
  have mem : ∀ r, r ∈ partM A o → ∃ q, q ∈ A ∧ ∃ x, r = (decide (x ∈ gatesM A o), q.2.filter fun p => decide (p.2 ∈ o)) := fun r hr => by
    obtain ⟨x, hx, e⟩ := List.mem_map.mp hr
    have hx' := List.mem_range.mp hx
    refine ⟨A[x], List.getElem_mem hx', x, ?_⟩
    rw [← e, partR, stepsOf_at (List.getElem?_eq_getElem hx')]
  refine ⟨⟨fun r hr => ?_, fun r hr p hp => ?_, fun r hr p hp => ?_, fun r hr => ?_⟩, by rw [partM_len]; exact h.pos, by rw [partM_len]; exact h.le⟩
  · obtain ⟨q, hq, x, rfl⟩ := mem r hr
    exact Nat.le_trans (List.length_filter_le _ _) (h.deg q hq)
  · obtain ⟨q, hq, x, rfl⟩ := mem r hr
    rw [partM_len]
    exact h.tgt q hq p (List.mem_filter.mp hp).1
  · obtain ⟨q, hq, x, rfl⟩ := mem r hr
    exact h.str q hq p (List.mem_filter.mp hp).1
  · obtain ⟨q, hq, x, rfl⟩ := mem r hr
    exact (h.inc q hq).sub (List.filter_sublist.map _)
theorem lc_enumT {K : PySem.W.Frag} {a : Addr} {xs : List V} {g : TG} {tt : TT} {te : TE} {vs : List Nat} {σ : L2.St} {H1 : Hp} {D : Addr} {Qd : Hp → Prop} (Pv : Nat → Hp → Prop) (h0 : Pv 0 (upd H1 D (.lst []))) (hl : ∀ i H, i ≤ xs.length → Pv i H → SqT K H a xs)
    (hs : ∀ i x T H, xs[i]? = some x → Pv i H → H T = none → g (.ref T) (wipe σ vs) (upd H T (.tup [.int (i : Nat), x])) fun σ2 H2 => wipe σ2 vs = wipe σ vs ∧ tt σ2 H2 fun b H3 => if b = true then te σ2 H3 fun y H4 => ∃ acc, H4 D = some (.lst acc) ∧ acc.length < sizeLine ∧ Pv (i + 1) (upd H4 D (.lst (acc ++ [y]))) else Pv (i + 1) H3)
    (hd : ∀ H, Pv xs.length H → Qd H) : ∃ W : Nat → Nat → Hp → Prop, (∃ m, W 0 m (upd H1 D (.lst []))) ∧ ∀ i m H, W i m H →
      ((IteT K a).stop i H ∧ Qd H) ∨ ((IteT K a).go i H ∧ ∃ Nx : Hp → Prop, (∀ H', Nx H' → ∃ m', m' < m ∧ W (i + 1) m' H') ∧ ∀ x H', (IteT K a).yld i H x H' → g x (wipe σ vs) H' fun σ2 H2 => wipe σ2 vs = wipe σ vs ∧ tt σ2 H2 fun b H3 =>
        if b = true then te σ2 H3 fun y H4 => ∃ acc, H4 D = some (.lst acc) ∧ acc.length < sizeLine ∧ Nx (upd H4 D (.lst (acc ++ [y]))) else Nx H3) := by
  refine ⟨fun i m H => m = xs.length - i ∧ i ≤ xs.length ∧ Pv i H, ⟨xs.length, by simp, Nat.zero_le _, h0⟩, ?_⟩
  rintro i m H ⟨rfl, hi, hp⟩
  have hL := hl i H hi hp
  by_cases e : i = xs.length
  · exact .inl ⟨⟨xs, hL, by omega⟩, hd H (by rw [← e]; exact hp)⟩
  · have hlt : i < xs.length := by omega
    refine .inr ⟨⟨xs, xs[i], hL, List.getElem?_eq_getElem hlt⟩, Pv (i + 1), fun H' hq => ⟨_, by omega, rfl, hlt, hq⟩, fun x H' hy => ?_⟩
    obtain ⟨T, y, rfl, hT, rfl, hx⟩ := hy
    exact hs i y T H (hx xs hL) hp hT
section
variable {P : Program} {w : World} {K : PySem.W.Frag} {mg : Str → Option Value} {base : Heap}
abbrev n_part_of : List Str := ["machine", "room", "after", "orbit", "told", "ending", "rooms", "step", "number", "_", "steps"]
theorem sc_part_of : FnScope n_part_of ["machine", "room"] (defScope s_part_of) := ⟨rfl, rfl, rfl, by decide +kernel, rfl, by decide +kernel, by decide +kernel⟩
abbrev lc2_part : Scope := { kind := .function, names := [(".0", .local), ("number", .local), ("_", .local), ("steps", .local), ("tuple", .globalImplicit), ("ending", .cell), ("orbit", .cell)], isGenerator := false, isCoroutine := false }
def spPartOf (K : PySem.W.Frag) : Sp := fun vs H Q _ => ∃ (v : V) (M : List Rm) (x : Nat), vs = [v, .int (x : Int)] ∧ Dp K H v (maD M) ∧ MOk M ∧ HasEnd M ∧ x < M.length ∧
  ∀ H' u c κ, Same H H' → IsOrb (Eg (cutM M)) M.length c → x ∈ c → Kd (partM (cutM M) c) κ → (∃ ρ, Bf (partM (cutM M) c) κ ρ (kAt κ x) ρ.length) → Dp K H' u (maD (leastC (partM (cutM M) c) κ (kAt κ x))) → Q u H'
theorem ok_part_of (F : DefAt K mg "part_of" s_part_of ["machine", "room"]) (d_cut : DefOk P w K mg base "cut" 2 ["machine"] (spCut K)) (d_orbits : DefOk P w K mg base "orbits" 3 ["machine"] (spOrbs K)) (d_gates : DefOk P w K mg base "gates" 2 ["machine", "orbit"] (spGates K)) (d_least_from : DefOk P w K mg base "least_from" 2 ["machine", "first"] (spLeast K)) (b_enumerate : mg "enumerate" = none) (b_tuple : mg "tuple" = none) : DefOk P w K mg base "part_of" 4 ["machine", "room"] (spPartOf K) := by
  refine F.ok sc_part_of (fun vs H Q E h => ?_) (fun f cdv A outer s H vs Q E hr h => ?_)
  · obtain ⟨_, _, _, rfl, _⟩ := h
    rfl
  obtain ⟨v, M, x0, rfl, hv, hM, hE, hx0, k⟩ := h
  have hMl := hM.le
  refine ⟨_, (pss_cons (ps_set (i := 2) sc_part_of.nd rfl (Or.inl rfl) (pe_callD d_cut (hr.mono (by decide)) rfl (pa_cons (pv 0) pa_nil)))
    (pss_cons (ps_set (i := 3) sc_part_of.nd rfl (Or.inr rfl) (pe_ix ix_list (pe_lc (own := [("told", 4)]) (g := gName 4) rfl sc_part_of.nd (pi_list (pe_callD d_orbits (hr.mono (by decide)) rfl (pa_cons (pv 2) pa_nil))) (blkOk_by (own := [("told", 4)]) (N := n_part_of) (sc := defScope s_part_of) (by decide +kernel)) (fun _ _ _ _ _ => (pg_name (i := 4) sc_part_of.nd rfl (Or.inl rfl))) (fun _ _ _ _ _ => (pts_one (pt_cmpR (r := rIn K false) op_in_seq (pv 1) (pv 4) (by rfl)))) (fun _ _ _ _ _ => (pv 4))) pe_int (fun _ _ => rfl)))
    (pss_cons (ps_set (i := 5) sc_part_of.nd rfl (Or.inr rfl) (pe_callD d_gates (hr.mono (by decide)) rfl (pa_cons (pv 2) (pa_cons (pv 3) pa_nil))))
    (pss_cons (ps_setLc (i := 6) (own := [("number", 8), ("_", 9), ("steps", 10)]) (g := gTup K 2 (gCons (gName 8) (gCons (gTup K 2 (gCons (gName 9) (gCons (gName 10) gNil))) gNil))) rfl sc_part_of.nd rfl rfl (sw_true rfl rfl rfl (by decide +kernel)) (pi_enumT (by rfl) b_enumerate (pa_cons (pv 2) pa_nil)) (blkOk_by (own := [("number", 8), ("_", 9), ("steps", 10)]) (N := n_part_of) (sc := defScope s_part_of) (by decide +kernel)) (fun _ _ _ _ _ => (pg_tup rfl (pgs_cons (pg_name (i := 8) sc_part_of.nd rfl (Or.inl rfl)) (pgs_cons (pg_tup rfl (pgs_cons (pg_name (i := 9) sc_part_of.nd rfl (Or.inl rfl)) (pgs_cons (pg_name (i := 10) sc_part_of.nd rfl (Or.inl rfl)) pgs_nil))) pgs_nil)))) (fun _ _ _ _ _ => pts_nil) (fun _ _ _ _ _ => (pe_tup (pa_cons (pe_cmpR (r := rIn K false) op_in_seq (pv 8) (pv 5) (by rfl)) (pa_cons (pe_callTy (r := rTup K) call_tuple_of (by rfl) b_tuple (by decide +kernel) (pa_cons (pe_lc (wi := iTup K (tVar 10)) (own := [("step", 7)]) (g := gName 7) rfl sc_part_of.nd (pi_tup (pv 10)) (blkOk_by (own := [("step", 7)]) (N := n_part_of) (sc := lc2_part) (by decide +kernel)) (fun _ _ _ _ _ => (pg_name (i := 7) sc_part_of.nd rfl (Or.inl rfl))) (fun _ _ _ _ _ => (pts_one (pt_cmpR (r := rIn K false) op_in_seq (pe_ix (r := rIxT K) ix_tup (pv 7) pe_int (fun _ _ => rfl)) (pv 3) (by rfl)))) (fun _ _ _ _ _ => (pv 7))) pa_nil)) pa_nil)))))
    (pss_one (ps_ret (pe_callD d_least_from (hr.mono (by decide)) rfl (pa_cons (pe_callTy call_tuple_of (by rfl) b_tuple (by decide +kernel) (pa_cons (pv 6) pa_nil)) (pa_cons (pv 1) pa_nil))))))))), ?_⟩
  refine ⟨_, rfl, v, M, rfl, hv, hM, hE, fun H1 u s1 hu => ?_⟩
  have okc : MOk (cutM M) := cut_ok _ hM
  have ml : (cutM M).length = M.length := cutM_len M
  refine ⟨_, rfl, u, cutM M, rfl, hu, okc, fun H2 fl L s2 hL hO => ?_⟩
  obtain ⟨as, hfl, hap, nfl⟩ := hL
  have hal := pairedLen hap
  refine ⟨fl, rfl, ⟨_, sL hfl⟩, fun D nD => ?_⟩
  refine lc_list (K := K) (a := fl) (xs := as.map V.ref) (fun j H' => ∃ (qs : List Addr) (cs : List (List Nat)), Same H2 H' ∧ H' D = some (.lst (qs.map V.ref)) ∧ Paired (fun a c => H2 a = some (.lst (natV c))) qs cs ∧ (∀ c, c ∈ cs → c ∈ L ∧ x0 ∈ c) ∧ (∀ c, c ∈ L.take j → x0 ∈ c → c ∈ cs) ∧ qs.length ≤ j)
    ⟨[], [], .new nD, upd_same, .nil, fun c h => (by cases h), fun c h => by simp at h, Nat.zero_le _⟩ (fun j H' _ ⟨_, _, g, _⟩ => sL (g _ _ hfl)) ?_ ?_
  · rintro j w' H3 hw ⟨qs, cs, s3, hD, hqs, hcs, hall, hql⟩
    rw [List.getElem?_map] at hw
    obtain ⟨q, hq, rfl⟩ := Option.map_eq_some_iff.mp hw
    obtain ⟨c, hc, hqc, _⟩ := pairedAtL hap hq
    have hj := (List.getElem?_eq_some_iff.mp hc).1
    have hLl : L.length ≤ 100 := by
      have h1 := nodup_le (n := (cutM M).length) (l := L.map hd) (List.pairwise_map.mpr (hO.up.imp fun h => Nat.ne_of_lt h)) fun x hx => by
        obtain ⟨c, hc, rfl⟩ := List.mem_map.mp hx
        have o := hO.o c hc
        exact ((o.mem _ (hd_mem o.ne) _).mp (hd_mem o.ne)).1
      rw [List.length_map] at h1
      omega
    refine ⟨rfl, ?_⟩
    refine ⟨_, rfl, _, rfl, q, _, rfl, .inl (sL (s3 _ _ hqc)), rfl, ints_flat c, _, rfl, ?_⟩
    rw [ints_in]
    refine ite2 (fun hin => ?_) (fun hno => ?_)
    · have hin' := of_decide_eq_true hin
      refine ⟨_, rfl, _, hD, szb (by rw [List.length_map]; omega), qs ++ [q], cs ++ [c], s3.mut nD, by rw [upd_same, List.map_append]; rfl, pairedApp hqs (.cons hqc .nil), fun d hd => ?_, fun d hd hx => ?_, by rw [List.length_append, List.length_singleton]; omega⟩
      · rcases List.mem_append.mp hd with hd | hd
        · exact hcs d hd
        · rw [List.mem_singleton.mp hd]; exact ⟨List.mem_of_getElem? hc, hin'⟩
      · rw [take_snoc hc] at hd
        rcases List.mem_append.mp hd with hd | hd
        · exact List.mem_append_left _ (hall d hd hx)
        · rw [List.mem_singleton.mp hd]; simp
    · have hno' : x0 ∉ c := fun z => hno (decide_eq_true z)
      refine ⟨qs, cs, s3, hD, hqs, hcs, fun d hd hx => ?_, by omega⟩
      rw [take_snoc hc] at hd
      rcases List.mem_append.mp hd with hd | hd
      · exact hall d hd hx
      · rw [List.mem_singleton.mp hd] at hx; exact absurd hx hno'
  rintro H3 ⟨qs, cs, s3, hD, hqs, hcs, hall, hql⟩
  rw [List.length_map, hal, List.take_length] at hall
  obtain ⟨c, hcL, hxc⟩ := hO.all x0 (by omega)
  obtain ⟨q0, c0, hq0, hc0, hqc⟩ : ∃ q0 c0, qs[0]? = some q0 ∧ c0 ∈ cs ∧ H2 q0 = some (.lst (natV c0)) := by
    have hm := hall c hcL hxc
    cases hqs with
    | nil => cases hm
    | cons r t => exact ⟨_, _, rfl, List.mem_cons_self, r⟩
  obtain ⟨hc0L, hx0c⟩ := hcs c0 hc0
  have ho := hO.o c0 hc0L
  have hclt : ∀ y, y ∈ c0 → y < (cutM M).length := fun y hy => ((ho.mem y hy y).mp hy).1
  have hcl : c0.length ≤ 1000 := by have := nodup_le (ho.up.imp fun h => Nat.ne_of_lt h) hclt; omega
  refine ⟨D, _, 0, V.ref q0, rfl, rfl, sL hD, atI_nat (j := 0) (by rw [List.getElem?_map, hq0]; rfl), ?_⟩
  have s23 := s2.trans s3
  have hu3 := dpS s23 hu
  refine ⟨_, rfl, _, rfl, u, cutM M, q0, c0, rfl, hu3, okc, s3 _ _ hqc, hcl, hclt, fun H4 g s4 hg ng => ?_⟩
  have hu4 := dpS s4 hu3
  have hq4 := s4 _ _ (s3 _ _ hqc)
  obtain ⟨ua, us0, rfl, hua, hus0⟩ := dpTup hu4
  have hul0 := dpsLen hus0
  rw [List.length_map] at hul0
  refine ⟨_, rfl, ua, _, rfl, hua, fun D2 nD2 => ?_⟩
  refine lc_enumT (K := K) (a := ua) (xs := us0) (fun i H' => ∃ us : List V, Same H4 H' ∧ H' D2 = some (.lst us) ∧ DpAll K H' us (((List.range i).map (partR (cutM M) c0)).map rmD)) ⟨[], .new nD2, upd_same, .nil⟩ (fun i H' _ ⟨_, g, _⟩ => g.sqT hua) ?_ ?_
  · rintro i w' T H5 hw ⟨us, s5, hD2, hus⟩ nT
    have hi := (List.getElem?_eq_some_iff.mp hw).1
    obtain ⟨r, hr'⟩ : ∃ r, (cutM M)[i]? = some r := ⟨_, List.getElem?_eq_getElem (by omega)⟩
    have hdeg := okc.deg r (List.mem_of_getElem? hr')
    have sT' : Same H5 (upd H5 T (.tup [.int (i : Nat), w'])) := .new nT
    have hT : SqT K (upd H5 T (.tup [.int (i : Nat), w'])) T [.int (i : Nat), w'] := sT upd_same
    generalize upd H5 T (.tup [.int (i : Nat), w']) = H6 at sT' hT ⊢
    have s46 := s5.trans sT'
    obtain ⟨ra, b, ls, e1, e2, e3, e4⟩ := rmsAt (dpsS s46 hus0) hr'
    have ew : w' = .ref ra := by rw [hw] at e1; exact Option.some.inj e1
    subst ew
    have hls := dpsLen e4
    rw [List.length_map] at hls
    have hD26 := sT' _ _ hD2
    have hus6 := dpsS sT' hus
    have hul := dpsLen hus
    rw [List.length_map, List.length_map, List.length_range] at hul
    refine ⟨T, _, rfl, hT, rfl, _, _, rfl, _, _, rfl, ra, _, rfl, e2, rfl, _, _, rfl, _, _, rfl, rfl, rfl, rfl, ?_⟩
    refine ⟨_, rfl, _, rfl, g, _, rfl, .inl (sL (s46 _ _ hg)), rfl, ints_flat _, ?_⟩
    rw [ints_in]
    refine ⟨_, rfl, b, rfl, ⟨_, e3⟩, fun D3 nD3 => ?_⟩
    refine lc_tup (K := K) (a := b) (xs := ls) (fun j H' => ∃ ws : List V, Same H6 H' ∧ H' D3 = some (.lst ws) ∧ DpAll K H' ws (((r.2.take j).filter fun p => decide (p.2 ∈ c0)).map stD)) ⟨[], .new nD3, upd_same, .nil⟩ (fun j H' _ ⟨_, g, _⟩ => g.sqT e3) ?_ ?_
    · rintro j v H7 hv7 ⟨ws, s7, hD3, hws⟩
      obtain ⟨p, pa, hp, rfl, hpa⟩ := stsAt e4 hv7
      have hj := (List.getElem?_eq_some_iff.mp hp).1
      have hpD : Dp K H7 (.ref pa) (stD p) := .tup (s7.sqT hpa) (.cons (.str _) (.cons (.int _) .nil))
      have hwl := dpsLen hws
      rw [List.length_map] at hwl
      have hfl' : ((r.2.take j).filter fun p => decide (p.2 ∈ c0)).length ≤ 6 := Nat.le_trans (List.length_filter_le _ _) (by rw [List.length_take]; omega)
      have et : (r.2.take (j + 1)).filter (fun p => decide (p.2 ∈ c0)) = (r.2.take j).filter (fun p => decide (p.2 ∈ c0)) ++ (if decide (p.2 ∈ c0) = true then [p] else []) := by rw [take_snoc hp, filter_snoc]
      refine ⟨rfl, ?_⟩
      refine ⟨_, rfl, pa, _, 1, _, rfl, rfl, s7.sqT hpa, atI_nat (j := 1) rfl, _, rfl, q0, _, rfl, .inl (sL ((s46.trans s7) _ _ hq4)), rfl, ints_flat c0, _, rfl, ?_⟩
      rw [ints_in]
      refine ite2 (fun z => ?_) (fun z => ?_)
      · have z' : decide (p.2 ∈ c0) = true := z
        rw [if_pos z'] at et
        refine ⟨_, rfl, ws, hD3, szb (by omega), ws ++ [.ref pa], s7.mut nD3, upd_same, ?_⟩
        rw [et, List.map_append]
        exact dpsApp (dpsW hD3 (noLs_st _) hws) (.cons (dpW hD3 (noL_st p) hpD) .nil)
      · have z' : ¬ decide (p.2 ∈ c0) = true := z
        rw [if_neg z', List.append_nil] at et
        rw [et]
        exact ⟨ws, s7, hD3, hws⟩
    · rintro H7 ⟨ws, s7, hD3, hws⟩
      rw [hls, List.take_length] at hws
      refine ⟨D3, ws, rfl, .inl ⟨sL hD3, fun l nl => ⟨(by show 2 ≤ sizeLine; decide), fun t nt => ?_⟩⟩⟩
      have hD7 := s7 _ _ hD26
      refine ⟨us, Same.new nt _ _ (Same.new nl _ _ hD7), szb (by omega), us ++ [.ref t], (s46.trans (s7.trans ((Same.new nl).trans (.new nt)))).mut nD2, upd_same, ?_⟩
      rw [range_succ_map]
      have est : stepsOf (cutM M) i = r.2 := stepsOf_at hr'
      unfold partR
      rw [est]
      exact roomAdd (N := (List.range i).map (partR (cutM M) c0)) (L := r.2.filter fun p => decide (p.2 ∈ c0)) (bb := decide (i ∈ gatesM (cutM M) c0)) hD7 (dpsS s7 hus6) hws nl nt
  · rintro H5 ⟨us, s5, hD2, hus⟩
    rw [hul0] at hus
    refine ⟨_, rfl, D2, us, rfl, .inl ⟨sL hD2, fun t nt => ?_⟩⟩
    have st : Same H5 (upd H5 t (.tup us)) := .new nt
    refine ⟨_, rfl, .ref t, partM (cutM M) c0, x0, rfl, .tup (sT upd_same) (dpsS st hus), part_ok okc, by rw [partM_len]; omega, fun H6 w κ s6 hK hBf hw => ?_⟩
    rw [ml] at ho
    exact k H6 w c0 κ (s1.trans (s23.trans (s4.trans (s5.trans (st.trans s6))))) ho hx0c hK hBf hw
end
end Sw
set_option Elab.async false
set_option maxRecDepth 100000
set_option maxHeartbeats 4000000
namespace Sw
open PySem L2 PySem.Spec PyProof.Rows
/-! ### a thing's type, by its data -/
def tyN : PyData → String
  | .none => "NoneType"
  | .bool _ => "bool"
  | .int _ => "int"
  | .str _ => "str"
  | .list _ => "list"
  | .tuple _ => "tuple"
  | .dict _ => "dict"
theorem tyX {K : PySem.W.Frag} {H : Hp} {v : V} {d : PyData} (h : Dp K H v d) : TyX K H v (.type (tyN d)) := by
  cases h with
  | non => exact .base .non
  | bl b => exact .base (.bl b)
  | int i => exact .base (.int i)
  | str x => exact .base (.str x)
  | lst h1 h2 =>
    rcases h1 with (h1 | ⟨o, h1⟩) | ⟨o, its, n, e, c, _⟩
    · exact .base (.lst h1)
    · exact .base (.frz h1)
    · exact .kList e c
  | tup h1 h2 =>
    rcases h1 with (h1 | ⟨o, h1⟩) | ⟨o, its, n, e, c, _⟩
    · exact .base (.tup h1)
    · exact .fTuple h1
    · exact .kTuple e c
/-- the answer of isinstance for the built-in class T -/
theorem isD (K : PySem.W.Frag) (T : String) (f : PyData → Bool) (h1 : kitB "NoneType" T = some (f .none)) (h2 : ∀ b, kitB "bool" T = some (f (.bool b))) (h3 : ∀ i, kitB "int" T = some (f (.int i))) (h4 : ∀ t, kitB "str" T = some (f (.str t)))
    (h5 : ∀ l, kitB "list" T = some (f (.list l))) (h6 : ∀ l, kitB "tuple" T = some (f (.tuple l))) {H : Hp} {v : V} {d : PyData} (h : Dp K H v d) : PySem.W.kitOne K (.type (tyN d)) (.type T) = some (f d) := by
  cases h with
  | non => exact kit_ty h1
  | bl b => exact kit_ty (h2 b)
  | int i => exact kit_ty (h3 i)
  | str x => exact kit_ty (h4 x)
  | lst _ _ => exact kit_ty (h5 _)
  | tup _ _ => exact kit_ty (h6 _)
def isStrD : PyData → Bool
  | .str _ => true
  | _ => false
def isTupD : PyData → Bool
  | .tuple _ => true
  | _ => false
def isLstD : PyData → Bool
  | .list _ => true
  | _ => false
def isBoolD : PyData → Bool
  | .bool _ => true
  | _ => false
def isIntD : PyData → Bool
  | .int _ => true
  | .bool _ => true
  | _ => false
theorem isStr {K : PySem.W.Frag} {H : Hp} {v : V} {d : PyData} (h : Dp K H v d) : PySem.W.kitOne K (.type (tyN d)) (.type "str") = some (isStrD d) :=
  isD K "str" isStrD (by decide +kernel) (fun _ => (by decide +kernel : kitB "bool" "str" = some false)) (fun _ => (by decide +kernel : kitB "int" "str" = some false)) (fun _ => (by decide +kernel : kitB "str" "str" = some true)) (fun _ => (by decide +kernel : kitB "list" "str" = some false)) (fun _ => (by decide +kernel : kitB "tuple" "str" = some false)) h
theorem isTup {K : PySem.W.Frag} {H : Hp} {v : V} {d : PyData} (h : Dp K H v d) : PySem.W.kitOne K (.type (tyN d)) (.type "tuple") = some (isTupD d) :=
  isD K "tuple" isTupD (by decide +kernel) (fun _ => (by decide +kernel : kitB "bool" "tuple" = some false)) (fun _ => (by decide +kernel : kitB "int" "tuple" = some false)) (fun _ => (by decide +kernel : kitB "str" "tuple" = some false)) (fun _ => (by decide +kernel : kitB "list" "tuple" = some false)) (fun _ => (by decide +kernel : kitB "tuple" "tuple" = some true)) h
theorem isLst {K : PySem.W.Frag} {H : Hp} {v : V} {d : PyData} (h : Dp K H v d) : PySem.W.kitOne K (.type (tyN d)) (.type "list") = some (isLstD d) :=
  isD K "list" isLstD (by decide +kernel) (fun _ => (by decide +kernel : kitB "bool" "list" = some false)) (fun _ => (by decide +kernel : kitB "int" "list" = some false)) (fun _ => (by decide +kernel : kitB "str" "list" = some false)) (fun _ => (by decide +kernel : kitB "list" "list" = some true)) (fun _ => (by decide +kernel : kitB "tuple" "list" = some false)) h
theorem isBool {K : PySem.W.Frag} {H : Hp} {v : V} {d : PyData} (h : Dp K H v d) : PySem.W.kitOne K (.type (tyN d)) (.type "bool") = some (isBoolD d) :=
  isD K "bool" isBoolD (by decide +kernel) (fun _ => (by decide +kernel : kitB "bool" "bool" = some true)) (fun _ => (by decide +kernel : kitB "int" "bool" = some false)) (fun _ => (by decide +kernel : kitB "str" "bool" = some false)) (fun _ => (by decide +kernel : kitB "list" "bool" = some false)) (fun _ => (by decide +kernel : kitB "tuple" "bool" = some false)) h
theorem isInt {K : PySem.W.Frag} {H : Hp} {v : V} {d : PyData} (h : Dp K H v d) : PySem.W.kitOne K (.type (tyN d)) (.type "int") = some (isIntD d) :=
  isD K "int" isIntD (by decide +kernel) (fun _ => (by decide +kernel : kitB "bool" "int" = some true)) (fun _ => (by decide +kernel : kitB "int" "int" = some true)) (fun _ => (by decide +kernel : kitB "str" "int" = some false)) (fun _ => (by decide +kernel : kitB "list" "int" = some false)) (fun _ => (by decide +kernel : kitB "tuple" "int" = some false)) h
/-! ### is, is not of truths -/
section
variable {X : Cx}
end
/-! ### walks over a text's signs -/
theorem gw_str {x : Str} {go : Bool} {g : TG} {te : TE} {σ0 : L2.St} {vs : List Nat} {QT QF : Hp → Prop} {H : Hp} (Pv : Nat → Hp → Prop) (h0 : Pv 0 H)
    (hs : ∀ i c H, x.cps.toList[i]? = some c → Pv i H → g (.str ⟨#[c]⟩) σ0 H fun σ2 H2 => wipe σ2 vs = σ0 ∧ te σ2 H2 fun y H3 => ∃ b, y = .bl b ∧ if b = go then Pv (i + 1) H3 else QF H3) (hd : ∀ H, Pv x.cps.toList.length H → QT H) :
    ∃ W : Nat → Nat → Hp → Prop, (∃ m, W 0 m H) ∧ GWalk go (Its x) g te σ0 vs QT QF W := by
  have hl : x.cps.toList.length = x.cps.size := by simp
  refine ⟨fun i m H => i ≤ x.cps.size ∧ m = x.cps.size - i ∧ Pv i H, ⟨_, Nat.zero_le _, rfl, h0⟩, ?_⟩
  rintro i m H ⟨hi, rfl, hp⟩
  by_cases e : i = x.cps.size
  · exact .inl ⟨by show x.cps.size ≤ i; omega, hd H (by rw [hl, ← e]; exact hp)⟩
  · refine .inr ⟨by show i < x.cps.size; omega, Pv (i + 1), fun H' hq => ⟨_, by omega, by omega, rfl, hq⟩, fun v H' hy => ?_⟩
    obtain ⟨rfl, c, hc, rfl⟩ := hy
    exact hs i c _ (by rw [Array.getElem?_toList]; exact hc) hp
theorem lc_str {x : Str} {g : TG} {tt : TT} {te : TE} {vs : List Nat} {σ : L2.St} {H1 : Hp} {D : Addr} {Qd : Hp → Prop} (Pv : Nat → Hp → Prop) (h0 : Pv 0 (upd H1 D (.lst [])))
    (hs : ∀ i c H, x.cps.toList[i]? = some c → Pv i H → g (.str ⟨#[c]⟩) (wipe σ vs) H fun σ2 H2 => wipe σ2 vs = wipe σ vs ∧ tt σ2 H2 fun b H3 => if b = true then te σ2 H3 fun y H4 => ∃ acc, H4 D = some (.lst acc) ∧ acc.length < sizeLine ∧ Pv (i + 1) (upd H4 D (.lst (acc ++ [y]))) else Pv (i + 1) H3)
    (hd : ∀ H, Pv x.cps.toList.length H → Qd H) : ∃ W : Nat → Nat → Hp → Prop, (∃ m, W 0 m (upd H1 D (.lst []))) ∧ ∀ i m H, W i m H →
      ((Its x).stop i H ∧ Qd H) ∨ ((Its x).go i H ∧ ∃ Nx : Hp → Prop, (∀ H', Nx H' → ∃ m', m' < m ∧ W (i + 1) m' H') ∧ ∀ v H', (Its x).yld i H v H' → g v (wipe σ vs) H' fun σ2 H2 => wipe σ2 vs = wipe σ vs ∧ tt σ2 H2 fun b H3 =>
        if b = true then te σ2 H3 fun y H4 => ∃ acc, H4 D = some (.lst acc) ∧ acc.length < sizeLine ∧ Nx (upd H4 D (.lst (acc ++ [y]))) else Nx H3) := by
  have hl : x.cps.toList.length = x.cps.size := by simp
  refine ⟨fun i m H => i ≤ x.cps.size ∧ m = x.cps.size - i ∧ Pv i H, ⟨_, Nat.zero_le _, rfl, h0⟩, ?_⟩
  rintro i m H ⟨hi, rfl, hp⟩
  by_cases e : i = x.cps.size
  · exact .inl ⟨by show x.cps.size ≤ i; omega, hd H (by rw [hl, ← e]; exact hp)⟩
  · refine .inr ⟨by show i < x.cps.size; omega, Pv (i + 1), fun H' hq => ⟨_, by omega, by omega, rfl, hq⟩, fun v H' hy => ?_⟩
    obtain ⟨rfl, c, hc, rfl⟩ := hy
    exact hs i c _ (by rw [Array.getElem?_toList]; exact hc) hp
/-! ### t * k of a tuple, of any tuple -/
theorem tuple_mulOne (l : Addr) (items : Array Value) (n : Nat) (dd : Option Addr) (sl : Array (Option Value)) (x : Int) (u : Tok) (c0 : (decide (x < -(2 ^ 63)) || decide (x ≥ 2 ^ 63)) = false) (c1 : (items.isEmpty || x == 1) = true) :
    Meets (Builtin.«tuple.__mul__» ⟨[.ref l, .int x u], []⟩) (fun _ R s => s.heap.get? l = some { cls := .type "tuple", dict := dd, data := .seq items n, slots := sl } ∧ R (.ok (.ret (Value.ref l))) s) :=
  .of_wp fun prog w A R s h => by
    obtain ⟨hp, g, d, tk, os⟩ := s
    obtain ⟨hl, h⟩ := h
    have f1 := AutoSeq1.idx_int
    wp_walk using wpAny_loadPart' hl
    repeat (first
      | (refine wpAny_ite_false (decide_eq_false (by rw [c0]; exact Bool.false_ne_true)) ?_; wp_walk using wpAny_loadPart' hl)
      | (refine wpAny_ite_true (decide_eq_true c1) ?_; wp_walk using wpAny_loadPart' hl))
    exact ⟨_, rfl, h⟩
def rRepA (K : PySem.W.Frag) : R2 := fun x y H Q => ∃ l k xs, x = .ref l ∧ y = .int k ∧ SqT K H l xs ∧ 1 ≤ k ∧ k ≤ 1000 ∧ xs.length ≤ 1000 ∧ ((xs = [] ∨ k = 1) → Q (.ref l) H) ∧ (∀ p, H p = none → Q (.ref p) (upd H p (.tup (List.replicate k.toNat xs).flatten)))
section
variable {X : Cx}
theorem op_repA : OpR X (binaryOp .Mult) (rRepA X.K) := by
  intro pins s σ H x y v u Q I rx ry h
  obtain ⟨l, k, xs, rfl, rfl, hT, h1, h2, hz, q1, q2⟩ := h
  by_cases hc : xs = [] ∨ k = 1
  · cases rx
    obtain ⟨t, rfl⟩ := ry
    obtain ⟨its, r, ⟨⟨cls, dd, data, sl⟩, ho, hcl, n, hd⟩, hs⟩ := I.tuple hT
    simp only at hcl hd
    subst hcl hd
    have hle : its.length = xs.length := r.length.symm
    have c0 : (decide (k < -(2 ^ 63)) || decide (k ≥ 2 ^ 63)) = false := by
      rw [decide_eq_false (by omega), decide_eq_false (by omega)] <;> rfl
    have c1 : (its.toArray.isEmpty || k == 1) = true := by
      rcases hc with hc | hc
      · rw [hc] at hle
        have e := List.eq_nil_of_length_eq_zero hle
        rw [e]
        rfl
      · rw [hc, Bool.or_eq_true]
        exact .inr rfl
    refine wpAny_binaryOp_repeat_ref (T := "tuple") (U := "int") (by decide) ⟨_, ho, rfl⟩ (fun s' => typeIs_int s' k t) noFill_tuple_mul F.fills_int_mul F.slot_int_rmul repeat_tuple F.slot_int_index.lookup
      (call_meets F.slot_int_rmul (typeIs_int s k t) F.entry_int_rmul (F.args_int_rmul_2 _ _) (int_rmul_tuple k t l its.toArray n dd sl)
        ⟨ho, rfl, ⟨_, ho, rfl⟩, call_meets F.slot_tuple_mul ⟨_, ho, rfl⟩ F.entry_tuple_mul (F.args_tuple_mul_2 _ _) (tuple_mulOne l its.toArray n dd sl k t c0 c1) ⟨ho, ?_⟩⟩)
    exact ⟨.ref l, H, I, rfl, q1 hc⟩
  · exact op_repT pins s σ H _ _ v u Q I rx ry ⟨l, k, xs, rfl, rfl, hT, fun e => hc (.inl e), by omega, h2, hz, q2⟩
end
/-! ### a def that holds generator expressions -/
section
variable {P : Program} {w : World} {K : PySem.W.Frag} {mg : Str → Option Value} {base : Heap}
structure DefTab (K : PySem.W.Frag) (mg : Str → Option Value) (base : Heap) (x : Str) (st : Stmt) (ps : List Str) (T : Addr) : Prop where
  ex : ∃ (f : Addr) (oc : Value) (od : Option Addr) (kV doc pm : Value) (an : Option Addr) (c : Addr) (ct : Value) (osl : Array (Option Value)),
    K.lookup f = some ⟨oc, od, .func (PySem.W.fnOf x x (defArgs st) (defBody st) (defScope st) .none kV doc pm an (.ref c) ct), osl⟩ ∧ PySem.W.codeIn K (.ref c) x = true ∧ PySem.W.keepIn K (.ref f) = true ∧ mg x = some (.ref f) ∧
      Binds K (PySem.W.fnOf x x (defArgs st) (defBody st) (defScope st) .none kV doc pm an (.ref c) ct) ps [] ∧ GxR.TabB base mg c T
theorem DefTab.ok {x : Str} {st : Stmt} {N ps : List Str} {k : Nat} {sp : Sp} {T : Addr} (F : DefTab K mg base x st ps T) (S : FnScope N ps (defScope st)) (len : ∀ vs H Q E, sp vs H Q E → vs.length = ps.length)
    (hbody : ∀ (f c : Addr) (A : Around) (outer : List Env) (s : Shared) (H : Hp) (vs : List V) (Q : VK) (E : XK), GxR.TabB base mg c T → Room k (A.deeper (envOfC x (defScope st) s.heap.objs.size f (.ref c))) → sp vs H Q E →
      ∃ t, PSs (cxOf CX0 P w K mg base N x (defScope st) f (.ref c) A outer s H E).nox (defBody st) t ∧ t { nx := fun _ H' => Q .non H', rt := Q } (start N vs) H) : DefOk P w K mg base x (k + 1) ps sp := by
  obtain ⟨f, oc, od, kV, doc, pm, an, c, ct, osl, lk, hcd, kp, hm, hb, TB⟩ := F.ex
  refine ⟨f, _, fn_of lk hcd S len fun A outer s H vs Q E hr hsp => ?_, hm, kp, hb⟩
  obtain ⟨t, h, q⟩ := hbody f c A outer s H vs Q E TB hr hsp
  exact ⟨t, h.nox, q⟩
end
end Sw
set_option Elab.async false
set_option maxRecDepth 100000
set_option maxHeartbeats 4000000
namespace Sw
open PySem L2 PySem.Spec PyProof.Rows
/-! ### is_sign, is_row -/
def signD : PyData → Bool
  | .str t => signS t
  | _ => false
def rowD : PyData → Bool
  | .tuple ds => ds.all signD
  | _ => false
theorem lt_one (a b : Nat) : decide ([a] < [b]) = decide (a < b) := by
  by_cases h : a < b
  · rw [decide_eq_true h]; exact decide_eq_true (List.Lex.rel h)
  · rw [decide_eq_false h]
    refine decide_eq_false fun z => ?_
    cases z with
    | rel q => exact h q
    | cons q => cases q
section
variable {P : Program} {w : World} {K : PySem.W.Frag} {mg : Str → Option Value} {base : Heap}
abbrev n_is_sign : List Str := ["thing", "letter"]
theorem sc_is_sign : FnScope n_is_sign ["thing"] (defScope s_is_sign) := ⟨rfl, rfl, rfl, by decide +kernel, rfl, by decide +kernel, by decide +kernel⟩
def spIsSign (K : PySem.W.Frag) (T : Addr) : Sp := fun vs H Q _ => ∃ v d, vs = [v] ∧ Dp K H v d ∧ (∀ t, d = .str t → t.length ≤ 1000) ∧ H T = some (TabE T) ∧ Q (.bl (signD d)) H
theorem ok_is_sign {T : Addr} (F : DefTab K mg base "is_sign" s_is_sign ["thing"] T) (b_all : mg "all" = none) (b_isinstance : mg "isinstance" = none) (b_len : mg "len" = none) (b_str : mg "str" = none) (g_ml : ∃ t, mg "_MOST_LETTERS" = some (.int 6 t)) :
    DefOk P w K mg base "is_sign" 2 ["thing"] (spIsSign K T) := by
  obtain ⟨tml, g_ml⟩ := g_ml
  refine F.ok sc_is_sign (fun vs H Q E h => ?_) (fun f c A outer s H vs Q E TB hr h => ?_)
  · obtain ⟨_, _, rfl, _⟩ := h
    rfl
  obtain ⟨v, d, rfl, hd, hl, hT, k⟩ := h
  refine ⟨_, (pss_cons (ps_if (PW.pt (pw_or (pt_not (pt_val (pe_callB call_isi (by rfl) b_isinstance (by decide +kernel) (pa_cons (pv 0) (pa_cons (pe_bltn (v := .ty "str") (by rfl) b_str (by decide +kernel) rfl) pa_nil))))) (pw_or1 (pt_not (pt_chain op_le op_le pe_int (pe_callB call_len_str (by rfl) b_len PySem.boot_len (pa_cons (pv 0) pa_nil)) (pe_glob (v := .int 6) rfl g_ml ⟨_, rfl⟩)))))) (pss_one (ps_ret pe_bl)) pss_nil)
    (pss_one (ps_ret (pe_allG rfl hr rfl b_all sc_is_sign.nd TB rfl (blkOk_by (own := [("letter", 1)]) (N := n_is_sign) (sc := defScope s_is_sign) (by decide +kernel)) ⟨rfl, by decide +kernel, by rfl⟩ (pi_str (pv 0)) (fun _ _ _ _ _ _ _ _ => (pg_name (i := 1) sc_is_sign.nd rfl (Or.inl rfl))) (fun _ _ _ _ _ _ _ _ => (pe_chain op_le_str op_le_str pe_str (pv 1) pe_str)))))), ?_⟩
  refine ⟨v, rfl, v, .ty "str", _, _, _, rfl, .ty _, tyX hd, isStr hd, _, rfl, ?_⟩
  by_cases hs : ∃ t, d = .str t
  · obtain ⟨t, rfl⟩ := hs
    cases hd
    have hlt := hl t rfl
    refine iteF ?_
    refine ⟨_, rfl, t, rfl, szl (by omega), _, _, rfl, rfl, _, rfl, ?_⟩
    have body : decide (1 ≤ t.length) = true → decide (t.length ≤ 6) = true → tGen T (iStr (tVar 0)) (gName 1) (tChain (fun x y H Q => ∃ i j, x = V.str i ∧ y = V.str j ∧ Q (V.bl !decide (j.cps.toList < i.cps.toList)) H)
        (fun x y H Q => ∃ i j, x = V.str i ∧ y = V.str j ∧ Q (V.bl !decide (j.cps.toList < i.cps.toList)) H) (tC (V.str (Str.ofString "a"))) (tVar 1) (tC (V.str (Str.ofString "z")))) [1] true (L2.start n_is_sign [V.str t]) H Q := fun h1 h6 => by
      refine ⟨_, rfl, t, rfl, hT, ?_⟩
      refine gw_str (fun i H' => H' = H ∧ (t.cps.toList.take i).all letter = true) ⟨rfl, by rfl⟩ ?_ ?_
      · rintro i cc H' hc ⟨rfl, ha⟩
        have hgo : ∀ b, b = letter cc → ∃ b_1, V.bl b = V.bl b_1 ∧ if b_1 = true then (H' = H' ∧ (t.cps.toList.take (i + 1)).all letter = true) else Q (.bl (!true)) H' := fun b eb => by
          subst eb
          refine ⟨_, rfl, ?_⟩
          cases e : letter cc with
          | true =>
            rw [if_pos rfl]
            refine ⟨rfl, ?_⟩
            rw [List.take_add_one, hc, List.all_append, ha]
            show (true && (letter cc && true)) = true
            rw [e]
            rfl
          | false =>
            rw [if_neg Bool.false_ne_true]
            have e2 : signS t = false := by
              unfold signS
              have : t.cps.toList.all letter = false := List.all_eq_false.mpr ⟨cc, List.mem_of_getElem? hc, by rw [e]; exact Bool.false_ne_true⟩
              rw [this, Bool.and_false]
            have k2 : Q (.bl (signS t)) H' := k
            rw [e2] at k2
            exact k2
        refine ⟨rfl, _, rfl, _, _, rfl, rfl, _, rfl, ?_⟩
        have ea : (!decide (([cc] : List Nat) < [97])) = decide (97 ≤ cc) := by
          rw [lt_one]
          by_cases q : cc < 97
          · rw [decide_eq_true q, decide_eq_false (by omega)]; rfl
          · rw [decide_eq_false q, decide_eq_true (by omega)]; rfl
        have ez : (!decide (([122] : List Nat) < [cc])) = decide (cc ≤ 122) := by
          rw [lt_one]
          by_cases q : 122 < cc
          · rw [decide_eq_true q, decide_eq_false (by omega)]; rfl
          · rw [decide_eq_false q, decide_eq_true (by omega)]; rfl
        show if (!decide (([cc] : List Nat) < [97])) = true then _ else _
        rw [ea]
        by_cases q : 97 ≤ cc
        · rw [decide_eq_true q, if_pos rfl]
          refine ⟨_, _, rfl, rfl, ?_⟩
          show ∃ b, V.bl (!decide (([122] : List Nat) < [cc])) = V.bl b ∧ _
          rw [ez]
          exact hgo _ (by unfold letter; rw [decide_eq_true q, Bool.true_and])
        · rw [decide_eq_false q, if_neg Bool.false_ne_true]
          exact hgo _ (by unfold letter; rw [decide_eq_false q, Bool.false_and])
      · rintro H' ⟨rfl, ha⟩
        rw [List.take_length] at ha
        have k2 : Q (.bl (signS t)) H' := k
        unfold signS at k2
        rw [h1, h6, ha] at k2
        exact k2
    have e1 : decide ((1 : Int) ≤ (t.length : Int)) = decide (1 ≤ t.length) := by
      by_cases q : 1 ≤ t.length
      · rw [decide_eq_true q, decide_eq_true (by omega)]
      · rw [decide_eq_false q, decide_eq_false (by omega)]
    have e6 : decide ((t.length : Int) ≤ 6) = decide (t.length ≤ 6) := by
      by_cases q : t.length ≤ 6
      · rw [decide_eq_true q, decide_eq_true (by omega)]
      · rw [decide_eq_false q, decide_eq_false (by omega)]
    have no : (decide (1 ≤ t.length) && decide (t.length ≤ 6)) = false → Q (.bl false) H := fun e => by
      have k2 : Q (.bl (signS t)) H := k
      unfold signS at k2
      rw [e] at k2
      exact k2
    rw [e1]
    cases h1 : decide (1 ≤ t.length) with
    | true =>
      rw [if_pos rfl]
      refine ⟨_, _, rfl, rfl, ?_⟩
      show ∃ k, V.bl (decide ((t.length : Int) ≤ 6)) = .bl k ∧ _
      rw [e6]
      cases h6 : decide (t.length ≤ 6) with
      | true => exact ⟨_, rfl, iteF (body h1 h6)⟩
      | false => exact ⟨_, rfl, iteT (no (by rw [h1, h6]; rfl))⟩
    | false =>
      rw [if_neg Bool.false_ne_true]
      exact ⟨_, rfl, iteT (no (by rw [h1]; rfl))⟩
  · have e : isStrD d = false := by cases d <;> first | rfl | exact absurd ⟨_, rfl⟩ hs
    rw [e]
    refine iteT ?_
    have e2 : signD d = false := by cases d <;> first | rfl | exact absurd ⟨_, rfl⟩ hs
    show Q _ _
    rw [← e2]
    exact k
end
end Sw
set_option Elab.async false
set_option maxRecDepth 100000
set_option maxHeartbeats 4000000
namespace Sw
open PySem L2 PySem.Spec PyProof.Rows
/-! ### data of bounded size -/
mutual
def bdD : PyData → Bool
  | .str t => decide (t.length ≤ 1000)
  | .tuple l => decide (l.length ≤ 10000) && bdDs l
  | .list l => decide (l.length ≤ 10000) && bdDs l
  | _ => true
def bdDs : List PyData → Bool
  | [] => true
  | d :: ds => bdD d && bdDs ds
end
theorem bdDs_mem : ∀ {ds : List PyData}, bdDs ds = true → ∀ {d : PyData}, d ∈ ds → bdD d = true
  | [], _, d, h => by cases h
  | x :: ds, h, d, hm => by
    rw [bdDs, Bool.and_eq_true] at h
    rcases List.mem_cons.mp hm with rfl | hm
    · exact h.1
    · exact bdDs_mem h.2 hm
theorem bdTup {ds : List PyData} (h : bdD (.tuple ds) = true) : ds.length ≤ 10000 ∧ bdDs ds = true := by
  rw [bdD, Bool.and_eq_true] at h
  exact ⟨of_decide_eq_true h.1, h.2⟩
/-- a whole number -/
def wholeD (d : PyData) : Bool := isIntD d && !isBoolD d
def StepP (n : Nat) (d : PyData) : Prop := ∃ p : Stp, d = stD p ∧ signS p.1 = true ∧ p.2 < n
def RoomP (n : Nat) (d : PyData) : Prop := ∃ r : Rm, d = rmD r ∧ (∀ p, p ∈ r.2 → signS p.1 = true ∧ p.2 < n) ∧ Inc r.2
section
variable {P : Program} {w : World} {K : PySem.W.Frag} {mg : Str → Option Value} {base : Heap}
abbrev n_is_whole : List Str := ["thing"]
theorem sc_is_whole : FnScope n_is_whole ["thing"] (defScope s_is_whole) := ⟨rfl, rfl, rfl, by decide +kernel, rfl, by decide +kernel, by decide +kernel⟩
def spWhole (K : PySem.W.Frag) : Sp := fun vs H Q _ => ∃ v d, vs = [v] ∧ Dp K H v d ∧ Q (.bl (wholeD d)) H
theorem ok_is_whole (F : DefAt K mg "is_whole" s_is_whole ["thing"]) (b_isinstance : mg "isinstance" = none) (b_int : mg "int" = none) (b_bool : mg "bool" = none) : DefOk P w K mg base "is_whole" 1 ["thing"] (spWhole K) := by
  refine F.ok sc_is_whole (fun vs H Q E h => ?_) (fun f cdv A outer s H vs Q E hr h => ?_)
  · obtain ⟨_, _, rfl, _⟩ := h
    rfl
  obtain ⟨v, d, rfl, hd, k⟩ := h
  refine ⟨_, (pss_one (ps_ret (pe_and (pe_callB call_isi (by rfl) b_isinstance (by decide +kernel) (pa_cons (pv 0) (pa_cons (pe_bltn (v := .ty "int") (by rfl) b_int (by decide +kernel) rfl) pa_nil))) (pe_one (pe_not (pe_callB call_isi (by rfl) b_isinstance (by decide +kernel) (pa_cons (pv 0) (pa_cons (pe_bltn (v := .ty "bool") (by rfl) b_bool (by decide +kernel) rfl) pa_nil)))))))), ?_⟩
  refine ⟨_, rfl, v, .ty "int", _, _, _, rfl, .ty _, tyX hd, isInt hd, ?_⟩
  unfold wholeD at k
  cases e : isIntD d with
  | false =>
    rw [e] at k
    exact ⟨_, rfl, iteF k⟩
  | true =>
    rw [e, Bool.true_and] at k
    exact ⟨_, rfl, iteT ⟨_, rfl, v, .ty "bool", _, _, _, rfl, .ty _, tyX hd, isBool hd, _, rfl, k⟩⟩
end
end Sw
set_option Elab.async false
set_option maxRecDepth 100000
set_option maxHeartbeats 4000000
namespace Sw
open PySem L2 PySem.Spec PyProof.Rows
theorem dpTup2 {K : PySem.W.Frag} {H : Hp} {v : V} {ds : List PyData} (h : Dp K H v (.tuple ds)) : ∃ a xs, v = .ref a ∧ SqT K H a xs ∧ DpAll K H xs ds ∧ xs.length = ds.length := by
  obtain ⟨a, xs, e, h1, h2⟩ := dpTup h
  exact ⟨a, xs, e, h1, h2, dpsLen h2⟩
section
variable {P : Program} {w : World} {K : PySem.W.Frag} {mg : Str → Option Value} {base : Heap}
abbrev n_is_step : List Str := ["thing", "many"]
theorem sc_is_step : FnScope n_is_step ["thing", "many"] (defScope s_is_step) := ⟨rfl, rfl, rfl, by decide +kernel, rfl, by decide +kernel, by decide +kernel⟩
def spStep (K : PySem.W.Frag) (T : Addr) : Sp := fun vs H Q _ => ∃ (v : V) (d : PyData) (n : Nat), vs = [v, .int (n : Int)] ∧ Dp K H v d ∧ bdD d = true ∧ H T = some (TabE T) ∧ ∀ b : Bool, (b = true ↔ StepP n d) → Q (.bl b) H
theorem ok_is_step {T : Addr} (F : DefAt K mg "_is_step" s_is_step ["thing", "many"]) (d_is_sign : DefOk P w K mg base "is_sign" 2 ["thing"] (spIsSign K T)) (d_is_whole : DefOk P w K mg base "is_whole" 1 ["thing"] (spWhole K)) (b_isinstance : mg "isinstance" = none) (b_tuple : mg "tuple" = none) (b_len : mg "len" = none) :
    DefOk P w K mg base "_is_step" 3 ["thing", "many"] (spStep K T) := by
  refine F.ok sc_is_step (fun vs H Q E h => ?_) (fun f cdv A outer s H vs Q E hr h => ?_)
  · obtain ⟨_, _, _, rfl, _⟩ := h
    rfl
  obtain ⟨v, d, n, rfl, hd, hbd, hT, k⟩ := h
  refine ⟨_, (pss_cons (ps_if (PW.pt (pw_or (pt_not (pt_val (pe_callB call_isi (by rfl) b_isinstance (by decide +kernel) (pa_cons (pv 0) (pa_cons (pe_bltn (v := .ty "tuple") (by rfl) b_tuple (by decide +kernel) rfl) pa_nil))))) (pw_or (pt_cmpR op_ne (pe_callB call_len_seq (by rfl) b_len PySem.boot_len (pa_cons (pv 0) pa_nil)) pe_int (nomark _)) (pw_or1 (pt_not (pt_val (pe_callD d_is_sign (hr.mono (by decide)) rfl (pa_cons (pe_ix ix_tup (pv 0) pe_int (fun _ _ => rfl)) pa_nil)))))))) (pss_one (ps_ret pe_bl)) pss_nil)
    (pss_one (ps_ret (pe_and (pe_callD d_is_whole (hr.mono (by decide)) rfl (pa_cons (pe_ix ix_tup (pv 0) pe_int (fun _ _ => rfl)) pa_nil)) (pe_one (pe_chain op_le op_lt pe_int (pe_ix ix_tup (pv 0) pe_int (fun _ _ => rfl)) (pv 1))))))), ?_⟩
  have no : (¬ StepP n d) → Q (.bl false) H := fun h => k false ⟨fun e => (by cases e), fun e => absurd e h⟩
  refine ⟨v, rfl, v, .ty "tuple", _, _, _, rfl, .ty _, tyX hd, isTup hd, _, rfl, ?_⟩
  by_cases ht : ∃ ds, d = .tuple ds
  · obtain ⟨ds, rfl⟩ := ht
    obtain ⟨a, xs, rfl, ha, hxs, hl⟩ := dpTup2 hd
    obtain ⟨hb1, hb2⟩ := bdTup hbd
    refine iteF ?_
    refine ⟨_, rfl, a, xs, rfl, .inr ha, rfl, _, rfl, ?_⟩
    by_cases h2 : ds.length = 2
    · have ne2 : (!decide (V.int (xs.length : Int) = V.int 2)) = false := by rw [hl, h2]; rfl
      obtain ⟨d0, d1, rfl⟩ : ∃ d0 d1, ds = [d0, d1] := by
        match ds, h2 with
        | [d0, d1], _ => exact ⟨d0, d1, rfl⟩
      obtain ⟨x0, x1, rfl⟩ : ∃ x0 x1, xs = [x0, x1] := by
        match xs, hl with
        | [x0, x1], _ => exact ⟨x0, x1, rfl⟩
      cases hxs with
      | cons p0 t =>
        cases t with
        | cons p1 t1 =>
          refine iteF' (by rw [ne2]; decide) ?_
          refine ⟨_, rfl, a, _, 0, _, rfl, rfl, ha, atI_nat (j := 0) rfl, ?_⟩
          refine ⟨x0, d0, rfl, p0, fun t e => ?_, hT, _, rfl, ?_⟩
          · subst e
            have := bdDs_mem hb2 (d := .str t) (by simp)
            rw [bdD] at this
            exact of_decide_eq_true this
          cases e0 : signD d0 with
          | false =>
            refine iteT (no ?_)
            rintro ⟨p, e, h1, h2⟩
            unfold stD at e
            cases e
            rw [show signD (.str p.1) = signS p.1 from rfl, h1] at e0
            cases e0
          | true =>
            refine iteF ?_
            refine ⟨_, rfl, a, _, 1, _, rfl, rfl, ha, atI_nat (j := 1) rfl, ?_⟩
            refine ⟨x1, d1, rfl, p1, _, rfl, ?_⟩
            cases e1 : wholeD d1 with
            | false =>
              refine iteF (no ?_)
              rintro ⟨p, e, h1, h2⟩
              unfold stD at e
              cases e
              cases e1
            | true =>
              obtain ⟨z, rfl⟩ : ∃ z, d1 = .int z := by
                cases d1 <;> first | exact ⟨_, rfl⟩ | cases e1
              cases p1
              refine iteT ?_
              refine ⟨_, rfl, a, _, 1, _, rfl, rfl, ha, atI_nat (j := 1) rfl, _, _, rfl, rfl, _, rfl, ?_⟩
              refine ite2 (fun q => ?_) (fun q => no ?_)
              · have q' : (0 : Int) ≤ z := of_decide_eq_true q
                refine ⟨_, rfl, _, _, rfl, rfl, ?_⟩
                obtain ⟨m, rfl⟩ : ∃ m : Nat, z = (m : Int) := ⟨z.toNat, by omega⟩
                obtain ⟨t, rfl⟩ : ∃ t, d0 = .str t := by
                  cases d0 <;> first | exact ⟨_, rfl⟩ | cases e0
                refine k _ ⟨fun q2 => ⟨(t, m), rfl, e0, by have := of_decide_eq_true q2; show m < n; omega⟩, ?_⟩
                rintro ⟨p, e, h1, h2⟩
                unfold stD at e
                simp only [PyData.tuple.injEq, List.cons.injEq, PyData.str.injEq, PyData.int.injEq] at e
                exact decide_eq_true (by omega)
              · rintro ⟨p, e, h1, h2⟩
                unfold stD at e
                simp only [PyData.tuple.injEq, List.cons.injEq, PyData.str.injEq, PyData.int.injEq] at e
                exact q (decide_eq_true (by omega))
    · have ne2 : (!decide (V.int (xs.length : Int) = V.int 2)) = true := by
        rw [decide_eq_false (fun e => h2 (by have := V.int.inj e; omega))]; rfl
      refine iteT' ne2 (no ?_)
      rintro ⟨p, e, _⟩
      unfold stD at e
      cases e
      exact h2 rfl
  · have e : isTupD d = false := by cases d <;> first | rfl | exact absurd ⟨_, rfl⟩ ht
    rw [e]
    refine iteT (no ?_)
    rintro ⟨p, rfl, _⟩
    exact ht ⟨_, rfl⟩
end
end Sw
set_option Elab.async false
set_option maxRecDepth 100000
set_option maxHeartbeats 4000000
namespace Sw
open PySem L2 PySem.Spec PyProof.Rows
theorem gw_zip {K : PySem.W.Frag} {a b : Addr} {xs ys : List V} {go : Bool} {g : TG} {te : TE} {σ0 : L2.St} {vs : List Nat} {QT QF : Hp → Prop} {H : Hp} (Pv : Nat → Hp → Prop) (h0 : Pv 0 H) (hl : ∀ i H, Pv i H → SqL K H a xs ∧ SqL K H b ys)
    (hs : ∀ i x y T H, xs[i]? = some x → ys[i]? = some y → Pv i H → H T = none → g (.ref T) σ0 (upd H T (.tup [x, y])) fun σ2 H2 => wipe σ2 vs = σ0 ∧ te σ2 H2 fun y H3 => ∃ b, y = .bl b ∧ if b = go then Pv (i + 1) H3 else QF H3) (hd : ∀ i H, (xs.length ≤ i ∨ ys.length ≤ i) → Pv i H → QT H) :
    ∃ W : Nat → Nat → Hp → Prop, (∃ m, W 0 m H) ∧ GWalk go (Itz K a b) g te σ0 vs QT QF W := by
  refine ⟨fun i m H => m = xs.length - i ∧ Pv i H, ⟨xs.length, by simp, h0⟩, ?_⟩
  rintro i m H ⟨rfl, hp⟩
  obtain ⟨hL, hL2⟩ := hl i H hp
  by_cases e : xs.length ≤ i ∨ ys.length ≤ i
  · exact .inl ⟨⟨xs, ys, hL, hL2, e⟩, hd i H e hp⟩
  · have hlt : i < xs.length := by omega
    have hlt2 : i < ys.length := by omega
    refine .inr ⟨⟨xs, ys, xs[i], ys[i], hL, hL2, List.getElem?_eq_getElem hlt, List.getElem?_eq_getElem hlt2⟩, Pv (i + 1), fun H' hq => ⟨_, by omega, rfl, hq⟩, fun x H' hy => ?_⟩
    obtain ⟨T, x, y, rfl, hT, rfl, hx, hy⟩ := hy
    exact hs i x y T H (hx xs hL) (hy ys hL2) hp hT
theorem steps_of {n : Nat} : ∀ {ds : List PyData}, (∀ d, d ∈ ds → StepP n d) → ∃ L : List Stp, ds = L.map stD ∧ ∀ p, p ∈ L → signS p.1 = true ∧ p.2 < n
  | [], _ => ⟨[], rfl, fun p h => by cases h⟩
  | d :: ds, h => by
    obtain ⟨p, e, h1, h2⟩ := h d (by simp)
    obtain ⟨L, e2, h3⟩ := steps_of fun d hd => h d (List.mem_cons_of_mem _ hd)
    refine ⟨p :: L, by rw [List.map_cons, e, e2], fun q hq => ?_⟩
    rcases List.mem_cons.mp hq with rfl | hq
    · exact ⟨h1, h2⟩
    · exact h3 q hq
theorem adj_up : ∀ {l : List Str}, (∀ i x y, l[i]? = some x → l[i + 1]? = some y → SL x y) → l.Pairwise SL
  | [], _ => .nil
  | [x], _ => List.pairwise_singleton _ _
  | x :: y :: l, h => by
    have t := adj_up (l := y :: l) fun i a b ha hb => h (i + 1) a b (by simpa using ha) (by simpa using hb)
    have h0 := h 0 x y rfl rfl
    refine List.pairwise_cons.mpr ⟨fun z hz => ?_, t⟩
    rcases List.mem_cons.mp hz with rfl | hz
    · exact h0
    · exact h0.trans ((List.pairwise_cons.mp t).1 z hz)
theorem up_adj {l : List Str} (h : l.Pairwise SL) (i : Nat) {x y : Str} (hx : l[i]? = some x) (hy : l[i + 1]? = some y) : SL x y := by
  obtain ⟨h1, e1⟩ := List.getElem?_eq_some_iff.mp hx
  obtain ⟨h2, e2⟩ := List.getElem?_eq_some_iff.mp hy
  have := List.pairwise_iff_getElem.mp h i (i + 1) h1 h2 (by omega)
  rw [e1, e2] at this
  exact this
theorem cut_drop1 (xs : List V) : cutV xs (some ((1 : Nat) : Int)) none = xs.drop 1 := by
  unfold cutV
  rw [HT.sIx_nat, HT.sIx_none]
  by_cases h : 1 ≤ xs.length
  · rw [Nat.min_eq_left h, List.take_of_length_le (by rw [List.length_drop]; omega)]
  · have : xs = [] := List.eq_nil_of_length_eq_zero (by omega)
    subst this
    rfl
theorem stD_inj : ∀ {L N : List Stp}, L.map stD = N.map stD → L = N
  | [], [], _ => rfl
  | [], _ :: _, h => by cases h
  | _ :: _, [], h => by cases h
  | (a, b) :: L, (c, d) :: N, h => by
    rw [List.map_cons, List.map_cons] at h
    unfold stD at h
    simp only [List.cons.injEq, PyData.tuple.injEq, PyData.str.injEq, PyData.int.injEq] at h
    obtain ⟨⟨h1, h2, _⟩, h3⟩ := h
    have e := stD_inj (L := L) (N := N) h3
    rw [e, h1, show b = d by omega]
theorem StepP.inj {n : Nat} {p : Stp} (h : StepP n (stD p)) : signS p.1 = true ∧ p.2 < n := by
  obtain ⟨q, e, h1, h2⟩ := h
  unfold stD at e
  simp only [PyData.tuple.injEq, List.cons.injEq, PyData.str.injEq, PyData.int.injEq] at e
  obtain ⟨e1, e2, _⟩ := e
  rw [e1]
  exact ⟨h1, by omega⟩
section
variable {P : Program} {w : World} {K : PySem.W.Frag} {mg : Str → Option Value} {base : Heap}
abbrev n_is_room : List Str := ["thing", "many", "step", "signs", "sign", "_", "later"]
theorem sc_is_room : FnScope n_is_room ["thing", "many"] (defScope s_is_room) := ⟨rfl, rfl, rfl, by decide +kernel, rfl, by decide +kernel, by decide +kernel⟩
def spRoom (K : PySem.W.Frag) (T R : Addr) : Sp := fun vs H Q _ => ∃ (v : V) (d : PyData) (n : Nat), vs = [v, .int (n : Int)] ∧ Dp K H v d ∧ bdD d = true ∧ H T = some (TabE T) ∧ H R = some (TabE R) ∧ ∀ (b : Bool) H', (b = true ↔ RoomP n d) → Same H H' → Q (.bl b) H'
theorem ok_is_room {T R : Addr} (F : DefTab K mg base "_is_room" s_is_room ["thing", "many"] R) (d__is_step : DefOk P w K mg base "_is_step" 3 ["thing", "many"] (spStep K T)) (b_all : mg "all" = none) (b_isinstance : mg "isinstance" = none) (b_tuple : mg "tuple" = none) (b_bool : mg "bool" = none) (b_zip : mg "zip" = none) (b_len : mg "len" = none) :
    DefOk P w K mg base "_is_room" 5 ["thing", "many"] (spRoom K T R) := by
  refine F.ok sc_is_room (fun vs H Q E h => ?_) (fun f c A outer s H vs Q E TB hr h => ?_)
  · obtain ⟨_, _, _, rfl, _⟩ := h
    rfl
  obtain ⟨v, d, n, rfl, hd, hbd, hT, hR, k⟩ := h
  refine ⟨_, (pss_cons (ps_if (PW.pt (pw_or (pt_not (pt_val (pe_callB call_isi (by rfl) b_isinstance (by decide +kernel) (pa_cons (pv 0) (pa_cons (pe_bltn (v := .ty "tuple") (by rfl) b_tuple (by decide +kernel) rfl) pa_nil))))) (pw_or (pt_cmpR op_ne (pe_callB call_len_seq (by rfl) b_len PySem.boot_len (pa_cons (pv 0) pa_nil)) pe_int (nomark _)) (pw_or1 (pt_not (pt_val (pe_callB call_isi (by rfl) b_isinstance (by decide +kernel) (pa_cons (pe_ix ix_tup (pv 0) pe_int (fun _ _ => rfl)) (pa_cons (pe_bltn (v := .ty "bool") (by rfl) b_bool (by decide +kernel) rfl) pa_nil))))))))) (pss_one (ps_ret pe_bl)) pss_nil)
    (pss_cons (ps_if (PW.pt (pw_or (pt_not (pt_val (pe_callB call_isi (by rfl) b_isinstance (by decide +kernel) (pa_cons (pe_ix ix_tup (pv 0) pe_int (fun _ _ => rfl)) (pa_cons (pe_bltn (v := .ty "tuple") (by rfl) b_tuple (by decide +kernel) rfl) pa_nil))))) (pw_or1 (pt_not (pt_val (pe_allG rfl hr rfl b_all sc_is_room.nd TB rfl (blkOk_by (own := [("step", 2)]) (N := n_is_room) (sc := defScope s_is_room) (by decide +kernel)) ⟨rfl, by decide +kernel, by rfl⟩ (pi_tup (pe_ix ix_tup (pv 0) pe_int (fun _ _ => rfl))) (fun _ _ _ _ _ _ _ _ => (pg_name (i := 2) sc_is_room.nd rfl (Or.inl rfl))) (fun _ _ _ _ _ _ _ hr' => (pe_callD d__is_step hr' rfl (pa_cons (pv 2) (pa_cons (pv 1) pa_nil)))))))))) (pss_one (ps_ret pe_bl)) pss_nil)
    (pss_cons (ps_setLc (i := 3) (own := [("sign", 4), ("_", 5)]) (g := gTup K 2 (gCons (gName 4) (gCons (gName 5) gNil))) rfl sc_is_room.nd rfl rfl (sw_true rfl rfl rfl (by decide +kernel)) (pi_tup (pe_ix ix_tup (pv 0) pe_int (fun _ _ => rfl))) (blkOk_by (own := [("sign", 4), ("_", 5)]) (N := n_is_room) (sc := defScope s_is_room) (by decide +kernel)) (fun _ _ _ _ _ => (pg_tup rfl (pgs_cons (pg_name (i := 4) sc_is_room.nd rfl (Or.inl rfl)) (pgs_cons (pg_name (i := 5) sc_is_room.nd rfl (Or.inl rfl)) pgs_nil)))) (fun _ _ _ _ _ => pts_nil) (fun _ _ _ _ _ => (pv 4)))
    (pss_one (ps_ret (pe_allG (g := gTup K 2 (gCons (gName 4) (gCons (gName 6) gNil))) rfl hr rfl b_all sc_is_room.nd TB rfl (blkOk_by (own := [("sign", 4), ("later", 6)]) (N := n_is_room) (sc := defScope s_is_room) (by decide +kernel)) ⟨rfl, by decide +kernel, by rfl⟩ (pi_zip (by rfl) b_zip (pa_cons (pv 3) (pa_cons (pe_slice sl_list (pv 3) (po_some pe_int) po_none) pa_nil))) (fun _ _ _ _ _ _ _ _ => (pg_tup rfl (pgs_cons (pg_name (i := 4) sc_is_room.nd rfl (Or.inl rfl)) (pgs_cons (pg_name (i := 6) sc_is_room.nd rfl (Or.inl rfl)) pgs_nil)))) (fun _ _ _ _ _ _ _ hr' => (pe_cmpR op_lt_str (pv 4) (pv 6) (nomark _))))))))), ?_⟩
  have no : ∀ H', Same H H' → (¬ RoomP n d) → Q (.bl false) H' := fun H' s h => k false H' ⟨fun e => (by cases e), fun e => absurd e h⟩ s
  refine ⟨v, rfl, v, .ty "tuple", _, _, _, rfl, .ty _, tyX hd, isTup hd, _, rfl, ?_⟩
  by_cases ht : ∃ ds, d = .tuple ds
  · obtain ⟨ds, rfl⟩ := ht
    obtain ⟨a, xs, rfl, ha, hxs, hl⟩ := dpTup2 hd
    obtain ⟨hb1, hb2⟩ := bdTup hbd
    refine iteF ?_
    refine ⟨_, rfl, a, xs, rfl, .inr ha, rfl, _, rfl, ?_⟩
    by_cases h2 : ds.length = 2
    · have ne2 : (!decide (V.int (xs.length : Int) = V.int 2)) = false := by rw [hl, h2]; rfl
      obtain ⟨d0, d1, rfl⟩ : ∃ d0 d1, ds = [d0, d1] := by
        match ds, h2 with
        | [d0, d1], _ => exact ⟨d0, d1, rfl⟩
      obtain ⟨x0, x1, rfl⟩ : ∃ x0 x1, xs = [x0, x1] := by
        match xs, hl with
        | [x0, x1], _ => exact ⟨x0, x1, rfl⟩
      cases hxs with
      | cons p0 t =>
        cases t with
        | cons p1 t1 =>
          refine iteF' (by rw [ne2]; decide) ?_
          refine ⟨_, rfl, a, _, 0, _, rfl, rfl, ha, atI_nat (j := 0) rfl, ?_⟩
          refine ⟨x0, .ty "bool", _, _, _, rfl, .ty _, tyX p0, isBool p0, _, rfl, ?_⟩
          cases e0 : isBoolD d0 with
          | false =>
            refine iteT (no H (Same.refl _) ?_)
            rintro ⟨r, e, _, _⟩
            unfold rmD at e
            cases e
            cases e0
          | true =>
            refine iteF ?_
            obtain ⟨bb, rfl⟩ : ∃ bb, d0 = .bool bb := by
              cases d0 <;> first | exact ⟨_, rfl⟩ | cases e0
            refine ⟨_, rfl, a, _, 1, _, rfl, rfl, ha, atI_nat (j := 1) rfl, ?_⟩
            refine ⟨x1, .ty "tuple", _, _, _, rfl, .ty _, tyX p1, isTup p1, _, rfl, ?_⟩
            by_cases h1 : ∃ es, d1 = .tuple es
            · obtain ⟨es, rfl⟩ := h1
              refine iteF ?_
              obtain ⟨b, ys, rfl, hb, hys, hyl⟩ := dpTup2 p1
              have hbe := bdDs_mem hb2 (d := .tuple es) (by simp)
              obtain ⟨hbe1, hbe2⟩ := bdTup hbe
              refine ⟨_, rfl, a, _, 1, _, rfl, rfl, ha, atI_nat (j := 1) rfl, b, rfl, ⟨_, hb⟩, hR, ?_⟩
              refine gw_tup (K := K) (a := b) (xs := ys) (fun i H' => Same H H' ∧ ∀ d, d ∈ es.take i → StepP n d) ⟨.refl _, fun d h => (by simp at h)⟩ (fun i H' _ ⟨g, _⟩ => g.sqT hb) ?_ ?_
              · rintro i x H1 hx ⟨s1, hall⟩
                obtain ⟨e, he, pe⟩ := dpsAtV hys hx
                refine ⟨rfl, _, rfl, _, rfl, x, e, n, rfl, dpS s1 pe, bdDs_mem hbe2 (List.mem_of_getElem? he), s1 _ _ hT, fun b hb' => ⟨_, rfl, ?_⟩⟩
                cases eb : b with
                | true =>
                  rw [if_pos rfl]
                  refine ⟨s1, fun d hd => ?_⟩
                  rw [take_snoc he] at hd
                  rcases List.mem_append.mp hd with hd | hd
                  · exact hall d hd
                  · rw [List.mem_singleton.mp hd]
                    exact hb'.mp eb
                | false =>
                  rw [if_neg (by decide)]
                  refine ⟨_, rfl, iteT (no H1 s1 ?_)⟩
                  rintro ⟨r, e', h1, h2⟩
                  unfold rmD at e'
                  simp only [PyData.tuple.injEq, List.cons.injEq] at e'
                  obtain ⟨_, e2, _⟩ := e'
                  rw [e2] at he
                  have hm := List.mem_of_getElem? he
                  obtain ⟨p, hp, rfl⟩ := List.mem_map.mp hm
                  have := hb'.mpr ⟨p, rfl, h1 p hp⟩
                  rw [eb] at this
                  cases this
              · rintro H1 ⟨s1, hall⟩
                rw [hyl, List.take_length] at hall
                obtain ⟨L, rfl, hL⟩ := steps_of hall
                rw [List.length_map] at hbe1
                refine ⟨_, rfl, iteF ?_⟩
                refine ⟨_, rfl, a, _, 1, _, rfl, rfl, s1.sqT ha, atI_nat (j := 1) rfl, b, rfl, ⟨_, s1.sqT hb⟩, fun D nD => ?_⟩
                refine lc_tup (K := K) (a := b) (xs := ys) (fun i H' => Same H1 H' ∧ H' D = some (.lst (((L.take i).map (·.1)).map V.str))) ⟨.new nD, upd_same⟩ (fun i H' _ ⟨g, _⟩ => (s1.trans g).sqT hb) ?_ ?_
                · rintro i x H2 hx ⟨s2, hD⟩
                  obtain ⟨p, pa, hp, rfl, hpa⟩ := stsAt (dpsS (s1.trans s2) hys) hx
                  refine ⟨pa, _, rfl, hpa, rfl, _, _, rfl, _, _, rfl, rfl, rfl, ?_⟩
                  refine ⟨_, rfl, _, hD, szb (by simp only [List.length_map, List.length_take]; omega), s2.mut nD, ?_⟩
                  rw [upd_same, take_snoc hp, List.map_append, List.map_append]
                  rfl
                · rintro H2 ⟨s2, hD⟩
                  rw [hyl, List.length_map, List.take_length] at hD
                  have s12 := s1.trans s2
                  refine ⟨_, rfl, _, rfl, 1, rfl, D, _, rfl, sL hD, fun p np => ?_⟩
                  rw [show (1 : Int) = ((1 : Nat) : Int) from rfl, cut_drop1]
                  have sp : Same H2 (upd H2 p (.lst (((L.map (·.1)).map V.str).drop 1))) := .new np
                  have s13 := s12.trans sp
                  have hp : (upd H2 p (.lst (((L.map (·.1)).map V.str).drop 1))) p = some (.lst (((L.map (·.1)).map V.str).drop 1)) := upd_same
                  refine ⟨D, p, _, _, rfl, sL (sp _ _ hD), sL hp, s13 _ _ hR, ?_⟩
                  have fin : ∀ (b : Bool) H', Same H H' → (b = true ↔ (L.map (·.1)).Pairwise SL) → Q (.bl b) H' := fun b H' s h => k b H' (by
                    rw [h]
                    refine ⟨fun q => ⟨(bb, L), rfl, hL, q⟩, ?_⟩
                    rintro ⟨r, e', _, q⟩
                    unfold rmD at e'
                    simp only [PyData.tuple.injEq, List.cons.injEq] at e'
                    have e2 : L = r.2 := stD_inj (by simpa using e'.2.1)
                    rw [e2]
                    exact q) s
                  refine gw_zip (K := K) (a := D) (b := p) (xs := (L.map (·.1)).map V.str) (ys := ((L.map (·.1)).map V.str).drop 1) (fun i H' => Same (upd H2 p (.lst (((L.map (·.1)).map V.str).drop 1))) H' ∧ ∀ j, j < i → ∀ x y, (L.map (·.1))[j]? = some x → (L.map (·.1))[j + 1]? = some y → SL x y) ⟨.refl _, fun j h => (by cases h)⟩ (fun i H' ⟨g, _⟩ => ⟨sL (g _ _ (sp _ _ hD)), sL (g _ _ hp)⟩) ?_ ?_
                  · rintro i x y T2 H3 hx hy ⟨s3, hadj⟩ nT
                    rw [List.getElem?_map] at hx
                    rw [List.getElem?_drop, List.getElem?_map, Nat.add_comm] at hy
                    obtain ⟨t, ht, rfl⟩ := Option.map_eq_some_iff.mp hx
                    obtain ⟨u, hu, rfl⟩ := Option.map_eq_some_iff.mp hy
                    have sT2 : Same H3 (upd H3 T2 (.tup [.str t, .str u])) := .new nT
                    refine ⟨T2, _, rfl, sT upd_same, rfl, _, _, rfl, _, _, rfl, rfl, rfl, ?_⟩
                    refine ⟨_, rfl, _, rfl, t, u, rfl, rfl, _, rfl, ?_⟩
                    by_cases q : t.cps.toList < u.cps.toList
                    · rw [if_pos (decide_eq_true q)]
                      refine ⟨s3.trans sT2, fun j hj x y gx gy => ?_⟩
                      by_cases e : j = i
                      · subst e
                        have ex := Option.some.inj (ht.symm.trans gx)
                        have ey := Option.some.inj (hu.symm.trans gy)
                        rw [← ex, ← ey]
                        exact q
                      · exact hadj j (by omega) x y gx gy
                    · rw [if_neg (by rw [decide_eq_false q]; decide)]
                      refine fin false _ (s13.trans (s3.trans sT2)) ⟨fun e => (by cases e), fun h => absurd (up_adj h i ht hu) q⟩
                  · rintro i H3 hi ⟨s3, hadj⟩
                    refine fin true _ (s13.trans s3) ⟨fun _ => adj_up fun j x y hx hy => hadj j ?_ x y hx hy, fun _ => rfl⟩
                    have h1 := (List.getElem?_eq_some_iff.mp hy).1
                    simp only [List.length_map, List.length_drop] at hi h1
                    omega
            · have e : isTupD d1 = false := by cases d1 <;> first | rfl | exact absurd ⟨_, rfl⟩ h1
              rw [e]
              refine iteT (no H (Same.refl _) ?_)
              rintro ⟨r, e', _⟩
              unfold rmD at e'
              simp only [PyData.tuple.injEq, List.cons.injEq] at e'
              exact h1 ⟨_, e'.2.1⟩
    · have ne2 : (!decide (V.int (xs.length : Int) = V.int 2)) = true := by
        rw [decide_eq_false (fun e => h2 (by have := V.int.inj e; omega))]; rfl
      refine iteT' ne2 (no H (Same.refl _) ?_)
      rintro ⟨r, e, _⟩
      unfold rmD at e
      cases e
      exact h2 rfl
  · have e : isTupD d = false := by cases d <;> first | rfl | exact absurd ⟨_, rfl⟩ ht
    rw [e]
    refine iteT (no H (Same.refl _) ?_)
    rintro ⟨p, rfl, _⟩
    exact ht ⟨_, rfl⟩
end
end Sw
set_option Elab.async false
set_option maxRecDepth 100000
set_option maxHeartbeats 4000000
namespace Sw
open PySem L2 PySem.Spec PyProof.Rows
theorem dc_list {K : PySem.W.Frag} {a : Addr} {xs : List V} {g : TG} {tt : TT} {tk tv : TE} {vs : List Nat} {σ : L2.St} {H1 : Hp} {D : Addr} {Qd : Hp → Prop} (Pv : Nat → Hp → Prop) (h0 : Pv 0 (upd H1 D (.dK []))) (hl : ∀ i H, i ≤ xs.length → Pv i H → SqL K H a xs)
    (hs : ∀ i x H, xs[i]? = some x → Pv i H → g x (wipe σ vs) H fun σ2 H2 => wipe σ2 vs = wipe σ vs ∧ tt σ2 H2 fun b H3 => if b = true then tk σ2 H3 fun y H4 => tv σ2 H4 fun z H5 => ∃ kvs k, y = kV k ∧ H5 D = some (.dK kvs) ∧ kvs.length < sizeLine ∧ Pv (i + 1) (upd H5 D (.dK (putK kvs k z))) else Pv (i + 1) H3)
    (hd : ∀ H, Pv xs.length H → Qd H) : ∃ W : Nat → Nat → Hp → Prop, (∃ m, W 0 m (upd H1 D (.dK []))) ∧ ∀ i m H, W i m H →
      ((Itl K a).stop i H ∧ Qd H) ∨ ((Itl K a).go i H ∧ ∃ Nx : Hp → Prop, (∀ H', Nx H' → ∃ m', m' < m ∧ W (i + 1) m' H') ∧ ∀ x H', (Itl K a).yld i H x H' → g x (wipe σ vs) H' fun σ2 H2 => wipe σ2 vs = wipe σ vs ∧ tt σ2 H2 fun b H3 =>
        if b = true then tk σ2 H3 fun y H4 => tv σ2 H4 fun z H5 => ∃ kvs k, y = kV k ∧ H5 D = some (.dK kvs) ∧ kvs.length < sizeLine ∧ Nx (upd H5 D (.dK (putK kvs k z))) else Nx H3) := by
  refine ⟨fun i m H => i ≤ xs.length ∧ m = xs.length - i ∧ Pv i H, ⟨xs.length, Nat.zero_le _, by simp, h0⟩, ?_⟩
  rintro i m H ⟨hi, rfl, hp⟩
  have hL := hl i H hi hp
  by_cases e : i = xs.length
  · exact .inl ⟨⟨xs, hL, by omega⟩, hd H (by rw [← e]; exact hp)⟩
  · have hlt : i < xs.length := by omega
    refine .inr ⟨⟨xs, xs[i], hL, List.getElem?_eq_getElem hlt⟩, Pv (i + 1), fun H' hq => ⟨_, by omega, hlt, rfl, hq⟩, fun x H' hy => ?_⟩
    obtain ⟨rfl, hx⟩ := hy
    exact hs i x _ (hx xs hL) hp
section
variable {X : Cx} {i : Nat} {y : Str} {py pos spos : Pos} {kx vx tg iter : Expr} {ifs : List Expr} {scope : Scope} {own : List (Str × Nat)} {wi : TI} {g : TG} {tt : TT} {tk tv : TE}
theorem swD_true {l : Nat} {gs : List Comprehension} {env : Env} (h1 : env.scope.kind = .function) (h2 : env.scope.names.lookup y = some .local) (h3 : (py.line == pos.line) = true) (h4 : (scope.names.any fun (n, k) => n == y && (k == .local || k == .cell)) = false) :
    swapsWith (.DictComp kx vx gs scope pos) (some (.Name y py)) l env = pure true := by
  have g1 : env.kindOf y = some .local := h2
  have g2 : env.blockKind = .function := by
    unfold Env.blockKind
    rw [h1]
    rfl
  simp only [swapsWith, g1, g2, h4, Expr.pos, h3]
  rfl
theorem ps_setDc (calm : X.calm = true) (nd : X.N.Nodup) (at_ : X.N[i]? = some y) (loc : X.env.scope.names.lookup y = some .local) (sw : swapsWith (.DictComp kx vx [⟨tg, iter, ifs, 0⟩] scope pos) (some (.Name y py)) spos.line X.env = pure true)
    (pi : PI X tg iter wi) (ok : BlkOk X.N X.env.scope scope own) (pg : ∀ (s : Shared) (H : Hp) (C : Addr) (cl : List (Str × Addr)) (fp : List Addr), PG (X.blk s H scope (compEnvC scope cl C X.env) fp) tg g)
    (pt : ∀ (s : Shared) (H : Hp) (C : Addr) (cl : List (Str × Addr)) (fp : List Addr), PTs (X.blk s H scope (compEnvC scope cl C X.env) fp) ifs tt) (pk : ∀ (s : Shared) (H : Hp) (C : Addr) (cl : List (Str × Addr)) (fp : List Addr), PE (X.blk s H scope (compEnvC scope cl C X.env) fp) kx tk)
    (pv : ∀ (s : Shared) (H : Hp) (C : Addr) (cl : List (Str × Addr)) (fp : List Addr), PE (X.blk s H scope (compEnvC scope cl C X.env) fp) vx tv) (fold : ∀ x, foldedSetIterable iter X.env x = pure x := by intro _; rfl) :
    PS X (.Assign [.Name y py] (.DictComp kx vx [⟨tg, iter, ifs, 0⟩] scope pos) spos) (tAsg (tDc wi g tt tk tv (own.map Prod.snd)) (gName i)) := by
  refine ⟨fun pins s σ H D I q0 => ?_⟩
  rw [exec_Assign_Name_used _ _ _ _ sw]
  refine wpAny_bind (wpAny_standAt (wpAny_bind ?_))
  show wpAny _ X.A (do let _ ← comprehension (.DictComp kx vx [⟨tg, iter, ifs, 0⟩] scope pos) scope X.env (firstIterPos [⟨tg, iter, ifs, 0⟩] pos) newDict false (eval iter X.env) (some (assign (.Name y py) X.env))) _ _ s
  have q1 : tDc wi g tt tk tv (own.map Prod.snd) σ H (fun x H1 => gName i x σ H1 D.nx) := q0
  refine wpAny_bind (thn (dc_core (Qf := fun _ s' => SP X pins D .next s') calm nd I pi ok pg pt pk pv fold q1 fun L C s' m H' I' q hn fp => ?_) fun _ s' r => wpAny_pure (wpAny_pure r))
  show wpAny _ _ (assign (.Name y py) X.env (.ref L)) _ _ _
  refine wpAny_assign_Name (store_ok2 (v := V.ref L) I' nd at_ (.inl loc) rfl (fun s2 I2 ⟨a, sb, ha⟩ => ?_) (.inr loc))
  obtain ⟨p0, p1, p2, p3, p4, p5⟩ := fp
  have other : C ≠ a := ha.elim (fun z => by rw [z]; exact p1) fun z e => p4 y a z e.symm
  exact ⟨m, hn.sameBut sb other, fun _ sb3 => ⟨_, H', I2.turned (t' := s2.toks) (fun b o hb e => (sb3.2 b hb).trans e) p0 p1 p3 p4 p5, q⟩⟩
end
/-- what is come to, from first ones -/
structure Rc (E : Nat → List Nat) (n : Nat) (F S A : List Nat) : Prop where
  nd : S.Nodup
  lt : ∀ x, x ∈ S → x < n
  sub : ∀ x, x ∈ A → x ∈ S
  frm : ∀ x, x ∈ F → x ∈ S
  r : ∀ x, x ∈ S → ∃ f, f ∈ F ∧ RT E f x
  cl : ∀ x, x ∈ S → x ∉ A → ∀ y, y ∈ E x → y ∈ S
theorem Rc.start {E : Nat → List Nat} {n : Nat} {F : List Nat} (hF : F.Nodup) (hl : ∀ x, x ∈ F → x < n) : Rc E n F F F :=
  ⟨hF, hl, fun _ h => h, fun _ h => h, fun x h => ⟨x, h, .refl _⟩, fun x h g => absurd h g⟩
theorem Rc.turn {E : Nat → List Nat} {n : Nat} {F S A : List Nat} {x : Nat} (h : Rc E n F S (A ++ [x])) (hE : ∀ y, y ∈ E x → y < n) : Rc E n F (S ++ adds [] S (E x)) (A ++ adds [] S (E x)) := by
  have hx : x ∈ S := h.sub x (by simp)
  refine ⟨adds_nd h.nd, fun y hy => ?_, fun y hy => ?_, fun y hy => List.mem_append_left _ (h.frm y hy), fun y hy => ?_, fun y hy ha z hz => ?_⟩
  · rcases List.mem_append.mp hy with hy | hy
    · exact h.lt y hy
    · exact hE y (adds_mem hy).1
  · rcases List.mem_append.mp hy with hy | hy
    · exact List.mem_append_left _ (h.sub y (List.mem_append_left _ hy))
    · exact List.mem_append_right _ hy
  · rcases List.mem_append.mp hy with hy | hy
    · exact h.r y hy
    · obtain ⟨f, hf, r⟩ := h.r x hx
      exact ⟨f, hf, r.snoc (adds_mem hy).1⟩
  · have hyS : y ∈ S := by
      rcases List.mem_append.mp hy with hy | hy
      · exact hy
      · exact absurd (List.mem_append_right _ hy) ha
    by_cases e : y = x
    · subst e
      rcases adds_all (P0 := []) (T := S) hz with q | q
      · cases q
      · exact q
    · exact List.mem_append_left _ (h.cl y hyS (fun q => by
        rcases List.mem_append.mp q with q | q
        · exact ha (List.mem_append_left _ q)
        · exact e (List.mem_singleton.mp q)) z hz)
theorem Rc.all {E : Nat → List Nat} {n : Nat} {F S : List Nat} (h : Rc E n F S []) : S.length = n ↔ ∀ k, k < n → ∃ f, f ∈ F ∧ RT E f k := by
  have hle : S.length ≤ n := nodup_le h.nd h.lt
  constructor
  · intro e k hk
    refine h.r k ?_
    by_cases q : k ∈ S
    · exact q
    · have : (k :: S).length ≤ n := nodup_le (List.nodup_cons.mpr ⟨q, h.nd⟩) fun x hx => by
        rcases List.mem_cons.mp hx with rfl | hx
        · exact hk
        · exact h.lt x hx
      rw [List.length_cons] at this
      omega
  · intro g
    have hin : ∀ k, k ∈ List.range n → k ∈ S := fun k hk => by
      obtain ⟨f, hf, r⟩ := g k (List.mem_range.mp hk)
      exact RT.closed (p := (· ∈ S)) (fun a b ha hb => h.cl a ha (by simp) b hb) r (h.frm f hf)
    have := nd_le List.nodup_range hin
    rw [List.length_range] at this
    omega
section
variable {P : Program} {w : World} {K : PySem.W.Frag} {mg : Str → Option Value} {base : Heap}
abbrev n_all_come_to : List Str := ["onward", "first", "seen", "number", "ahead"]
theorem sc_all_come_to : FnScope n_all_come_to ["onward", "first"] (defScope s_all_come_to) := ⟨rfl, rfl, rfl, by decide +kernel, rfl, by decide +kernel, by decide +kernel⟩
def EB (B : List (List Nat)) (x : Nat) : List Nat := B.getD x []
def spAllCome : Sp := fun vs H Q _ => ∃ (ol fl : Addr) (as : List Addr) (B : List (List Nat)) (F : List Nat), vs = [.ref ol, .ref fl] ∧ H ol = some (.lst (as.map V.ref)) ∧ Paired (fun a c => H a = some (.lst (natV c))) as B ∧ (∀ c, c ∈ B → ∀ y, y ∈ c → y < B.length) ∧ B.length ≤ 1000 ∧ H fl = some (.lst (natV F)) ∧ F.Nodup ∧ (∀ x, x ∈ F → x < B.length) ∧
  ∀ (b : Bool) H', (b = true ↔ ∀ k, k < B.length → ∃ f, f ∈ F ∧ RT (EB B) f k) → Same H H' → Q (.bl b) H'
theorem ok_all_come_to (F : DefAt K mg "_all_come_to" s_all_come_to ["onward", "first"]) (b_len : mg "len" = none) (b_list : mg "list" = none) : DefOk P w K mg base "_all_come_to" 1 ["onward", "first"] spAllCome := by
  refine F.ok sc_all_come_to (fun vs H Q E h => ?_) (fun f cdv A outer s H vs Q E hr h => ?_)
  · obtain ⟨_, _, _, _, _, rfl, _⟩ := h
    rfl
  obtain ⟨ol, fl, as, B, Fs, rfl, hol, hB, hBm, hBl, hfl, hFn, hFl, k⟩ := h
  have hu := hu_of hr
  have hal := pairedLen hB
  refine ⟨_, (pss_cons (ps_setDc (i := 2) (own := [("number", 3)]) (g := gName 3) rfl sc_all_come_to.nd rfl rfl (swD_true rfl rfl rfl (by decide +kernel)) (pi_list (pv 1)) (blkOk_by (own := [("number", 3)]) (N := n_all_come_to) (sc := defScope s_all_come_to) (by decide +kernel)) (fun _ _ _ _ _ => (pg_name (i := 3) sc_all_come_to.nd rfl (Or.inl rfl))) (fun _ _ _ _ _ => pts_nil) (fun _ _ _ _ _ => pv 3) (fun _ _ _ _ _ => pe_bl))
    (pss_cons (ps_set (i := 4) sc_all_come_to.nd rfl (Or.inl rfl) (pe_callTy call_list_of (by rfl) b_list (by decide +kernel) (pa_cons (pv 1) pa_nil)))
    (pss_cons (ps_while PassesOwn.never (pt_truth (pv 4) (by intro _; rfl)) (pss_one (ps_for PassesOwn.never rfl (pi_list (pe_ix ix_list (pv 0) (pe_bm0 PySem.F.plainAttrs_list PySem.F.slot_list_pop PySem.F.type_list_pop mt_pop (pv 4)) (fun _ _ => rfl))) (pg_name (i := 3) sc_all_come_to.nd rfl (Or.inl rfl))
      (pss_one (ps_if (pt_cmp (pc_dnotin hu (pv 3) (pv 2)) rfl) (pss_cons (ps_dput hu (pv 2) (pv 3) pe_bl rfl)
    (pss_one (ps_expr (pe_bm PySem.F.plainAttrs_list PySem.F.slot_list_append PySem.F.type_list_append mt_append (pv 4) (pa_cons (pv 3) pa_nil))))) pss_nil)))))
    (pss_one (ps_ret (pe_cmpR op_eq (pe_callB call_len_dd (by rfl) b_len PySem.boot_len (pa_cons (pv 2) pa_nil)) (pe_callB call_len_seq (by rfl) b_len PySem.boot_len (pa_cons (pv 0) pa_nil)) (nomark _))))))), ?_⟩
  refine ⟨_, rfl, fl, rfl, ⟨_, sL hfl⟩, fun pd npd => ?_⟩
  refine dc_list (K := K) (a := fl) (xs := natV Fs) (fun j H' => Same H H' ∧ H' pd = some (.dK (pdK (Fs.take j)))) ⟨.new npd, upd_same⟩ (fun j H' _ ⟨g, _⟩ => sL (g _ _ hfl)) ?_ ?_
  · rintro j v H1 hv ⟨s1, hpd⟩
    obtain ⟨x, hx, rfl⟩ := ints_get hv
    have hFle : Fs.length ≤ 1000 := Nat.le_trans (nodup_le hFn hFl) hBl
    refine ⟨rfl, _, rfl, _, .inl (x : Int), rfl, hpd, szb (by rw [pdK_len, List.length_take]; omega), s1.mut npd, ?_⟩
    rw [upd_same, pdK_put, take_snoc hx]
    intro hm
    rw [← List.take_append_drop j Fs, List.drop_eq_getElem_cons (List.getElem?_eq_some_iff.mp hx).1] at hFn
    rw [(List.getElem?_eq_some_iff.mp hx).2] at hFn
    exact (List.nodup_append.mp hFn).2.2 x hm x (by simp) rfl
  rintro H1 ⟨s1, hpd⟩
  rw [ints_len, List.take_length] at hpd
  refine ⟨_, rfl, fl, _, rfl, .inl (sL (s1 _ _ hfl)), fun al nal => ?_⟩
  have npa : al ≠ pd := (ne_of_none hpd nal).symm
  have nalH : H al = none := by
    cases e : H al with
    | none => rfl
    | some o => rw [s1 _ _ e] at nal; cases nal
  have s2 : Same H1 (upd H1 al (.lst (natV Fs))) := .new nal
  have hFle : Fs.length ≤ 1000 := Nat.le_trans (nodup_le hFn hFl) hBl
  refine ⟨fun m σ H' => ∃ (S A : List Nat) (o3 : Option V), σ = [some (.ref ol), some (.ref fl), some (.ref pd), o3, some (.ref al)] ∧ m = 2 * (B.length - S.length) + A.length ∧ Same H H' ∧ H' pd = some (.dK (pdK S)) ∧ H' al = some (.lst (natV A)) ∧ Rc (EB B) B.length Fs S A ∧ A.length ≤ S.length,
    ⟨_, Fs, Fs, none, rfl, rfl, s1.trans s2, s2 _ _ hpd, upd_same, .start hFn hFl, Nat.le_refl _⟩, ?_⟩
  rintro m σ H3 ⟨S, A, o3, rfl, rfl, s3, hpd3, hal3, hR, hAS⟩
  refine ⟨_, rfl, _, .inl ⟨_, sL hal3, rfl⟩, ?_⟩
  have hSl : S.length ≤ B.length := nodup_le hR.nd hR.lt
  rcases List.eq_nil_or_concat A with rfl | ⟨A', x, rfl⟩
  · refine iteF ⟨_, rfl, pd, S.length, rfl, .inl ⟨_, hpd3, pdK_len S⟩, ?_⟩
    refine ⟨_, rfl, ol, _, rfl, .inl (sL (s3 _ _ hol)), rfl, ?_⟩
    refine k _ H3 ?_ s3
    rw [← hR.all, List.length_map, hal]
    constructor
    · intro q
      have := V.int.inj (of_decide_eq_true q)
      omega
    · intro q
      rw [q]
      exact decide_eq_true rfl
  · rw [List.concat_eq_append] at hal3 hR hAS ⊢
    rw [List.length_append, List.length_singleton] at hAS
    refine iteT' (by rw [natV_snoc]; simp) ?_
    have hxS : x ∈ S := hR.sub x (by simp)
    have hxn := hR.lt x hxS
    obtain ⟨ys, hys⟩ : ∃ ys, B[x]? = some ys := ⟨_, List.getElem?_eq_getElem hxn⟩
    obtain ⟨ax, hax, hya⟩ := pairedAtL' hB hys
    have eE : EB B x = ys := by unfold EB; rw [List.getD_eq_getElem?_getD, hys]; rfl
    have hym : ∀ y, y ∈ ys → y < B.length := hBm ys (List.mem_of_getElem? hys)
    have nax : ax ≠ al := ne_of_none hya nalH
    have nol : ol ≠ al := ne_of_none hol nalH
    have addlt : ∀ j, (S ++ adds [] S (ys.take j)).length ≤ B.length := fun j => nodup_le (adds_nd hR.nd) fun y hy => by
      rcases List.mem_append.mp hy with hy | hy
      · exact hR.lt y hy
      · exact hym y (List.mem_of_mem_take (adds_mem hy).1)
    refine ⟨fun σ' H' => ∃ (o3 : Option V), σ' = [some (.ref ol), some (.ref fl), some (.ref pd), o3, some (.ref al)] ∧ Same H H' ∧ H' pd = some (.dK (pdK (S ++ adds [] S ys))) ∧ H' al = some (.lst (natV (A' ++ adds [] S ys))), ?_, ?_⟩
    · rintro σ' H' ⟨o3, rfl, g1, g2, g3⟩
      have hR' : Rc (EB B) B.length Fs (S ++ adds [] S ys) (A' ++ adds [] S ys) := by
        have := hR.turn (by rw [eE]; exact hym)
        rw [eE] at this
        exact this
      have hl' := nodup_le hR'.nd hR'.lt
      rw [List.length_append] at hl'
      refine ⟨_, ?_, S ++ adds [] S ys, A' ++ adds [] S ys, o3, rfl, rfl, g1, g2, g3, hR', by rw [List.length_append, List.length_append]; omega⟩
      rw [List.length_append, List.length_append, List.length_append, List.length_singleton]
      omega
    refine ⟨_, rfl, _, rfl, .inl ⟨rfl, _, .inl (.inl hal3)⟩, al, _, .int (x : Int), rfl, rfl, hal3, by rw [natV_snoc]; simp, ?_⟩
    rw [natV_snoc, List.dropLast_concat]
    have s4 : Same H (upd H3 al (.lst (natV A'))) := s3.mut nalH
    have hpd4 : (upd H3 al (.lst (natV A'))) pd = some (.dK (pdK S)) := by rw [upd_ne npa.symm]; exact hpd3
    have hal4 : (upd H3 al (.lst (natV A'))) al = some (.lst (natV A')) := upd_same
    generalize upd H3 al (.lst (natV A')) = H4 at s4 hpd4 hal4 ⊢
    refine ⟨ol, _, _, _, rfl, rfl, sL (s4 _ _ hol), atI_nat (by rw [List.getElem?_map, hax]; rfl), ax, rfl, ⟨_, sL (s4 _ _ hya)⟩, ?_⟩
    refine for_list (K := K) (a := ax) (xs := natV ys) (fun j σ H' => ∃ (o3 : Option V), σ = [some (.ref ol), some (.ref fl), some (.ref pd), o3, some (.ref al)] ∧ Same H H' ∧ H' pd = some (.dK (pdK (S ++ adds [] S (ys.take j)))) ∧ H' al = some (.lst (natV (A' ++ adds [] S (ys.take j)))))
      ⟨o3, rfl, s4, by simpa [adds] using hpd4, by simpa [adds] using hal4⟩ (fun j σ H' _ ⟨_, _, g, _⟩ => sL (g _ _ hya)) ?_ ?_
    · rintro j v σ H5 hv ⟨o3, rfl, s5, hpd5, hal5⟩
      obtain ⟨y, hy, rfl⟩ := ints_get hv
      have hal' := addlt j
      refine ⟨_, rfl, _, rfl, pd, _, rfl, DGet.k (k := .inl (y : Int)) hpd5, _, rfl, ?_⟩
      rw [pdK_get]
      have enext : adds [] S (ys.take (j + 1)) = if y ∈ S ++ adds [] S (ys.take j) then adds [] S (ys.take j) else adds [] S (ys.take j) ++ [y] := by
        rw [take_snoc hy, adds_cons]
        by_cases q : y ∈ S ++ adds [] S (ys.take j)
        · rw [if_pos (.inr q), if_pos q]
        · rw [if_neg (fun z => z.elim (fun q' => by cases q') q), if_neg q]
      refine ite2 (fun hn => ?_) (fun hy' => ?_)
      · have hn' : y ∉ S ++ adds [] S (ys.take j) := by simpa using hn
        rw [if_neg hn'] at enext
        rw [enext]
        refine ⟨_, rfl, _, rfl, pd, _, rfl, DPut.k (k := .inl (y : Int)) hpd5 (szb (by rw [pdK_len]; omega)), ?_⟩
        rw [pdK_put hn']
        have s6 : Same H (upd H5 pd (.dK (pdK (S ++ adds [] S (ys.take j) ++ [y])))) := s5.mut npd
        have hpd6 : (upd H5 pd (.dK (pdK (S ++ adds [] S (ys.take j) ++ [y])))) pd = some (.dK (pdK (S ++ adds [] S (ys.take j) ++ [y]))) := upd_same
        have hal6 : (upd H5 pd (.dK (pdK (S ++ adds [] S (ys.take j) ++ [y])))) al = some (.lst (natV (A' ++ adds [] S (ys.take j)))) := by rw [upd_ne npa]; exact hal5
        generalize upd H5 pd (.dK (pdK (S ++ adds [] S (ys.take j) ++ [y]))) = H6 at s6 hpd6 hal6 ⊢
        rw [List.length_append] at hal'
        refine ⟨_, rfl, .inl ⟨rfl, _, .inl (.inl hal6)⟩, _, rfl, al, _, _, rfl, rfl, hal6, szb (by rw [ints_len, List.length_append]; omega), ?_⟩
        refine ⟨_, rfl, s6.mut nalH, ?_, ?_⟩
        · rw [upd_ne npa.symm, hpd6, List.append_assoc]
        · rw [upd_same, ← natV_snoc, List.append_assoc]
      · have hy2 : y ∈ S ++ adds [] S (ys.take j) := Decidable.of_not_not fun q => hy' (by rw [decide_eq_false q]; rfl)
        rw [if_pos hy2] at enext
        rw [enext]
        exact ⟨_, rfl, s5, hpd5, hal5⟩
    · rintro σ H5 ⟨o3, rfl, s5, hpd5, hal5⟩
      rw [ints_len, List.take_length] at hpd5 hal5
      exact ⟨_, rfl, s5, hpd5, hal5⟩
end
end Sw
set_option Elab.async false
set_option maxRecDepth 100000
set_option maxHeartbeats 8000000
namespace Sw
open PySem L2 PySem.Spec PyProof.Rows
/-! ### len of a set of keys -/
def rLenSK (P : Program) (w : World) : List V → Hp → VK → Prop := fun xs H Q => ∃ (D : Addr) (S : Key → Bool) (n : Nat), xs = [V.ref D] ∧ H D = some (SetK P w D S n) ∧ n ≤ 4095 ∧ Q (.int (n : Int)) H
theorem cr_lenSK {X : Cx} : CallR X (.builtin "len") (rLenSK X.prog X.w) := by
  intro pins s σ H xs us Q I r h
  obtain ⟨D, S, n, rfl, hD, hn, q⟩ := h
  cases r with
  | cons r t =>
    cases t
    cases r
    obtain ⟨o, es, ep, t, ho, hex, hd, _, _, _, hf, hz⟩ := setK_get I hD
    exact call_len_set ho hex hd hf (by rw [hz]; omega) ⟨.int (n : Int), H, I.tok _, ⟨_, by rw [hz]⟩, q⟩
/-! ### machines -/
structure IsM (M : List Rm) : Prop where
  pos : 0 < M.length
  le : M.length ≤ 200
  rm : ∀ r, r ∈ M → (∀ p, p ∈ r.2 → signS p.1 = true ∧ p.2 < M.length) ∧ Inc r.2
  few : (nubL (sgs M)).length ≤ 6
  from0 : ∀ k, k < M.length → RT (Eg M) 0 k
  toEnd : ∀ k, k < M.length → ∃ e, e < M.length ∧ endsOf M e = true ∧ RT (Eg M) k e
def IsMach (d : PyData) : Prop := ∃ M, d = maD M ∧ IsM M
theorem rooms_of {n : Nat} : ∀ {ds : List PyData}, (∀ d, d ∈ ds → RoomP n d) → ∃ M : List Rm, ds = M.map rmD ∧ ∀ r, r ∈ M → (∀ p, p ∈ r.2 → signS p.1 = true ∧ p.2 < n) ∧ Inc r.2
  | [], _ => ⟨[], rfl, fun r h => by cases h⟩
  | d :: ds, h => by
    obtain ⟨r, e, h1, h2⟩ := h d (by simp)
    obtain ⟨M, e2, h3⟩ := rooms_of fun d hd => h d (List.mem_cons_of_mem _ hd)
    refine ⟨r :: M, by rw [List.map_cons, e, e2], fun q hq => ?_⟩
    rcases List.mem_cons.mp hq with rfl | hq
    · exact ⟨h1, h2⟩
    · exact h3 q hq
theorem rmD_inj : ∀ {M N : List Rm}, M.map rmD = N.map rmD → M = N
  | [], [], _ => rfl
  | [], _ :: _, h => by cases h
  | _ :: _, [], h => by cases h
  | (a, b) :: M, (c, d) :: N, h => by
    rw [List.map_cons, List.map_cons] at h
    unfold rmD at h
    simp only [List.cons.injEq, PyData.tuple.injEq, PyData.bool.injEq] at h
    obtain ⟨⟨h1, h2, _⟩, h3⟩ := h
    have e2 : b = d := stD_inj h2
    rw [rmD_inj (M := M) (N := N) h3, h1, e2]
theorem maD_inj {M N : List Rm} (h : maD M = maD N) : M = N := by
  unfold maD at h
  exact rmD_inj (PyData.tuple.inj h)
theorem nub_add (L : List Str) (t : Str) : (nubL (L ++ [t])).length = if t ∈ L then (nubL L).length else (nubL L).length + 1 := by
  rw [nubL_snoc]
  unfold addNew
  by_cases e : t ∈ L
  · rw [if_pos e, if_pos (nubL_mem.mpr e)]
  · rw [if_neg e, if_neg (fun q => e (nubL_mem.mp q)), List.length_append]
    rfl
theorem nub_mono {L L' : List Str} (h : ∀ t, t ∈ L → t ∈ L') : (nubL L).length ≤ (nubL L').length := nd_le (nubL_nd _) fun x hx => nubL_mem.mpr (h x (nubL_mem.mp hx))
theorem sgs_take {M : List Rm} {i : Nat} {t : Str} (h : t ∈ sgs (M.take i)) : t ∈ sgs M := by
  unfold sgs at h ⊢
  obtain ⟨l, hl, ht⟩ := List.mem_flatten.mp h
  obtain ⟨r, hr, rfl⟩ := List.mem_map.mp hl
  exact List.mem_flatten.mpr ⟨_, List.mem_map.mpr ⟨r, List.mem_of_mem_take hr, rfl⟩, ht⟩
/-- the texts of a set -/
def SgK (P : Program) (w : World) (H : Hp) (D : Addr) (L : List Str) : Prop := ∃ S, H D = some (SetK P w D S (nubL L).length) ∧ ∀ k, S k = true ↔ ∃ t, t ∈ L ∧ k = Sum.inr t
theorem SgK.add {P : Program} {w : World} {H : Hp} {D : Addr} {L : List Str} (t : Str) (S : Key → Bool) (h : ∀ k, S k = true ↔ ∃ t, t ∈ L ∧ k = Sum.inr t) :
    SgK P w (upd H D (SetK P w D (fun j => S j || decide (j = Sum.inr t)) (if S (Sum.inr t) = true then (nubL L).length else (nubL L).length + 1))) D (L ++ [t]) := by
  have e : (if S (Sum.inr t) = true then (nubL L).length else (nubL L).length + 1) = (nubL (L ++ [t])).length := by
    rw [nub_add]
    by_cases q : t ∈ L
    · rw [if_pos q, if_pos ((h _).mpr ⟨t, q, rfl⟩)]
    · rw [if_neg q, if_neg (fun z => by
        obtain ⟨u, hu, e⟩ := (h _).mp z
        cases e
        exact q hu)]
  rw [e]
  refine ⟨_, upd_same, fun k => ?_⟩
  rw [Bool.or_eq_true, h k]
  constructor
  · rintro (⟨u, hu, e⟩ | e)
    · exact ⟨u, List.mem_append_left _ hu, e⟩
    · exact ⟨t, by simp, of_decide_eq_true e⟩
  · rintro ⟨u, hu, e⟩
    rcases List.mem_append.mp hu with hu | hu
    · exact .inl ⟨u, hu, e⟩
    · rw [List.mem_singleton.mp hu] at e
      exact .inr (decide_eq_true e)
end Sw
set_option Elab.async false
set_option maxRecDepth 100000
set_option maxHeartbeats 8000000
namespace Sw
open PySem L2 PySem.Spec PyProof.Rows
theorem EB_on (M : List Rm) : EB (M.map fun r => r.2.map (·.2)) = Eg M := by
  funext x
  unfold EB Eg stepsOf
  rw [List.getD_eq_getElem?_getD, List.getD_eq_getElem?_getD, List.getElem?_map]
  cases M[x]? <;> rfl
theorem rt_back {M : List Rm} {B : List (List Nat)} (hB : ∀ (x : Nat) (ys : List Nat), B[x]? = some ys → ∀ y, y ∈ ys ↔ y < M.length ∧ x ∈ Eg M y) {a b : Nat} (h : RT (EB B) a b) : RT (Eg M) b a := by
  induction h with
  | refl a => exact .refl a
  | step e _ ih =>
    rename_i a b c _
    refine ih.trans (.one ?_)
    unfold EB at e
    rw [List.getD_eq_getElem?_getD] at e
    cases q : B[a]? with
    | none => rw [q] at e; cases e
    | some ys =>
      rw [q] at e
      exact ((hB a ys q b).mp e).2
theorem rt_forth {M : List Rm} {B : List (List Nat)} (hl : B.length = M.length) (hE : ∀ k, k < M.length → ∀ j, j ∈ Eg M k → j < M.length) (hB : ∀ (x : Nat) (ys : List Nat), B[x]? = some ys → ∀ y, y ∈ ys ↔ y < M.length ∧ x ∈ Eg M y) {a b : Nat} (h : RT (Eg M) b a) : b < M.length → RT (EB B) a b := by
  induction h with
  | refl a => exact fun _ => .refl a
  | step e _ ih =>
    rename_i a b c _
    intro ha
    have hb := hE a ha b e
    refine (ih hb).snoc ?_
    have q : B[b]? = some (EB B b) := by
      unfold EB
      rw [List.getD_eq_getElem?_getD, List.getElem?_eq_getElem (by omega)]
      rfl
    exact (hB b _ q a).mpr ⟨ha, e⟩
section
variable {P : Program} {w : World} {K : PySem.W.Frag} {mg : Str → Option Value} {base : Heap}
def rLenX (K : PySem.W.Frag) : List V → Hp → VK → Prop := fun xs H Q => ∃ p ys, xs = [V.ref p] ∧ (SqL K H p ys ∨ SqT K H p ys) ∧ Q (V.int ys.length) H
abbrev n_is_machine : List Str := ["thing", "room", "_", "steps", "sign", "onward", "behind", "back", "number", "led_to", "ending", "ends"]
theorem sc_is_machine : FnScope n_is_machine ["thing"] (defScope s_is_machine) := ⟨rfl, rfl, rfl, by decide +kernel, rfl, by decide +kernel, by decide +kernel⟩
abbrev lc2_onward : Scope := { kind := .function, names := [(".0", .local), ("_", .local), ("steps", .local)], isGenerator := false, isCoroutine := false }
def spIsMach (K : PySem.W.Frag) (T R S : Addr) : Sp := fun vs H Q _ => ∃ (v : V) (d : PyData), vs = [v] ∧ Dp K H v d ∧ bdD d = true ∧ (∀ M, d = maD M → (nubL (sgs M)).length ≤ 4000) ∧ H T = some (TabE T) ∧ H R = some (TabE R) ∧ H S = some (TabE S) ∧ ∀ (b : Bool) H', (b = true ↔ IsMach d) → Same H H' → Q (.bl b) H'
theorem ok_is_machine {T R S : Addr} (F : DefTab K mg base "is_machine" s_is_machine ["thing"] S) (d__is_room : DefOk P w K mg base "_is_room" 5 ["thing", "many"] (spRoom K T R)) (d__all_come_to : DefOk P w K mg base "_all_come_to" 1 ["onward", "first"] spAllCome)
    (b_all : mg "all" = none) (b_enumerate : mg "enumerate" = none) (b_isinstance : mg "isinstance" = none) (b_tuple : mg "tuple" = none) (b_len : mg "len" = none) (g_mr : ∃ t, mg "_MOST_ROOMS" = some (.int 200 t)) (g_ms : ∃ t, mg "_MOST_SIGNS" = some (.int 6 t)) :
    DefOk P w K mg base "is_machine" 7 ["thing"] (spIsMach K T R S) := by
  obtain ⟨tmr, g_mr⟩ := g_mr
  obtain ⟨tms, g_ms⟩ := g_ms
  refine F.ok sc_is_machine (fun vs H Q E h => ?_) (fun f c A outer s H vs Q E TB hr h => ?_)
  · obtain ⟨_, _, rfl, _⟩ := h
    rfl
  obtain ⟨v, d, rfl, hd, hbd, hfew, hT, hR, hS, k⟩ := h
  refine ⟨_, (pss_cons (ps_if (PW.pt (pw_or (pt_not (pt_val (pe_callB call_isi (by rfl) b_isinstance (by decide +kernel) (pa_cons (pv 0) (pa_cons (pe_bltn (v := .ty "tuple") (by rfl) b_tuple (by decide +kernel) rfl) pa_nil))))) (pw_or1 (pt_not (pt_chain op_le op_le pe_int (pe_callB call_len_seq (by rfl) b_len PySem.boot_len (pa_cons (pv 0) pa_nil)) (pe_glob (v := .int 200) rfl g_mr ⟨_, rfl⟩)))))) (pss_one (ps_ret pe_bl)) pss_nil)
    (pss_cons (ps_if (pt_not (pt_val (pe_allG rfl hr rfl b_all sc_is_machine.nd TB rfl (blkOk_by (own := [("room", 1)]) (N := n_is_machine) (sc := defScope s_is_machine) (by decide +kernel)) ⟨rfl, by decide +kernel, by rfl⟩ (pi_tup (pv 0)) (fun _ _ _ _ _ _ _ _ => (pg_name (i := 1) sc_is_machine.nd rfl (Or.inl rfl))) (fun _ _ _ _ _ _ _ hr' => (pe_callD d__is_room hr' rfl (pa_cons (pv 1) (pa_cons (pe_callB (r := rLenX K) call_len_seq (by rfl) b_len PySem.boot_len (pa_cons (pv 0) pa_nil)) pa_nil))))))) (pss_one (ps_ret pe_bl)) pss_nil)
    (pss_cons (ps_if (pt_cmpR op_gt (pe_callB cr_lenSK (by rfl) b_len PySem.boot_len (pa_cons (pe_set2 (own := [("_", 2), ("steps", 3), ("sign", 4)]) (wi1 := iTup K (tVar 3)) (vs1 := [4, 2]) (g := gTup K 2 (gCons (gName 2) (gCons (gName 3) gNil))) (g1 := gTup K 2 (gCons (gName 4) (gCons (gName 2) gNil))) rfl sc_is_machine.nd (pi_tup (pv 0)) (blkOk_by (own := [("_", 2), ("steps", 3), ("sign", 4)]) (N := n_is_machine) (sc := defScope s_is_machine) (by decide +kernel)) (by decide)
      (fun _ _ _ _ _ => (pg_tup rfl (pgs_cons (pg_name (i := 2) sc_is_machine.nd rfl (Or.inl rfl)) (pgs_cons (pg_name (i := 3) sc_is_machine.nd rfl (Or.inl rfl)) pgs_nil)))) (fun _ _ _ _ _ => pts_nil) (fun _ _ _ _ _ => pi_tup (pv 3)) (fun _ _ _ _ _ => (pg_tup rfl (pgs_cons (pg_name (i := 4) sc_is_machine.nd rfl (Or.inl rfl)) (pgs_cons (pg_name (i := 2) sc_is_machine.nd rfl (Or.inl rfl)) pgs_nil)))) (fun _ _ _ _ _ => pts_nil) (fun _ _ _ _ _ => (pv 4))) pa_nil)) (pe_glob (v := .int 6) rfl g_ms ⟨_, rfl⟩) (nomark _)) (pss_one (ps_ret pe_bl)) pss_nil)
    (pss_cons (ps_setLc (i := 5) (own := [("_", 2), ("steps", 3)]) (g := gTup K 2 (gCons (gName 2) (gCons (gName 3) gNil))) rfl sc_is_machine.nd rfl rfl (sw_true rfl rfl rfl (by decide +kernel)) (pi_tup (pv 0)) (blkOk_by (own := [("_", 2), ("steps", 3)]) (N := n_is_machine) (sc := defScope s_is_machine) (by decide +kernel)) (fun _ _ _ _ _ => (pg_tup rfl (pgs_cons (pg_name (i := 2) sc_is_machine.nd rfl (Or.inl rfl)) (pgs_cons (pg_name (i := 3) sc_is_machine.nd rfl (Or.inl rfl)) pgs_nil)))) (fun _ _ _ _ _ => pts_nil) (fun _ _ _ _ _ => (pe_lc (wi := iTup K (tVar 3)) (own := [("_", 2), ("behind", 6)]) (g := gTup K 2 (gCons (gName 2) (gCons (gName 6) gNil))) rfl sc_is_machine.nd (pi_tup (pv 3)) (blkOk_by (own := [("_", 2), ("behind", 6)]) (N := n_is_machine) (sc := lc2_onward) (by decide +kernel)) (fun _ _ _ _ _ => (pg_tup rfl (pgs_cons (pg_name (i := 2) sc_is_machine.nd rfl (Or.inl rfl)) (pgs_cons (pg_name (i := 6) sc_is_machine.nd rfl (Or.inl rfl)) pgs_nil)))) (fun _ _ _ _ _ => pts_nil) (fun _ _ _ _ _ => (pv 6)))))
    (pss_cons (ps_setLc (i := 7) (own := [("_", 2)]) (g := gName 2) rfl sc_is_machine.nd rfl rfl (sw_true rfl rfl rfl (by decide +kernel)) (pi_tup (pv 0)) (blkOk_by (own := [("_", 2)]) (N := n_is_machine) (sc := defScope s_is_machine) (by decide +kernel)) (fun _ _ _ _ _ => (pg_name (i := 2) sc_is_machine.nd rfl (Or.inl rfl))) (fun _ _ _ _ _ => pts_nil) (fun _ _ _ _ _ => (pe_lst pa_nil)))
    (pss_cons (ps_for PassesOwn.never rfl (pi_enum (by rfl) b_enumerate (pa_cons (pv 5) pa_nil)) (pg_tup rfl (pgs_cons (pg_name (i := 8) sc_is_machine.nd rfl (Or.inl rfl)) (pgs_cons (pg_name (i := 9) sc_is_machine.nd rfl (Or.inl rfl)) pgs_nil)))
      (pss_one (ps_for PassesOwn.never rfl (pi_list (pv 9)) (pg_name (i := 6) sc_is_machine.nd rfl (Or.inl rfl))
      (pss_one (ps_expr (pe_bm PySem.F.plainAttrs_list PySem.F.slot_list_append PySem.F.type_list_append mt_append (pe_ix ix_list (pv 7) (pv 6) (fun _ _ => rfl)) (pa_cons (pv 8) pa_nil)))))))
    (pss_cons (ps_setLc (i := 10) (own := [("number", 8), ("ends", 11), ("_", 2)]) (g := gTup K 2 (gCons (gName 8) (gCons (gTup K 2 (gCons (gName 11) (gCons (gName 2) gNil))) gNil))) rfl sc_is_machine.nd rfl rfl (sw_true rfl rfl rfl (by decide +kernel)) (pi_enumT (by rfl) b_enumerate (pa_cons (pv 0) pa_nil)) (blkOk_by (own := [("number", 8), ("ends", 11), ("_", 2)]) (N := n_is_machine) (sc := defScope s_is_machine) (by decide +kernel)) (fun _ _ _ _ _ => (pg_tup rfl (pgs_cons (pg_name (i := 8) sc_is_machine.nd rfl (Or.inl rfl)) (pgs_cons (pg_tup rfl (pgs_cons (pg_name (i := 11) sc_is_machine.nd rfl (Or.inl rfl)) (pgs_cons (pg_name (i := 2) sc_is_machine.nd rfl (Or.inl rfl)) pgs_nil))) pgs_nil)))) (fun _ _ _ _ _ => (pts_one (pt_val (pv 11)))) (fun _ _ _ _ _ => (pv 8)))
    (pss_one (ps_ret (pe_and (pe_callD d__all_come_to (hr.mono (by decide)) rfl (pa_cons (pv 5) (pa_cons (pe_lst (pa_cons pe_int pa_nil)) pa_nil))) (pe_one (pe_callD d__all_come_to (hr.mono (by decide)) rfl (pa_cons (pv 7) (pa_cons (pv 10) pa_nil)))))))))))))), ?_⟩
  have no : ∀ H', Same H H' → (¬ IsMach d) → Q (.bl false) H' := fun H' s h => k false H' ⟨fun e => (by cases e), fun e => absurd e h⟩ s
  refine ⟨v, rfl, v, .ty "tuple", _, _, _, rfl, .ty _, tyX hd, isTup hd, _, rfl, ?_⟩
  by_cases ht : ∃ ds, d = .tuple ds
  case neg =>
    have e : isTupD d = false := by cases d <;> first | rfl | exact absurd ⟨_, rfl⟩ ht
    rw [e]
    refine iteT (no H (Same.refl _) ?_)
    rintro ⟨M, rfl, _⟩
    exact ht ⟨_, rfl⟩
  obtain ⟨ds, rfl⟩ := ht
  obtain ⟨ma, rs, rfl, hma, hrs, hl⟩ := dpTup2 hd
  obtain ⟨hb1, hb2⟩ := bdTup hbd
  have noL : (¬ (1 ≤ ds.length ∧ ds.length ≤ 200)) → ¬ IsMach (.tuple ds) := fun h => by
    rintro ⟨M, e, hM⟩
    have e' := PyData.tuple.inj e
    rw [e', List.length_map] at h
    exact h ⟨hM.pos, hM.le⟩
  refine iteF ?_
  refine ⟨_, rfl, ma, _, rfl, .inr hma, _, _, rfl, rfl, _, rfl, ?_⟩
  refine ite2 (fun q1 => ?_) (fun q1 => ?_)
  case refine_2 =>
    refine ⟨_, rfl, iteT (no H (Same.refl _) (noL fun h => q1 (decide_eq_true (by omega))))⟩
  have q1' : (1 : Int) ≤ (rs.length : Int) := of_decide_eq_true q1
  refine ⟨_, _, rfl, rfl, _, rfl, ?_⟩
  by_cases q2 : rs.length ≤ 200
  case neg =>
    rw [decide_eq_false (by omega)]
    exact iteT (no H (Same.refl _) (noL fun h => q2 (by omega)))
  rw [decide_eq_true (show (rs.length : Int) ≤ 200 by omega)]
  refine iteF ?_
  refine ⟨_, rfl, ma, rfl, ⟨_, hma⟩, hS, ?_⟩
  refine gw_tup (K := K) (a := ma) (xs := rs) (fun i H' => Same H H' ∧ ∀ d, d ∈ ds.take i → RoomP ds.length d) ⟨.refl _, fun d h => (by simp at h)⟩ (fun i H' _ ⟨g, _⟩ => g.sqT hma) ?_ ?_
  · rintro i x H1 hx ⟨s1, hall⟩
    obtain ⟨e, he, pe⟩ := dpsAtV hrs hx
    refine ⟨rfl, _, rfl, _, rfl, ma, rs, rfl, .inr (s1.sqT hma), x, e, ds.length, by rw [hl]; rfl, dpS s1 pe, bdDs_mem hb2 (List.mem_of_getElem? he), s1 _ _ hT, s1 _ _ hR, fun b H2 hb' s2 => ⟨_, rfl, ?_⟩⟩
    cases eb : b with
    | true =>
      rw [if_pos rfl]
      refine ⟨s1.trans s2, fun d hd => ?_⟩
      rw [take_snoc he] at hd
      rcases List.mem_append.mp hd with hd | hd
      · exact hall d hd
      · rw [List.mem_singleton.mp hd]
        exact hb'.mp eb
    | false =>
      rw [if_neg (by decide)]
      refine ⟨_, rfl, iteT (no H2 (s1.trans s2) ?_)⟩
      rintro ⟨M, e', hM⟩
      have e2 := PyData.tuple.inj e'
      rw [e2, List.length_map] at hb'
      rw [e2] at he
      have hm := List.mem_of_getElem? he
      obtain ⟨r, hr', rfl⟩ := List.mem_map.mp hm
      have := hb'.mpr ⟨r, rfl, (hM.rm r hr').1, (hM.rm r hr').2⟩
      rw [eb] at this
      cases this
  rintro H1 ⟨s1, hall⟩
  rw [hl, List.take_length] at hall
  obtain ⟨M, rfl, hM⟩ := rooms_of hall
  rw [List.length_map] at hl hM
  rw [List.length_map] at noL
  have hM1 : 1 ≤ M.length := by omega
  have hM2 : M.length ≤ 200 := by omega
  have hSg := hfew M rfl
  refine ⟨_, rfl, iteF ?_⟩
  refine ⟨_, rfl, ma, rfl, ⟨_, s1.sqT hma⟩, fun D nD => ?_⟩
  refine cw_tup (K := K) (a := ma) (xs := rs) (fun i H' => Same H1 H' ∧ SgK P w H' D (sgs (M.take i))) ⟨.new nD, _, upd_same, fun k => ⟨fun h => (by cases h), ?_⟩⟩ (fun i H' _ ⟨g, _⟩ => (s1.trans g).sqT hma) ?_ ?_
  · rintro ⟨t, ht, _⟩
    cases ht
  · rintro i v H2 hv1 ⟨s2, hD⟩
    have hi := (List.getElem?_eq_some_iff.mp hv1).1
    obtain ⟨r, hr'⟩ : ∃ r, M[i]? = some r := ⟨_, List.getElem?_eq_getElem (by omega)⟩
    have s12 := s1.trans s2
    obtain ⟨ra, b, ls, e1, e2, e3, e4⟩ := rmsAt hrs hr'
    have ev : v = .ref ra := by rw [hv1] at e1; exact Option.some.inj e1
    subst ev
    have hls := dpsLen e4
    rw [List.length_map] at hls
    refine ⟨ra, _, rfl, s12.sqT e2, rfl, _, _, rfl, _, _, rfl, rfl, rfl, ?_⟩
    refine ⟨_, rfl, b, rfl, ⟨_, s12.sqT e3⟩, ?_⟩
    refine cw_tup (K := K) (a := b) (xs := ls) (fun j H' => Same H1 H' ∧ SgK P w H' D (sgs (M.take i) ++ (r.2.take j).map Prod.fst)) ⟨s2, by simpa using hD⟩ (fun j H' _ ⟨g, _⟩ => ?_) ?_ ?_
    · exact (s1.trans g).sqT e3
    · rintro j v H3 hv3 ⟨s3, S3, hD3, hS3⟩
      obtain ⟨p, pa, hp, rfl, hpa⟩ := stsAt e4 hv3
      refine ⟨pa, _, rfl, (s1.trans s3).sqT hpa, rfl, _, _, rfl, _, _, rfl, rfl, rfl, ?_⟩
      have hle : (nubL (sgs (M.take i) ++ (r.2.take j).map Prod.fst)).length ≤ 4000 := Nat.le_trans (nub_mono fun t ht => ?_) hSg
      refine ⟨_, rfl, Sum.inr p.1, S3, _, rfl, hD3, by unfold scanBound; omega, s3.mut nD, ?_⟩
      · rw [take_snoc hp, List.map_append, ← List.append_assoc]
        exact SgK.add p.1 S3 hS3
      · rcases List.mem_append.mp ht with ht | ht
        · exact sgs_take ht
        · refine sgs_take (i := i + 1) ?_
          rw [take_snoc hr', sgs_snoc]
          obtain ⟨q, hq, rfl⟩ := List.mem_map.mp ht
          exact List.mem_append_right _ (List.mem_map_of_mem (List.mem_of_mem_take hq))
    · rintro H3 ⟨s3, hD3⟩
      rw [hls, List.take_length, ← sgs_snoc, ← take_snoc hr'] at hD3
      exact ⟨s3, hD3⟩
  rintro H2 ⟨s2, hD⟩
  rw [hl, List.take_length] at hD
  have hdeg : ∀ r, r ∈ M → r.2.length ≤ 10000 := fun r hr => by
    have h1 := bdDs_mem hb2 (List.mem_map_of_mem (f := rmD) hr)
    have h2 := bdDs_mem (bdTup h1).2 (d := .tuple (r.2.map stD)) (by simp)
    have h3 := (bdTup h2).1
    rw [List.length_map] at h3
    exact h3
  obtain ⟨S2, hD2, _⟩ := hD
  refine ⟨D, S2, _, rfl, hD2, by omega, _, _, rfl, rfl, _, rfl, ?_⟩
  have s12 := s1.trans s2
  refine ite2 (fun q => no H2 s12 ?_) (fun q => ?_)
  · rintro ⟨N, e, hN⟩
    have e2 : M = N := maD_inj e
    subst e2
    have := hN.few
    have := of_decide_eq_true q
    omega
  have hf6 : (nubL (sgs M)).length ≤ 6 := by
    have : ¬ (6 : Int) < ((nubL (sgs M)).length : Int) := fun z => q (decide_eq_true z)
    omega
  -- onward
  refine ⟨_, rfl, ma, rfl, ⟨_, s12.sqT hma⟩, fun ol nol => ?_⟩
  refine lc_tup (K := K) (a := ma) (xs := rs) (fun i H' => ∃ as : List Addr, Same H2 H' ∧ H' ol = some (.lst (as.map V.ref)) ∧ ol ∉ as ∧ Paired (fun a c => H' a = some (.lst (natV c))) as ((M.take i).map fun r => r.2.map (·.2))) ⟨[], .new nol, upd_same, by simp, .nil⟩ (fun i H' _ ⟨_, g, _⟩ => (s12.trans g).sqT hma) ?_ ?_
  · rintro i v H3 hv1 ⟨as, s3, hol, noas, has⟩
    have hi := (List.getElem?_eq_some_iff.mp hv1).1
    obtain ⟨r, hr'⟩ : ∃ r, M[i]? = some r := ⟨_, List.getElem?_eq_getElem (by omega)⟩
    have s13 := s12.trans s3
    obtain ⟨ra, b, ls, e1, e2, e3, e4⟩ := rmsAt hrs hr'
    have ev : v = .ref ra := by rw [hv1] at e1; exact Option.some.inj e1
    subst ev
    have hls := dpsLen e4
    rw [List.length_map] at hls
    have hrd := hdeg r (List.mem_of_getElem? hr')
    have hasl := pairedLen has
    rw [List.length_map, List.length_take] at hasl
    refine ⟨ra, _, rfl, s13.sqT e2, rfl, _, _, rfl, _, _, rfl, rfl, rfl, ?_⟩
    refine ⟨_, rfl, b, rfl, ⟨_, s13.sqT e3⟩, fun ll nll => ?_⟩
    have nlo : ll ≠ ol := (ne_of_none hol nll).symm
    refine lc_tup (K := K) (a := b) (xs := ls) (fun j H' => Same H3 H' ∧ H' ll = some (.lst (natV ((r.2.take j).map (·.2))))) ⟨.new nll, upd_same⟩ (fun j H' _ ⟨g, _⟩ => (s13.trans g).sqT e3) ?_ ?_
    · rintro j v H4 hv4 ⟨s4, hll⟩
      obtain ⟨p, pa, hp, rfl, hpa⟩ := stsAt e4 hv4
      refine ⟨pa, _, rfl, (s13.trans s4).sqT hpa, rfl, _, _, rfl, _, _, rfl, rfl, rfl, ?_⟩
      refine ⟨_, rfl, _, hll, szb (by rw [ints_len, List.length_map, List.length_take]; omega), s4.mut nll, ?_⟩
      rw [upd_same, take_snoc hp, List.map_append, ← natV_snoc]
      rfl
    · rintro H4 ⟨s4, hll⟩
      rw [hls, List.take_length] at hll
      refine ⟨_, s4 _ _ hol, szb (by rw [List.length_map]; omega), as ++ [ll], (s3.trans s4).mut nol, by rw [upd_same, List.map_append]; rfl, ?_, ?_⟩
      · intro h
        rcases List.mem_append.mp h with h | h
        · exact noas h
        · exact nlo (List.mem_singleton.mp h).symm
      · rw [take_snoc hr', List.map_append]
        exact pairedApp (pairedMapM has fun a c ha h => by rw [upd_ne (fun e => noas (by rw [← e]; exact ha))]; exact s4 _ _ h) (.cons (by rw [upd_ne nlo]; exact hll) .nil)
  rintro H3 ⟨as, s3, hol, noas, has⟩
  rw [hl, List.take_length] at has
  have s13 := s12.trans s3
  have hasl := pairedLen has
  rw [List.length_map] at hasl
  -- back
  refine ⟨_, rfl, ma, rfl, ⟨_, s13.sqT hma⟩, fun bl nbl => ?_⟩
  refine lc_tup (K := K) (a := ma) (xs := rs) (fun j H' => ∃ bs : List Addr, Same H3 H' ∧ H' bl = some (.lst (bs.map V.ref)) ∧ Paired (fun a c => H' a = some (.lst (natV c))) bs (List.replicate j ([] : List Nat)) ∧ bs.Nodup ∧ bl ∉ bs ∧ (∀ a, a ∈ bs → H3 a = none)) ⟨[], .new nbl, upd_same, .nil, .nil, by simp, fun a h => (by cases h)⟩ (fun j H' _ ⟨_, g, _⟩ => (s13.trans g).sqT hma) ?_ ?_
  · rintro j u H4 hu1 ⟨bs, s4, hbl, hbs, nd, nob, nbs⟩
    have hj := (List.getElem?_eq_some_iff.mp hu1).1
    have hal := pairedLen hbs
    rw [List.length_replicate] at hal
    refine ⟨rfl, ?_⟩
    refine ⟨(by show 0 ≤ sizeLine; decide), fun q nq => ?_⟩
    have sq : Same H4 (upd H4 q (.lst [])) := .new nq
    have nqb : q ≠ bl := (ne_of_none hbl nq).symm
    have nqH : H3 q = none := by
      cases e : H3 q with
      | none => rfl
      | some o => rw [s4 _ _ e] at nq; cases nq
    have nqbs : q ∉ bs := fun h => by
      obtain ⟨i, hi, e⟩ := List.getElem_of_mem h
      obtain ⟨c, hc1, hc2⟩ := pairedAtL hbs (i := i) (a := q) (by rw [List.getElem?_eq_getElem hi, e])
      rw [nq] at hc2
      cases hc2
    refine ⟨_, sq _ _ hbl, szb (by rw [List.length_map]; omega), bs ++ [q], (s4.trans sq).mut nbl, by rw [upd_same, List.map_append]; rfl, ?_, ?_, ?_, ?_⟩
    · rw [List.replicate_succ']
      refine pairedApp ?_ (.cons (by rw [upd_ne nqb, upd_same]; rfl) .nil)
      exact pairedMapM hbs fun a c ha h => by rw [upd_ne (fun e => nob (by rw [← e]; exact ha))]; exact sq _ _ h
    · rw [(List.perm_append_singleton q bs).nodup_iff, List.nodup_cons]
      exact ⟨nqbs, nd⟩
    · intro h
      rcases List.mem_append.mp h with h | h
      · exact nob h
      · exact nqb (List.mem_singleton.mp h).symm
    · intro a ha
      rcases List.mem_append.mp ha with ha | ha
      · exact nbs a ha
      · rw [List.mem_singleton.mp ha]; exact nqH
  rintro H4 ⟨bs, s4, hbl, hbs, nd, nob, nbs⟩
  have hal := pairedLen hbs
  rw [List.length_replicate, hl] at hal
  have s14 := s13.trans s4
  refine ⟨_, rfl, ol, _, rfl, sL (s4 _ _ hol), ?_⟩
  refine for_enum (K := K) (a := ol) (xs := as.map V.ref) (fun i σ H' => ∃ (B : List (List Nat)) (o6 o8 o9 : Option V), σ = [some (.ref ma), none, none, none, none, some (.ref ol), o6, some (.ref bl), o8, o9, none, none] ∧ Same H3 H' ∧ H' bl = some (.lst (bs.map V.ref)) ∧ Paired (fun a c => H' a = some (.lst (natV c))) bs B ∧ ∀ (x : Nat) (ys : List Nat), B[x]? = some ys → ys.length ≤ 10000 * i ∧ ∀ y, y ∈ ys ↔ y < i ∧ x ∈ Eg M y)
    ⟨List.replicate rs.length [], none, none, none, rfl, s4, hbl, hbs, fun x ys h => ?_⟩ (fun i σ H' _ ⟨_, _, _, _, _, g, _⟩ => sL (g _ _ hol)) ?_ ?_
  · have : ys = [] := (List.mem_replicate.mp (List.mem_of_getElem? h)).2
    subst this
    exact ⟨by simp, fun y => ⟨fun h => (by cases h), fun h => absurd h.1 (Nat.not_lt_zero _)⟩⟩
  · rintro i u T5 σ H5 hu1 ⟨B, o6, o8, o9, rfl, s5, hbl5, hB, hBm⟩ nT
    rw [List.getElem?_map] at hu1
    obtain ⟨a, ha, rfl⟩ := Option.map_eq_some_iff.mp hu1
    have hi := (List.getElem?_eq_some_iff.mp ha).1
    obtain ⟨c, hc, hca⟩ := pairedAtL has ha
    rw [List.getElem?_map] at hc
    obtain ⟨r, hr', rfl⟩ := Option.map_eq_some_iff.mp hc
    have hrM := List.mem_of_getElem? hr'
    have hrd := hdeg r hrM
    have hEgi : Eg M i = r.2.map (·.2) := by unfold Eg; rw [stepsOf_at hr']
    have sT' : Same H5 (upd H5 T5 (.tup [.int (i : Nat), .ref a])) := .new nT
    have hT5 : SqT K (upd H5 T5 (.tup [.int (i : Nat), .ref a])) T5 [.int (i : Nat), .ref a] := sT upd_same
    generalize upd H5 T5 (.tup [.int (i : Nat), .ref a]) = H6 at sT' hT5 ⊢
    have s6 := s5.trans sT'
    refine ⟨T5, _, rfl, hT5, rfl, _, _, rfl, _, _, rfl, rfl, ?_⟩
    refine ⟨_, rfl, a, rfl, ⟨_, sL (s6 _ _ hca)⟩, ?_⟩
    refine for_list (K := K) (a := a) (xs := natV (r.2.map (·.2))) (fun j σ H' => ∃ (B : List (List Nat)) (o6 : Option V), σ = [some (.ref ma), none, none, none, none, some (.ref ol), o6, some (.ref bl), some (.int (i : Nat)), some (.ref a), none, none] ∧ Same H3 H' ∧ H' bl = some (.lst (bs.map V.ref)) ∧ Paired (fun a c => H' a = some (.lst (natV c))) bs B ∧ ∀ (x : Nat) (ys : List Nat), B[x]? = some ys → ys.length ≤ 10000 * i + j ∧ ∀ y, y ∈ ys ↔ (y < i ∧ x ∈ Eg M y) ∨ (y = i ∧ x ∈ (r.2.take j).map (·.2)))
      ⟨B, o6, rfl, s6, sT' _ _ hbl5, pairedMap hB fun a c h => sT' _ _ h, fun x ys h => ?_⟩ (fun j σ H' _ ⟨_, _, _, g, _⟩ => sL (g _ _ hca)) ?_ ?_
    · obtain ⟨h1, h2⟩ := hBm x ys h
      refine ⟨by omega, fun y => ?_⟩
      rw [h2 y]
      simp
    · rintro j w' σ H7 hv ⟨B, o6, rfl, s7, hbl7, hB7, hBm7⟩
      obtain ⟨t, ht, rfl⟩ := ints_get hv
      rw [List.getElem?_map] at ht
      obtain ⟨p, hp, rfl⟩ := Option.map_eq_some_iff.mp ht
      have hj := (List.getElem?_eq_some_iff.mp hp).1
      have hpM := List.mem_of_getElem? hp
      have hpn : p.2 < bs.length := by have := ((hM r hrM).1 p hpM).2; omega
      have hBl := pairedLen hB7
      obtain ⟨ba, hba⟩ : ∃ a, bs[p.2]? = some a := ⟨_, List.getElem?_eq_getElem hpn⟩
      obtain ⟨ys, hys, hya⟩ := pairedAtL hB7 hba
      obtain ⟨hyl, hym⟩ := hBm7 p.2 ys hys
      have hbas := List.mem_of_getElem? hba
      refine ⟨_, rfl, _, rfl, bl, _, _, V.ref ba, rfl, rfl, sL hbl7, atI_nat (v := V.ref ba) (by rw [List.getElem?_map, hba]; rfl), .inl ⟨rfl, _, .inl (.inl hya)⟩, _, rfl, ba, _, _, rfl, rfl, hya, szb (by rw [ints_len]; omega), ?_⟩
      rw [show natV ys ++ [V.int ((i : Nat) : Int)] = natV (ys ++ [i]) from (natV_snoc ys i).symm]
      refine ⟨B.set p.2 (ys ++ [i]), _, rfl, s7.mut (nbs ba hbas), by rw [upd_ne (fun e => nob (by rw [e]; exact hbas))]; exact hbl7, pairedSet hB7 nd hba, fun x zs hz => ?_⟩
      by_cases ex : x = p.2
      · subst ex
        rw [List.getElem?_set_self (by omega)] at hz
        have ez : zs = ys ++ [i] := (Option.some.inj hz).symm
        subst ez
        refine ⟨by rw [List.length_append, List.length_singleton]; omega, fun y => ?_⟩
        rw [List.mem_append, hym y, List.mem_singleton, take_snoc hp, List.map_append, List.mem_append]
        simp only [List.map_cons, List.map_nil, List.mem_singleton]
        constructor
        · rintro ((h | h) | h)
          · exact .inl h
          · exact .inr ⟨h.1, .inl h.2⟩
          · exact .inr ⟨h, .inr trivial⟩
        · rintro (h | ⟨h, h' | h'⟩)
          · exact .inl (.inl h)
          · exact .inl (.inr ⟨h, h'⟩)
          · exact .inr h
      · rw [List.getElem?_set_ne (fun e => ex e.symm)] at hz
        obtain ⟨h1, h2⟩ := hBm7 x zs hz
        refine ⟨by omega, fun y => ?_⟩
        rw [h2 y, take_snoc hp, List.map_append, List.mem_append]
        simp only [List.map_cons, List.map_nil, List.mem_singleton]
        constructor
        · rintro (h | h)
          · exact .inl h
          · exact .inr ⟨h.1, .inl h.2⟩
        · rintro (h | ⟨h, h' | h'⟩)
          · exact .inl h
          · exact .inr ⟨h, h'⟩
          · exact absurd h' ex
    · rintro σ H7 ⟨B, o6, rfl, s7, hbl7, hB7, hBm7⟩
      refine ⟨B, _, _, _, rfl, s7, hbl7, hB7, fun x ys h => ?_⟩
      obtain ⟨h1, h2⟩ := hBm7 x ys h
      rw [ints_len, List.length_map, List.take_length, ← hEgi] at h2
      rw [ints_len, List.length_map] at h1
      refine ⟨by omega, fun y => ?_⟩
      rw [h2 y]
      constructor
      · rintro (h | ⟨rfl, h⟩)
        · exact ⟨by omega, h.2⟩
        · exact ⟨by omega, h⟩
      · rintro ⟨g1, g2⟩
        by_cases e : y = i
        · exact .inr ⟨e, by rw [← e]; exact g2⟩
        · exact .inl ⟨by omega, g2⟩
  rintro σ H5 ⟨B, o6, o8, o9, rfl, s5, hbl5, hB, hBm⟩
  rw [List.length_map, hasl] at hBm
  have s15 := s13.trans s5
  have hBl := pairedLen hB
  -- ending
  refine ⟨_, rfl, ma, _, rfl, s15.sqT hma, fun el nel => ?_⟩
  refine lc_enumT (K := K) (a := ma) (xs := rs) (fun i H' => Same H5 H' ∧ H' el = some (.lst (natV ((List.range i).filter (endsOf M))))) ⟨.new nel, upd_same⟩ (fun i H' _ ⟨g, _⟩ => (s15.trans g).sqT hma) ?_ ?_
  · rintro i v T6 H6 hv6 ⟨s6, hel⟩ nT
    have hi := (List.getElem?_eq_some_iff.mp hv6).1
    obtain ⟨r, hr'⟩ : ∃ r, M[i]? = some r := ⟨_, List.getElem?_eq_getElem (by omega)⟩
    obtain ⟨ra, b, ls, e1, e2, e3, e4⟩ := rmsAt hrs hr'
    have ev : v = .ref ra := by rw [hv6] at e1; exact Option.some.inj e1
    subst ev
    have sT' : Same H6 (upd H6 T6 (.tup [.int (i : Nat), .ref ra])) := .new nT
    have hT6 : SqT K (upd H6 T6 (.tup [.int (i : Nat), .ref ra])) T6 [.int (i : Nat), .ref ra] := sT upd_same
    generalize upd H6 T6 (.tup [.int (i : Nat), .ref ra]) = H7 at sT' hT6 ⊢
    have s7 := s6.trans sT'
    have hel7 := sT' _ _ hel
    have hfl : ((List.range i).filter (endsOf M)).length ≤ i := by
      have := List.length_filter_le (endsOf M) (List.range i)
      rw [List.length_range] at this
      exact this
    have et : (List.range (i + 1)).filter (endsOf M) = (List.range i).filter (endsOf M) ++ (if r.1 = true then [i] else []) := by
      rw [List.range_succ, filter_snoc, endsOf_at hr']
    refine ⟨T6, _, rfl, hT6, rfl, _, _, rfl, _, _, rfl, ra, _, rfl, (s15.trans s7).sqT e2, rfl, _, _, rfl, _, _, rfl, rfl, rfl, rfl, ?_⟩
    refine ⟨_, rfl, r.1, rfl, ?_⟩
    cases eb : r.1 with
    | true =>
      rw [eb, if_pos rfl] at et
      refine iteT ⟨_, rfl, _, hel7, szb (by rw [ints_len]; omega), s7.mut nel, ?_⟩
      rw [upd_same, et, natV_snoc]
    | false =>
      rw [eb, if_neg (by decide), List.append_nil] at et
      refine iteF ⟨s7, ?_⟩
      rw [et]
      exact hel7
  rintro H6 ⟨s6, hel⟩
  rw [hl] at hel
  have s16 := s15.trans s6
  have hE : ∀ k, k < M.length → ∀ j, j ∈ Eg M k → j < M.length := fun k hk j hj => by
    unfold Eg at hj
    obtain ⟨p, hp, rfl⟩ := List.mem_map.mp hj
    rw [stepsOf_at (List.getElem?_eq_getElem hk)] at hp
    exact ((hM _ (List.getElem_mem hk)).1 p hp).2
  have hBm' : ∀ (x : Nat) (ys : List Nat), B[x]? = some ys → ∀ y, y ∈ ys ↔ y < M.length ∧ x ∈ Eg M y := fun x ys h => (hBm x ys h).2
  have hEm : ∀ e, e ∈ (List.range M.length).filter (endsOf M) ↔ e < M.length ∧ endsOf M e = true := fun e => by rw [List.mem_filter, List.mem_range]
  have isM : (∀ k, k < M.length → RT (Eg M) 0 k) → (∀ k, k < M.length → ∃ e, e < M.length ∧ endsOf M e = true ∧ RT (Eg M) k e) → IsM M := fun h1 h2 => ⟨hM1, hM2, hM, hf6, h1, h2⟩
  refine ⟨_, rfl, (by show 1 ≤ sizeLine; decide), fun zl nzl => ?_⟩
  have sz : Same H6 (upd H6 zl (.lst [.int 0])) := .new nzl
  have hzl : (upd H6 zl (.lst [.int 0])) zl = some (.lst (natV [0])) := upd_same
  generalize upd H6 zl (.lst [.int 0]) = H7 at sz hzl ⊢
  have s37 := s5.trans (s6.trans sz)
  refine ⟨ol, zl, as, M.map fun r => r.2.map (·.2), [0], rfl, s37 _ _ hol, pairedMap has fun a c h => s37 _ _ h, fun c hc y hy => ?_, by rw [List.length_map]; omega, hzl, by simp, fun x hx => ?_, fun b1 H8 hb1 s8 => ⟨b1, rfl, ?_⟩⟩
  · obtain ⟨r, hr, rfl⟩ := List.mem_map.mp hc
    obtain ⟨p, hp, rfl⟩ := List.mem_map.mp hy
    rw [List.length_map]
    exact ((hM r hr).1 p hp).2
  · rw [List.mem_singleton.mp hx, List.length_map]
    exact hM1
  rw [EB_on, List.length_map] at hb1
  have s18 := s16.trans (sz.trans s8)
  have sub1 : (b1 = true) ↔ ∀ k, k < M.length → RT (Eg M) 0 k := hb1.trans ⟨fun h k hk => by
    obtain ⟨f, hf, r⟩ := h k hk
    rw [List.mem_singleton.mp hf] at r
    exact r, fun h k hk => ⟨0, by simp, h k hk⟩⟩
  cases e1 : b1 with
  | false =>
    refine iteF (no H8 s18 ?_)
    rintro ⟨N, e, hN⟩
    have e2 : M = N := maD_inj e
    subst e2
    have := sub1.mpr hN.from0
    rw [e1] at this
    cases this
  | true =>
    have f0 := sub1.mp e1
    refine iteT ?_
    have s58 := s6.trans (sz.trans s8)
    refine ⟨_, rfl, _, rfl, bl, el, bs, B, _, rfl, s58 _ _ hbl5, pairedMap hB fun a c h => s58 _ _ h, fun c hc y hy => ?_, by omega, (sz.trans s8) _ _ hel, List.nodup_range.filter _, fun x hx => ?_, fun b2 H9 hb2 s9 => ?_⟩
    · obtain ⟨i, hi⟩ := List.getElem?_of_mem hc
      have := ((hBm' i c hi y).mp hy).1
      omega
    · have := ((hEm x).mp hx).1
      omega
    · refine k b2 H9 ?_ (s18.trans s9)
      rw [hb2]
      constructor
      · intro h
        refine ⟨M, rfl, isM f0 fun k hk => ?_⟩
        obtain ⟨f, hf, r⟩ := h k (by omega)
        exact ⟨f, ((hEm f).mp hf).1, ((hEm f).mp hf).2, rt_back hBm' r⟩
      · rintro ⟨N, e, hN⟩ k hk
        have e2 : M = N := maD_inj e
        subst e2
        obtain ⟨f, h1, h2, r⟩ := hN.toEnd k (by omega)
        exact ⟨f, (hEm f).mpr ⟨h1, h2⟩, rt_forth (by omega) hE hBm' r (by omega)⟩
end
end Sw
set_option Elab.async false
set_option maxRecDepth 100000
set_option maxHeartbeats 4000000
namespace Sw
open PySem L2 PySem.Spec PyProof.Rows
/-! ### the least machine from a room: each room has its place -/
section
variable {N : List Rm} {κ ρ : List Nat} {x0 : Nat}
/-- the place of a room -/
def pl (N : List Rm) (κ : List Nat) (x0 x : Nat) : Nat := (orderC N κ (kAt κ x0)).idxOf (kAt κ x)
def On (N : List Rm) (κ : List Nat) (x0 x : Nat) : Prop := x < N.length ∧ kAt κ x ∈ orderC N κ (kAt κ x0)
theorem Bf.ord (h : Bf N κ ρ (kAt κ x0) ρ.length) : ρ.map (kAt κ) = orderC N κ (kAt κ x0) := by
  have := h.bfs
  have e : (ρ.map (kAt κ)).length = ρ.length := List.length_map ..
  rw [← e, bfsC_end] at this
  exact this
theorem ord_nd (h : Bf N κ ρ (kAt κ x0) ρ.length) : (orderC N κ (kAt κ x0)).Nodup := by rw [← h.ord]; exact h.nd
theorem bfsC_pre' {sc : Nat → List Nat} : ∀ {n a : Nat} {O : List Nat}, ∃ B, bfsC sc n a O = O ++ B
  | 0, a, O => ⟨[], by simp [bfsC]⟩
  | n + 1, a, O => by
    cases q : O[a]? with
    | none => exact ⟨[], by rw [bfsC, q]; simp⟩
    | some c =>
      rw [bfsC_turn q]
      obtain ⟨B1, e1⟩ := fold_pre (ks := sc c) (O := O)
      obtain ⟨B2, e2⟩ := bfsC_pre' (sc := sc) (n := n) (a := a + 1) (O := (sc c).foldl addNew O)
      exact ⟨B1 ++ B2, by rw [e2, e1, List.append_assoc]⟩
theorem ord_zero : (orderC N κ (kAt κ x0))[0]? = some (kAt κ x0) := by
  unfold orderC
  obtain ⟨B, e⟩ := bfsC_pre' (sc := succC N κ) (n := 1000) (a := 0) (O := [kAt κ x0])
  rw [e]
  rfl
theorem On.first (hx : x0 < N.length) : On N κ x0 x0 := ⟨hx, List.mem_of_getElem? ord_zero⟩
theorem idx_of_at {O : List Nat} (nd : O.Nodup) {i c : Nat} (h : O[i]? = some c) : O.idxOf c = i := by
  obtain ⟨hi, e⟩ := List.getElem?_eq_some_iff.mp h
  have := nd.idxOf_getElem i hi
  rwa [e] at this
theorem pl_zero (h : Bf N κ ρ (kAt κ x0) ρ.length) : pl N κ x0 x0 = 0 := idx_of_at (ord_nd h) ord_zero
theorem idx_at {O : List Nat} {c : Nat} (h : c ∈ O) : O[O.idxOf c]? = some c := by
  have hl := List.idxOf_lt_length_of_mem h
  rw [List.getElem?_eq_getElem hl]
  congr 1
  exact List.getElem_idxOf hl
theorem On.step (hk : Kd N κ) (h : Bf N κ ρ (kAt κ x0) ρ.length) {x : Nat} (hx : On N κ x0 x) {p : Stp} (hp : p ∈ stepsOf N x) (hpl : p.2 < N.length) : On N κ x0 p.2 := by
  refine ⟨hpl, ?_⟩
  have hm := hx.2
  rw [← h.ord] at hm ⊢
  obtain ⟨y, hy, e⟩ := List.mem_map.mp hm
  obtain ⟨i, hi⟩ := List.getElem?_of_mem hy
  have hst := (hk.stab y x (h.lt y hy) hx.1 e).2
  have h1 : (p.1, kAt κ p.2) ∈ stK N κ x := List.mem_map_of_mem (f := fun p : Stp => (p.1, kAt κ p.2)) hp
  rw [← hst] at h1
  obtain ⟨q, hq, eq⟩ := List.mem_map.mp h1
  have := h.cl i y (List.getElem?_eq_some_iff.mp hi).1 hi q hq
  have e2 : kAt κ q.2 = kAt κ p.2 := (Prod.mk.inj eq).2
  rwa [e2] at this
/-- a room's place in the least machine -/
theorem pl_at (hk : Kd N κ) {x : Nat} (hx : On N κ x0 x) : (leastC N κ (kAt κ x0))[pl N κ x0 x]? = some (endsOf N x, (stepsOf N x).map fun p => (p.1, pl N κ x0 p.2)) := by
  unfold leastC pl
  rw [List.getElem?_map, idx_at hx.2]
  show some (classOut N κ (orderC N κ (kAt κ x0)) (kAt κ x)) = _
  rw [out_of hk hx.1]
theorem least_len : (leastC N κ (kAt κ x0)).length = (orderC N κ (kAt κ x0)).length := List.length_map ..
theorem pl_lt {x : Nat} (hx : On N κ x0 x) : pl N κ x0 x < (leastC N κ (kAt κ x0)).length := by
  rw [least_len]
  exact List.idxOf_lt_length_of_mem hx.2
/-- each place is a room's that is come to from the first -/
theorem cls_reach (hk : Kd N κ) (ht : ∀ x p, p ∈ stepsOf N x → p.2 < N.length) {a c : Nat} (r : RT (succC N κ) a c) : ∀ x, x < N.length → kAt κ x = a → ∃ y, RT (Eg N) x y ∧ kAt κ y = c ∧ y < N.length := by
  induction r with
  | refl a => exact fun x hx e => ⟨x, .refl _, e, hx⟩
  | step e _ ih =>
    rename_i a b c _
    intro x hx ex
    rw [← ex, succ_of hk hx] at e
    obtain ⟨p, hp, ep⟩ := List.mem_map.mp e
    obtain ⟨y, r, ey, hy⟩ := ih p.2 (ht x p hp) ep
    exact ⟨y, .step (List.mem_map_of_mem hp) r, ey, hy⟩
theorem bfsC_reach {sc : Nat → List Nat} {c0 : Nat} : ∀ {n a : Nat} {O : List Nat}, (∀ c, c ∈ O → RT sc c0 c) → ∀ c, c ∈ bfsC sc n a O → RT sc c0 c
  | 0, _, _, h => by intro c hc; exact h c (by simpa [bfsC] using hc)
  | n + 1, a, O, h => by
    cases q : O[a]? with
    | none => intro c hc; rw [bfsC, q] at hc; exact h c hc
    | some d =>
      rw [bfsC_turn q]
      refine bfsC_reach fun c hc => ?_
      rcases fold_mem.mp hc with hc | hc
      · exact h c hc
      · exact (h d (List.mem_of_getElem? q)).snoc hc
theorem pl_onto (hk : Kd N κ) (h : Bf N κ ρ (kAt κ x0) ρ.length) (ht : ∀ x p, p ∈ stepsOf N x → p.2 < N.length) (hx0 : x0 < N.length) {j : Nat} (hj : j < (leastC N κ (kAt κ x0)).length) : ∃ y, On N κ x0 y ∧ pl N κ x0 y = j ∧ RT (Eg N) x0 y := by
  rw [least_len] at hj
  have hc : (orderC N κ (kAt κ x0))[j]? = some (orderC N κ (kAt κ x0))[j] := List.getElem?_eq_getElem hj
  have hr : RT (succC N κ) (kAt κ x0) (orderC N κ (kAt κ x0))[j] := by
    refine bfsC_reach (n := 1000) (a := 0) (O := [kAt κ x0]) (fun c hc => by rw [List.mem_singleton.mp hc]; exact .refl _) _ ?_
    exact List.getElem_mem hj
  obtain ⟨y, r, ey, hy⟩ := cls_reach hk ht hr x0 hx0 rfl
  refine ⟨y, ⟨hy, by rw [ey]; exact List.getElem_mem hj⟩, ?_, r⟩
  unfold pl
  rw [ey]
  exact idx_of_at (ord_nd h) hc
theorem pl_eg (hk : Kd N κ) {x : Nat} (hx : On N κ x0 x) : Eg (leastC N κ (kAt κ x0)) (pl N κ x0 x) = (Eg N x).map (pl N κ x0) := by
  unfold Eg
  rw [stepsOf_at (pl_at hk hx), List.map_map, List.map_map]
  rfl
theorem pl_reach (hk : Kd N κ) (h : Bf N κ ρ (kAt κ x0) ρ.length) (ht : ∀ x p, p ∈ stepsOf N x → p.2 < N.length) {x y : Nat} (r : RT (Eg N) x y) : On N κ x0 x → RT (Eg (leastC N κ (kAt κ x0))) (pl N κ x0 x) (pl N κ x0 y) ∧ On N κ x0 y := by
  induction r with
  | refl a => exact fun hx => ⟨.refl _, hx⟩
  | step e _ ih =>
    rename_i a b c _
    intro hx
    unfold Eg at e
    obtain ⟨p, hp, rfl⟩ := List.mem_map.mp e
    obtain ⟨r, hc⟩ := ih (hx.step hk h hp (ht a p hp))
    refine ⟨.step ?_ r, hc⟩
    rw [pl_eg hk hx]
    exact List.mem_map_of_mem (List.mem_map_of_mem (f := fun q : Stp => q.2) hp)
end
end Sw
set_option Elab.async false
set_option maxRecDepth 100000
set_option maxHeartbeats 4000000
namespace Sw
open PySem L2 PySem.Spec PyProof.Rows
theorem stepsOf_in {M : List Rm} {x : Nat} {p : Stp} (h : p ∈ stepsOf M x) : ∃ r, r ∈ M ∧ p ∈ r.2 := by
  unfold stepsOf at h
  rw [List.getD_eq_getElem?_getD] at h
  cases e : M[x]? with
  | none => rw [e] at h; cases h
  | some r => rw [e] at h; exact ⟨r, List.mem_of_getElem? e, h⟩
theorem nub_le_of {L ss : List Str} (h : ∀ t, t ∈ L → t ∈ ss) : (nubL L).length ≤ ss.length := nd_le (nubL_nd _) fun x hx => h x (nubL_mem.mp hx)
theorem least_isM {N : List Rm} {κ ρ : List Nat} {x0 : Nat} {ss : List Str} (hN : MOk N) (hk : Kd N κ) (h : Bf N κ ρ (kAt κ x0) ρ.length) (hx0 : x0 < N.length) (hs : ∀ t, t ∈ sgs N → signS t = true ∧ t ∈ ss) (h6 : ss.length ≤ 6)
    (hend : ∀ y, RT (Eg N) x0 y → ∃ g, endsOf N g = true ∧ RT (Eg N) y g) : IsM (leastC N κ (kAt κ x0)) := by
  have ht := steps_tgt hN
  have hl : (leastC N κ (kAt κ x0)).length ≤ N.length := by
    rw [least_len, ← h.ord, List.length_map]
    exact h.len
  have on : ∀ {r : Rm}, r ∈ leastC N κ (kAt κ x0) → ∃ y, On N κ x0 y ∧ r = (endsOf N y, (stepsOf N y).map fun p => (p.1, pl N κ x0 p.2)) := fun {r} hr => by
    obtain ⟨j, hj⟩ := List.getElem?_of_mem hr
    obtain ⟨y, hy, ey, _⟩ := pl_onto hk h ht hx0 (List.getElem?_eq_some_iff.mp hj).1
    have := pl_at hk hy
    rw [ey, hj] at this
    exact ⟨y, hy, Option.some.inj this⟩
  have sg : ∀ t, t ∈ sgs (leastC N κ (kAt κ x0)) → t ∈ sgs N := fun t ht => by
    obtain ⟨r, p, hr, hp, rfl⟩ := sgs_mem.mp ht
    obtain ⟨y, hy, rfl⟩ := on hr
    obtain ⟨q, hq, rfl⟩ := List.mem_map.mp hp
    obtain ⟨r, hr, hq'⟩ := stepsOf_in hq
    exact sgs_mem.mpr ⟨r, q, hr, hq', rfl⟩
  refine ⟨?_, by have := hN.le; omega, fun r hr => ⟨fun p hp => ⟨?_, ?_⟩, ?_⟩, Nat.le_trans (nub_le_of fun t ht => (hs t (sg t ht)).2) h6, fun k hk' => ?_, fun k hk' => ?_⟩
  · exact Nat.lt_of_le_of_lt (Nat.zero_le _) (pl_lt (On.first (κ := κ) hx0))
  · exact (hs p.1 (sg p.1 (sgs_mem.mpr ⟨r, p, hr, hp, rfl⟩))).1
  · obtain ⟨y, hy, rfl⟩ := on hr
    obtain ⟨q, hq, rfl⟩ := List.mem_map.mp hp
    exact pl_lt (hy.step hk h hq (ht y q hq))
  · obtain ⟨y, hy, rfl⟩ := on hr
    have hi := hN.inc _ (List.getElem_mem hy.1)
    have e : stepsOf N y = (N[y]'hy.1).2 := stepsOf_at (List.getElem?_eq_getElem hy.1)
    show Inc ((stepsOf N y).map fun p => (p.1, pl N κ x0 p.2))
    unfold Inc at hi ⊢
    rw [List.map_map, e]
    exact hi
  · obtain ⟨y, hy, rfl, r⟩ := pl_onto hk h ht hx0 hk'
    have := (pl_reach hk h ht r (On.first hx0)).1
    rwa [pl_zero h] at this
  · obtain ⟨y, hy, rfl, r⟩ := pl_onto hk h ht hx0 hk'
    obtain ⟨g, hg, r2⟩ := hend y r
    obtain ⟨r3, hog⟩ := pl_reach hk h ht r2 hy
    exact ⟨_, pl_lt hog, by rw [endsOf_at (pl_at hk hog)]; exact hg, r3⟩
/-! ### the cut machine, its parts -/
section
variable {M : List Rm} {c : List Nat}
theorem cut_ends {x : Nat} (hx : x < M.length) : endsOf (cutM M) x = endsOf M x := by
  have h1 : (cutM M)[x]? = some (cutR (steadyM M) M[x]) := by unfold cutM; rw [List.getElem?_map, List.getElem?_eq_getElem hx]; rfl
  rw [endsOf_at h1, endsOf_at (List.getElem?_eq_getElem hx)]
  rfl
theorem cut_steps {x : Nat} (hx : x < M.length) : stepsOf (cutM M) x = (stepsOf M x).filter fun p => !endsOf M x || !decide (p.1 ∈ steadyM M) := by
  have h1 : (cutM M)[x]? = some (cutR (steadyM M) M[x]) := by unfold cutM; rw [List.getElem?_map, List.getElem?_eq_getElem hx]; rfl
  rw [stepsOf_at h1, stepsOf_at (List.getElem?_eq_getElem hx), endsOf_at (List.getElem?_eq_getElem hx)]
  rfl
theorem cut_all (hM : MOk M) (h : AllEnd M) {x : Nat} (hx : x < M.length) : ∃ e, e < M.length ∧ endsOf M e = true ∧ RT (Eg (cutM M)) x e := by
  obtain ⟨e, he, hee, r⟩ := h x hx
  have hE := Eg_lt hM
  revert hx
  induction r with
  | refl a => exact fun hx => ⟨a, he, hee, .refl _⟩
  | step hab _ ih =>
    rename_i a b d _
    intro hx
    by_cases q : endsOf M a = true
    · exact ⟨a, hx, q, .refl _⟩
    · obtain ⟨e, h1, h2, r⟩ := ih he hee (hE a hx b hab)
      refine ⟨e, h1, h2, .step ?_ r⟩
      have q' : endsOf M a = false := by simpa using q
      unfold Eg
      rw [cut_steps hx, q']
      unfold Eg at hab
      rw [show ((stepsOf M a).filter fun p => !false || !decide (p.1 ∈ steadyM M)) = stepsOf M a from List.filter_eq_self.mpr (fun p _ => rfl)]
      exact hab
theorem part_ends {A : List Rm} {x : Nat} (hx : x < A.length) : endsOf (partM A c) x = decide (x ∈ gatesM A c) := by rw [endsOf_at (partM_at hx)]; rfl
theorem part_steps {A : List Rm} {x : Nat} (hx : x < A.length) : stepsOf (partM A c) x = (stepsOf A x).filter fun p => decide (p.2 ∈ c) := by rw [stepsOf_at (partM_at hx)]; rfl
theorem part_in {A : List Rm} {x y : Nat} (hx : x < A.length) (h : y ∈ Eg (partM A c) x) : y ∈ c ∧ y ∈ Eg A x := by
  unfold Eg at h ⊢
  rw [part_steps hx] at h
  obtain ⟨p, hp, rfl⟩ := List.mem_map.mp h
  obtain ⟨h1, h2⟩ := List.mem_filter.mp hp
  exact ⟨of_decide_eq_true h2, List.mem_map_of_mem h1⟩
theorem part_stay {A : List Rm} (hc : ∀ y, y ∈ c → y < A.length) {x y : Nat} (r : RT (Eg (partM A c)) x y) : x ∈ c → y ∈ c := by
  induction r with
  | refl a => exact id
  | step hab _ ih => exact fun hx => ih (part_in (hc _ hx) hab).1
theorem gate_of {A : List Rm} {x : Nat} (hx : x ∈ c) (h : endsOf A x = true ∨ ∃ p, p ∈ stepsOf A x ∧ p.2 ∉ c) : x ∈ gatesM A c := by
  unfold gatesM
  rw [List.mem_filter]
  refine ⟨hx, ?_⟩
  unfold gateB
  rcases h with h | ⟨p, hp, hn⟩
  · rw [h]; rfl
  · have : p ∈ outS A c x := by
      unfold outS outF
      exact List.mem_filter.mpr ⟨hp, by rw [decide_eq_false hn]; rfl⟩
    cases e : outS A c x with
    | nil => rw [e] at this; cases this
    | cons a l => simp
theorem part_gate {A : List Rm} (hc : ∀ y, y ∈ c → y < A.length) {x e : Nat} (r : RT (Eg A) x e) (he : endsOf A e = true) : x ∈ c → ∃ g, endsOf (partM A c) g = true ∧ RT (Eg (partM A c)) x g := by
  induction r with
  | refl a => exact fun hx => ⟨a, by rw [part_ends (hc a hx)]; exact decide_eq_true (gate_of hx (.inl he)), .refl _⟩
  | step hab _ ih =>
    rename_i a b d _
    intro hx
    unfold Eg at hab
    obtain ⟨p, hp, rfl⟩ := List.mem_map.mp hab
    by_cases q : p.2 ∈ c
    · obtain ⟨g, h1, r⟩ := ih he q
      refine ⟨g, h1, .step ?_ r⟩
      unfold Eg
      rw [part_steps (hc a hx)]
      exact List.mem_map_of_mem (f := fun q : Stp => q.2) (List.mem_filter.mpr ⟨hp, decide_eq_true q⟩)
    · exact ⟨a, by rw [part_ends (hc a hx)]; exact decide_eq_true (gate_of hx (.inr ⟨p, hp, q⟩)), .refl _⟩
theorem part_sgs {t : Str} (h : t ∈ sgs (partM (cutM M) c)) : t ∈ sgs M := by
  obtain ⟨r, p, hr, hp, rfl⟩ := sgs_mem.mp h
  unfold partM at hr
  obtain ⟨x, _, rfl⟩ := List.mem_map.mp hr
  have h1 : p ∈ stepsOf (cutM M) x := (List.mem_filter.mp hp).1
  obtain ⟨r, hr, hp'⟩ := stepsOf_in h1
  unfold cutM at hr
  obtain ⟨q, hq, rfl⟩ := List.mem_map.mp hr
  exact sgs_mem.mpr ⟨q, p, hq, (List.mem_filter.mp hp').1, rfl⟩
theorem part_isM {κ ρ : List Nat} {x0 : Nat} {ss : List Str} (hM : MOk M) (ha : AllEnd M) (ho : IsOrb (Eg (cutM M)) M.length c) (hx0 : x0 ∈ c) (hk : Kd (partM (cutM M) c) κ) (h : Bf (partM (cutM M) c) κ ρ (kAt κ x0) ρ.length) (hs : ∀ t, t ∈ sgs M → signS t = true ∧ t ∈ ss) (h6 : ss.length ≤ 6) :
    IsM (leastC (partM (cutM M) c) κ (kAt κ x0)) := by
  have hcl : ∀ y, y ∈ c → y < (cutM M).length := fun y hy => by rw [cutM_len]; exact ((ho.mem y hy y).mp hy).1
  refine least_isM (part_ok (cut_ok _ hM)) hk h (by rw [partM_len]; exact hcl x0 hx0) (fun t ht => hs t (part_sgs ht)) h6 fun y r => ?_
  have hy := part_stay hcl r hx0
  have hyM : y < M.length := by have := hcl y hy; rwa [cutM_len] at this
  obtain ⟨e, h1, h2, r2⟩ := cut_all hM ha hyM
  exact part_gate hcl r2 (by rw [cut_ends h1]; exact h2) hy
/-! ### how a row runs -/
def stepF (M : List Rm) (c : List Nat) (x : Nat) (s : Str) : Option Nat := match goalL (stepsOf M x) s with
  | [] => none
  | n :: _ => if n ∈ c ∧ ¬ (endsOf M x = true ∧ s ∈ steadyM M) then some n else none
def endsSo (M : List Rm) (c : List Nat) : Option Nat → List Str → Bool
  | none, _ => false
  | some x, [] => decide (x ∈ gatesM (cutM M) c)
  | some x, s :: r => endsSo M c (stepF M c x s) r
def goM (M : List Rm) : Nat → List Str → Bool
  | h, [] => endsOf M h
  | h, s :: r => match goalL (stepsOf M h) s with
    | [] => false
    | n :: _ => goM M n r
theorem goal_in {L : List Stp} {x : Str} {n : Nat} (h : (x, n) ∈ L) : n ∈ goalL L x := by
  unfold goalL
  exact List.mem_map.mpr ⟨(x, n), List.mem_filter.mpr ⟨h, decide_eq_true rfl⟩, rfl⟩
theorem inc_at (hM : MOk M) (x : Nat) : Inc (stepsOf M x) := by
  unfold stepsOf
  rw [List.getD_eq_getElem?_getD]
  cases e : M[x]? with
  | none => exact List.Pairwise.nil
  | some r => exact hM.inc r (List.mem_of_getElem? e)
theorem part_goal (hM : MOk M) {x : Nat} (hx : x < M.length) (s : Str) : goalL (stepsOf (partM (cutM M) c) x) s = (stepF M c x s).toList := by
  have hx' : x < (cutM M).length := by rw [cutM_len]; exact hx
  have hin : ∀ n, (s, n) ∈ stepsOf (partM (cutM M) c) x ↔ (s, n) ∈ stepsOf M x ∧ n ∈ c ∧ ¬ (endsOf M x = true ∧ s ∈ steadyM M) := fun n => by
    rw [part_steps hx', cut_steps hx, List.mem_filter, List.mem_filter, and_assoc]
    refine and_congr_right fun _ => ?_
    rw [and_comm]
    refine and_congr ⟨fun h => of_decide_eq_true h, fun h => decide_eq_true h⟩ ?_
    cases endsOf M x <;> simp
  have hi := inc_at hM x
  have hiN := inc_at (part_ok (o := c) (cut_ok (steadyM M) hM)) x
  have none_ : (∀ n, (s, n) ∉ stepsOf (partM (cutM M) c) x) → goalL (stepsOf (partM (cutM M) c) x) s = [] := fun h => by
    cases e : goalL (stepsOf (partM (cutM M) c) x) s with
    | nil => rfl
    | cons n l => exact absurd (goal_mem (n := n) (by rw [e]; simp)) (h n)
  unfold stepF
  cases e : goalL (stepsOf M x) s with
  | nil =>
    refine none_ fun n hn => ?_
    have := goal_in ((hin n).mp hn).1
    rw [e] at this
    cases this
  | cons n l =>
    have hn : (s, n) ∈ stepsOf M x := goal_mem (by rw [e]; simp)
    have e1 := goal_one (p := (s, n)) hi hn
    show _ = (if n ∈ c ∧ ¬ (endsOf M x = true ∧ s ∈ steadyM M) then some n else none).toList
    by_cases q : n ∈ c ∧ ¬ (endsOf M x = true ∧ s ∈ steadyM M)
    · rw [if_pos q]
      exact goal_one (p := (s, n)) hiN ((hin n).mpr ⟨hn, q⟩)
    · rw [if_neg q]
      refine none_ fun m hm => ?_
      obtain ⟨h1, h2⟩ := (hin m).mp hm
      have e2 := goal_in h1
      rw [e1] at e2
      rw [List.mem_singleton.mp e2] at h2
      exact q h2
theorem part_go {κ ρ : List Nat} {x0 : Nat} (hM : MOk M) (hc : ∀ y, y ∈ c → y < M.length) (hk : Kd (partM (cutM M) c) κ) (h : Bf (partM (cutM M) c) κ ρ (kAt κ x0) ρ.length) :
    ∀ (row : List Str) (x : Nat), x ∈ c → On (partM (cutM M) c) κ x0 x → goM (leastC (partM (cutM M) c) κ (kAt κ x0)) (pl (partM (cutM M) c) κ x0 x) row = endsSo M c (some x) row
  | [], x, hx, hon => by
    show endsOf _ _ = decide (x ∈ gatesM (cutM M) c)
    rw [endsOf_at (pl_at hk hon), part_ends (by rw [cutM_len]; exact hc x hx)]
  | s :: row, x, hx, hon => by
    have hg := part_goal (c := c) hM (hc x hx) s
    have e1 : goalL (stepsOf (leastC (partM (cutM M) c) κ (kAt κ x0)) (pl (partM (cutM M) c) κ x0 x)) s = ((stepF M c x s).toList).map (pl (partM (cutM M) c) κ x0) := by
      rw [stepsOf_at (pl_at hk hon), ← hg]
      unfold goalL
      rw [List.filter_map, List.map_map, List.map_map]
      rfl
    show (match goalL (stepsOf (leastC (partM (cutM M) c) κ (kAt κ x0)) (pl (partM (cutM M) c) κ x0 x)) s with | [] => false | n :: _ => goM _ n row) = endsSo M c (stepF M c x s) row
    rw [e1]
    cases e : stepF M c x s with
    | none => cases row <;> rfl
    | some y =>
      have hy : (s, y) ∈ stepsOf (partM (cutM M) c) x := goal_mem (by rw [hg, e]; simp)
      have hyc := (part_in (A := cutM M) (c := c) (x := x) (y := y) (by rw [cutM_len]; exact hc x hx) (List.mem_map_of_mem (f := fun q : Stp => q.2) hy)).1
      have hon' := hon.step hk h hy (by rw [partM_len, cutM_len]; exact hc y hyc)
      exact part_go hM hc hk h row y hyc hon'
theorem part_runs {κ ρ : List Nat} {x0 : Nat} (hM : MOk M) (hc : ∀ y, y ∈ c → y < M.length) (hx0 : x0 ∈ c) (hk : Kd (partM (cutM M) c) κ) (h : Bf (partM (cutM M) c) κ ρ (kAt κ x0) ρ.length) (row : List Str) :
    goM (leastC (partM (cutM M) c) κ (kAt κ x0)) 0 row = endsSo M c (some x0) row := by
  have := part_go hM hc hk h row x0 hx0 (On.first (by rw [partM_len, cutM_len]; exact hc x0 hx0))
  rwa [pl_zero h] at this
end
end Sw
set_option Elab.async false
set_option maxRecDepth 100000
set_option maxHeartbeats 8000000
namespace Sw
open PySem L2 PySem.Spec PyProof.Rows
theorem goal_snoc {L : List Stp} {j : Nat} {p : Stp} (hp : L[j]? = some p) (x : Str) : goalL (L.take (j + 1)) x = goalL (L.take j) x ++ (if p.1 = x then [p.2] else []) := by
  unfold goalL
  rw [take_snoc hp, filter_snoc, List.map_append]
  congr 1
  by_cases q : p.1 = x
  · rw [if_pos q, if_pos (decide_eq_true q)]; rfl
  · rw [if_neg q, if_neg (by rw [decide_eq_false q]; decide)]; rfl
theorem goal_len (L : List Stp) (x : Str) : (goalL L x).length ≤ L.length := by unfold goalL; rw [List.length_map]; exact List.length_filter_le _ _
theorem drop_at {α : Type} {l : List α} {i : Nat} {x : α} (h : l[i]? = some x) : l.drop i = x :: l.drop (i + 1) := by
  obtain ⟨h1, h2⟩ := List.getElem?_eq_some_iff.mp h
  rw [List.drop_eq_getElem_cons h1, h2]
theorem IsM.deg {M : List Rm} (h : IsM M) : ∀ r, r ∈ M → r.2.length ≤ 6 := fun r hr => by
  have h1 : (r.2.map (·.1)).Nodup := SL.nd (h.rm r hr).2
  have h2 := nd_le (L := nubL (sgs M)) h1 fun t ht => nubL_mem.mpr (by
    obtain ⟨p, hp, rfl⟩ := List.mem_map.mp ht
    exact sgs_mem.mpr ⟨r, p, hr, hp, rfl⟩)
  rw [List.length_map] at h2
  have := h.few
  omega
section
variable {P : Program} {w : World} {K : PySem.W.Frag} {mg : Str → Option Value} {base : Heap}
def spRuns (K : PySem.W.Frag) : Sp := fun vs H Q _ => ∃ (v : V) (M : List Rm) (rv : Addr) (r : List Str), vs = [v, .ref rv] ∧ Dp K H v (maD M) ∧ IsM M ∧ SqT K H rv (r.map V.str) ∧ ∀ H', Same H H' → Q (.bl (goM M 0 r)) H'
abbrev n_runs : List Str := ["machine", "row", "at", "sign", "led_to", "by", "behind"]
theorem sc_runs : FnScope n_runs ["machine", "row"] (defScope s_runs) := ⟨rfl, rfl, rfl, by decide +kernel, rfl, by decide +kernel, by decide +kernel⟩
theorem ok_runs (F : DefAt K mg "runs" s_runs ["machine", "row"]) : DefOk P w K mg base "runs" 1 ["machine", "row"] (spRuns K) := by
  refine F.ok sc_runs (fun vs H Q E h => ?_) (fun f cdv A outer s H vs Q E hr h => ?_)
  · obtain ⟨_, _, _, _, rfl, _⟩ := h
    rfl
  obtain ⟨v, M, rv, r, rfl, hv, hM, hrow, k⟩ := h
  obtain ⟨ma, rs, rfl, hma, hrs⟩ := dpTup hv
  refine ⟨_, (pss_cons (ps_set (i := 2) sc_runs.nd rfl (Or.inl rfl) pe_int)
    (pss_cons (ps_for PassesOwn.never rfl (pi_tup (pv 1)) (pg_name (i := 3) sc_runs.nd rfl (Or.inr rfl))
      (pss_cons (ps_setLc (i := 4) (own := [("by", 5), ("behind", 6)]) (g := gTup K 2 (gCons (gName 5) (gCons (gName 6) gNil))) rfl sc_runs.nd rfl rfl (sw_true rfl rfl rfl (by decide +kernel)) (pi_tup (pe_ix ix_tup (pe_ix ix_tup (pv 0) (pv 2) (fun _ _ => rfl)) pe_int (fun _ _ => rfl))) (blkOk_by (own := [("by", 5), ("behind", 6)]) (N := n_runs) (sc := defScope s_runs) (by decide +kernel)) (fun _ _ _ _ _ => (pg_tup rfl (pgs_cons (pg_name (i := 5) sc_runs.nd rfl (Or.inl rfl)) (pgs_cons (pg_name (i := 6) sc_runs.nd rfl (Or.inl rfl)) pgs_nil)))) (fun _ _ _ _ _ => (pts_one (pt_cmpR op_eq (pv 5) (pv 3) (nomark _)))) (fun _ _ _ _ _ => (pv 6)))
    (pss_cons (ps_if (pt_not (pt_truth (pv 4) (by intro _; rfl))) (pss_one (ps_ret pe_bl)) pss_nil)
    (pss_one (ps_set (i := 2) sc_runs.nd rfl (Or.inl rfl) (pe_ix ix_list (pv 4) pe_int (fun _ _ => rfl)))))))
    (pss_one (ps_ret (pe_ix ix_tup (pe_ix ix_tup (pv 0) (pv 2) (fun _ _ => rfl)) pe_int (fun _ _ => rfl)))))), ?_⟩
  refine ⟨_, rfl, rv, rfl, ⟨_, hrow⟩, ?_⟩
  refine for_tup (K := K) (a := rv) (xs := r.map V.str) (fun i σ H' => ∃ (here : Nat) (o3 o4 : Option V), σ = [some (.ref ma), some (.ref rv), some (.int (here : Int)), o3, o4, none, none] ∧ Same H H' ∧ here < M.length ∧ goM M here (r.drop i) = goM M 0 r)
    ⟨0, none, none, rfl, Same.refl _, hM.pos, rfl⟩ (fun i σ H' _ ⟨_, _, _, _, g, _⟩ => g.sqT hrow) ?_ ?_
  · rintro i v σ H1 hv1 ⟨here, o3, o4, rfl, g1, hh, hgo⟩
    rw [List.getElem?_map] at hv1
    obtain ⟨sg, hsg, rfl⟩ := Option.map_eq_some_iff.mp hv1
    rw [drop_at hsg] at hgo
    obtain ⟨rm, hrm⟩ : ∃ rm, M[here]? = some rm := ⟨_, List.getElem?_eq_getElem hh⟩
    obtain ⟨ra, rb, ls, e1, e2, e3, e4⟩ := rmsAt hrs hrm
    have hdeg := hM.deg rm (List.mem_of_getElem? hrm)
    have hll := dpsLen e4
    rw [List.length_map] at hll
    refine ⟨_, rfl, _, rfl, ma, _, _, _, rfl, rfl, g1.sqT hma, atI_nat (j := here) e1, ra, _, 1, _, rfl, rfl, g1.sqT e2, atI_nat (j := 1) rfl, rb, rfl, ⟨_, g1.sqT e3⟩, fun D nD => ?_⟩
    refine lc_tup (K := K) (a := rb) (xs := ls) (fun j H' => Same H1 H' ∧ H' D = some (.lst (natV (goalL (rm.2.take j) sg))))
      ⟨.new nD, upd_same⟩ (fun j H' _ ⟨g, _⟩ => (g1.trans g).sqT e3) ?_ ?_
    · rintro j v H2 hv2 ⟨g2, hD⟩
      obtain ⟨p, pa, hp, rfl, hpa⟩ := stsAt e4 hv2
      have et := goal_snoc hp sg
      have hfl : (goalL (rm.2.take j) sg).length ≤ 6 := Nat.le_trans (goal_len _ _) (by rw [List.length_take]; omega)
      refine ⟨pa, _, rfl, (g1.trans g2).sqT hpa, rfl, _, _, rfl, _, _, rfl, rfl, rfl, ?_⟩
      refine ⟨_, rfl, _, rfl, rfl, _, rfl, ite2 (fun q => ?_) (fun q => ?_)⟩
      · have q' : p.1 = sg := V.str.inj (of_decide_eq_true q)
        rw [if_pos q'] at et
        refine ⟨_, rfl, _, hD, szb (by rw [ints_len]; omega), g2.mut nD, ?_⟩
        rw [upd_same, et, natV_snoc]
      · have q' : ¬ p.1 = sg := fun e => q (decide_eq_true (congrArg V.str e))
        rw [if_neg q', List.append_nil] at et
        rw [et]
        exact ⟨g2, hD⟩
    · rintro H2 ⟨g2, hD⟩
      rw [hll, List.take_length] at hD
      have est : stepsOf M here = rm.2 := stepsOf_at hrm
      have hgo' : (match goalL rm.2 sg with | [] => false | n :: _ => goM M n (r.drop (i + 1))) = goM M 0 r := by
        rw [← hgo, ← est]
        rfl
      cases hl : goalL rm.2 sg with
      | nil =>
        rw [hl] at hD hgo'
        refine ⟨_, rfl, _, .inl ⟨_, sL hD, rfl⟩, iteT ?_⟩
        rw [show (false : Bool) = goM M 0 r from hgo']
        exact k H2 (g1.trans g2)
      | cons n ns =>
        rw [hl] at hD hgo'
        have hn : n < M.length := ((hM.rm rm (List.mem_of_getElem? hrm)).1 _ (goal_mem (n := n) (x := sg) (by rw [hl]; simp))).2
        refine ⟨_, rfl, _, .inl ⟨_, sL hD, rfl⟩, iteF ?_⟩
        refine ⟨_, rfl, D, _, 0, _, rfl, rfl, sL hD, atI_nat (j := 0) rfl, ?_⟩
        exact ⟨n, _, _, rfl, g1.trans g2, hn, hgo'⟩
  · rintro σ H1 ⟨here, o3, o4, rfl, g1, hh, hgo⟩
    rw [List.length_map, List.drop_length] at hgo
    obtain ⟨rm, hrm⟩ : ∃ rm, M[here]? = some rm := ⟨_, List.getElem?_eq_getElem hh⟩
    obtain ⟨ra, rb, ls, e1, e2, e3, e4⟩ := rmsAt hrs hrm
    have hgo' : rm.1 = goM M 0 r := by
      rw [← hgo, ← endsOf_at hrm]
      rfl
    refine ⟨_, rfl, _, rfl, ma, _, _, _, rfl, rfl, g1.sqT hma, atI_nat (j := here) e1, ra, _, 0, _, rfl, rfl, g1.sqT e2, atI_nat (j := 0) rfl, ?_⟩
    rw [hgo']
    exact k H1 g1
end
end Sw
set_option Elab.async false
set_option maxRecDepth 100000
set_option maxHeartbeats 8000000
namespace Sw
open PySem L2 PySem.Spec PyProof.Rows
def oV : Option Nat → V
  | none => .non
  | some n => .int (n : Int)
section
variable {P : Program} {w : World} {K : PySem.W.Frag} {mg : Str → Option Value} {base : Heap}
abbrev n_law_gstep : List Str := ["machine", "signs", "orbit", "k", "sign", "goal"]
theorem sc_law_gstep : FnScope n_law_gstep ["machine", "signs", "orbit", "k", "sign"] (defScope s_law_gstep) := ⟨rfl, rfl, rfl, by decide +kernel, rfl, by decide +kernel, by decide +kernel⟩
def spGstep (K : PySem.W.Frag) : Sp := fun vs H Q _ => ∃ (v : V) (M : List Rm) (sa oa : Addr) (o : List Nat) (k : Nat) (x : Str), vs = [v, .ref sa, .ref oa, .int (k : Int), .str x] ∧ Dp K H v (maD M) ∧ MOk M ∧ H sa = some (.lst ((steadyM M).map V.str)) ∧ H oa = some (.lst (natV o)) ∧ k < M.length ∧
  ∀ H', Same H H' → Q (oV (stepF M o k x)) H'
theorem ok_law_gstep (F : DefAt K mg "_law_gstep" s_law_gstep ["machine", "signs", "orbit", "k", "sign"]) (d__law_ggoal : DefOk P w K mg base "_law_ggoal" 1 ["leads", "sign"] (spGoal K)) : DefOk P w K mg base "_law_gstep" 2 ["machine", "signs", "orbit", "k", "sign"] (spGstep K) := by
  refine F.ok sc_law_gstep (fun vs H Q E h => ?_) (fun f cdv A outer s H vs Q E hr h => ?_)
  · obtain ⟨_, _, _, _, _, _, _, rfl, _⟩ := h
    rfl
  obtain ⟨v, M, sa, oa, o, x, sg, rfl, hv, hM, hsa, hoa, hx, k⟩ := h
  obtain ⟨ma, rs, rfl, hma, hrs⟩ := dpTup hv
  refine ⟨_, (pss_cons (ps_set (i := 5) sc_law_gstep.nd rfl (Or.inl rfl) (pe_callD d__law_ggoal (hr.mono (by decide)) rfl (pa_cons (pe_ix ix_tup (pe_ix ix_tup (pv 0) (pv 3) (fun _ _ => rfl)) pe_int (fun _ _ => rfl)) (pa_cons (pv 4) pa_nil))))
    (pss_cons (ps_if (PW.pt (pw_or (pt_cmpR (op_eqD hr.units) (pv 5) (pe_lst pa_nil) (nomark _)) (pw_or (pt_cmpR op_notIn_seq (pe_ix ix_list (pv 5) pe_int (fun _ _ => rfl)) (pv 2) (by rfl)) (pw_or1 (PW.pt (pw_and (pt_val (pe_ix ix_tup (pe_ix ix_tup (pv 0) (pv 3) (fun _ _ => rfl)) pe_int (fun _ _ => rfl))) (pw_and1 (pt_cmpR op_in_seq (pv 4) (pv 1) (by rfl))))))))) (pss_one (ps_ret pe_non)) pss_nil)
    (pss_one (ps_ret (pe_ix ix_list (pv 5) pe_int (fun _ _ => rfl)))))), ?_⟩
  obtain ⟨rm, hrm⟩ : ∃ rm, M[x]? = some rm := ⟨_, List.getElem?_eq_getElem hx⟩
  obtain ⟨ra, rb, ls, e1, e2, e3, e4⟩ := rmsAt hrs hrm
  have est : stepsOf M x = rm.2 := stepsOf_at hrm
  have een : endsOf M x = rm.1 := endsOf_at hrm
  have hdeg := hM.deg rm (List.mem_of_getElem? hrm)
  refine ⟨_, rfl, _, rfl, ma, _, _, _, rfl, rfl, hma, atI_nat e1, ra, _, 1, _, rfl, rfl, e2, atI_nat (j := 1) rfl, _, rfl, _, rm.2, sg, rfl, .tup e3 e4, hdeg, fun H1 g s1 hg ng => ?_⟩
  refine ⟨_, rfl, (by show 0 ≤ sizeLine; decide), fun e ne => ?_⟩
  have se : Same H1 (upd H1 e (.lst [])) := .new ne
  have he : (upd H1 e (.lst [])) e = some (.lst (natV [])) := upd_same
  have hg2 := se _ _ hg
  have s2 := s1.trans se
  generalize upd H1 e (.lst []) = H2 at se he hg2 s2 ⊢
  refine ⟨nsD (goalL rm.2 sg), nsD [], dpNs hg2, dpNs he, shNs _, shNs _, _, rfl, ?_⟩
  rw [eqvNs]
  have est' : stepF M o x sg = (match goalL rm.2 sg with | [] => none | n :: _ => if n ∈ o ∧ ¬ (endsOf M x = true ∧ sg ∈ steadyM M) then some n else none) := by
    unfold stepF
    rw [est]
    first
      | done
      | (cases goalL rm.2 sg <;> rfl)
  cases eg : goalL rm.2 sg with
  | nil =>
    rw [eg] at est'
    refine iteT ?_
    have := k H2 s2
    rw [est'] at this
    exact this
  | cons n l =>
    rw [eg] at est' hg2
    have est2 : stepF M o x sg = if n ∈ o ∧ ¬ (endsOf M x = true ∧ sg ∈ steadyM M) then some n else none := est'
    have no : (¬ (n ∈ o ∧ ¬ (endsOf M x = true ∧ sg ∈ steadyM M))) → Q .non H2 := fun q => by
      have := k H2 s2
      rw [est2, if_neg q] at this
      exact this
    refine iteF' (by simp) ?_
    refine ⟨_, rfl, g, _, 0, _, rfl, rfl, sL hg2, atI_nat (j := 0) rfl, _, rfl, oa, _, rfl, .inl (sL (s2 _ _ hoa)), rfl, ints_flat o, _, rfl, ?_⟩
    rw [ints_in]
    refine ite2 (fun q => no fun z => ?_) (fun q => ?_)
    · have q' : (!decide (n ∈ o)) = true := q
      rw [decide_eq_true z.1] at q'
      cases q'
    have hno : n ∈ o := Decidable.of_not_not fun z => q (by
      show (!decide (n ∈ o)) = true
      rw [decide_eq_false z]; rfl)
    have yes : (¬ (endsOf M x = true ∧ sg ∈ steadyM M)) → Q (.int (n : Int)) H2 := fun z => by
      have := k H2 s2
      rw [est2, if_pos ⟨hno, z⟩] at this
      exact this
    refine ⟨_, rfl, _, rfl, ma, _, _, _, rfl, rfl, s2.sqT hma, atI_nat e1, ra, _, 0, _, rfl, rfl, s2.sqT e2, atI_nat (j := 0) rfl, rm.1, rfl, ?_⟩
    cases er : rm.1 with
    | false =>
      refine iteF (iteF ?_)
      refine ⟨_, rfl, g, _, 0, _, rfl, rfl, sL hg2, atI_nat (j := 0) rfl, ?_⟩
      exact yes fun z => by rw [een, er] at z; cases z.1
    | true =>
      refine iteT ⟨_, rfl, _, rfl, sa, _, rfl, .inl (sL (s2 _ _ hsa)), rfl, strs_flat _, _, rfl, ?_⟩
      rw [strs_in]
      refine ite2 (fun q2 => ?_) (fun q2 => ?_)
      · refine no fun z => z.2 ⟨by rw [een, er], of_decide_eq_true q2⟩
      · refine ⟨_, rfl, g, _, 0, _, rfl, rfl, sL hg2, atI_nat (j := 0) rfl, ?_⟩
        exact yes fun z => q2 (decide_eq_true z.2)
abbrev n_law_gends_so : List Str := ["machine", "signs", "orbit", "k", "row", "sign"]
theorem sc_law_gends_so : FnScope n_law_gends_so ["machine", "signs", "orbit", "k", "row"] (defScope s_law_gends_so) := ⟨rfl, rfl, rfl, by decide +kernel, rfl, by decide +kernel, by decide +kernel⟩
def spEndsSo (K : PySem.W.Frag) : Sp := fun vs H Q _ => ∃ (v : V) (M : List Rm) (sa oa ra : Addr) (o : List Nat) (k : Nat) (row : List Str), vs = [v, .ref sa, .ref oa, .int (k : Int), .ref ra] ∧ Dp K H v (maD M) ∧ MOk M ∧ HasEnd M ∧ H sa = some (.lst ((steadyM M).map V.str)) ∧ H oa = some (.lst (natV o)) ∧ o.length ≤ 1000 ∧ (∀ y, y ∈ o → y < M.length) ∧ k < M.length ∧
  SqT K H ra (row.map V.str) ∧ ∀ H', Same H H' → Q (.bl (endsSo M o (some k) row)) H'
theorem stepF_lt {M : List Rm} {o : List Nat} (ho : ∀ y, y ∈ o → y < M.length) {x n : Nat} {s : Str} (h : stepF M o x s = some n) : n ∈ o := by
  unfold stepF at h
  cases e : goalL (stepsOf M x) s with
  | nil => rw [e] at h; cases h
  | cons m l =>
    rw [e] at h
    have h' : (if m ∈ o ∧ ¬ (endsOf M x = true ∧ s ∈ steadyM M) then some m else none) = some n := h
    by_cases q : m ∈ o ∧ ¬ (endsOf M x = true ∧ s ∈ steadyM M)
    · rw [if_pos q] at h'
      rw [← Option.some.inj h']
      exact q.1
    · rw [if_neg q] at h'
      cases h'
theorem ok_law_gends_so (F : DefAt K mg "_law_gends_so" s_law_gends_so ["machine", "signs", "orbit", "k", "row"]) (d__law_gstep : DefOk P w K mg base "_law_gstep" 2 ["machine", "signs", "orbit", "k", "sign"] (spGstep K)) (d_cut_gates : DefOk P w K mg base "cut_gates" 3 ["machine", "orbit"] (spCutGates K)) :
    DefOk P w K mg base "_law_gends_so" 4 ["machine", "signs", "orbit", "k", "row"] (spEndsSo K) := by
  refine F.ok sc_law_gends_so (fun vs H Q E h => ?_) (fun f cdv A outer s H vs Q E hr h => ?_)
  · obtain ⟨_, _, _, _, _, _, _, _, rfl, _⟩ := h
    rfl
  obtain ⟨v, M, sa, oa, ra, o, x, row, rfl, hv, hM, hE, hsa, hoa, hol, hlt, hx, hrow, k⟩ := h
  refine ⟨_, (pss_cons (ps_for PassesOwn.never rfl (pi_tup (pv 4)) (pg_name (i := 5) sc_law_gends_so.nd rfl (Or.inl rfl))
      (pss_one (ps_if (pt_cmp (pc_notN (pv 3)) rfl) (pss_one (ps_set (i := 3) sc_law_gends_so.nd rfl (Or.inl rfl) (pe_callD d__law_gstep (hr.mono (by decide)) rfl (pa_cons (pv 0) (pa_cons (pv 1) (pa_cons (pv 2) (pa_cons (pv 3) (pa_cons (pv 5) pa_nil)))))))) pss_nil)))
    (pss_one (ps_ret (pe_and (pe_cmp (pc_notN (pv 3)) rfl) (pe_one (pe_cmpR op_in_seq (pv 3) (pe_callD d_cut_gates (hr.mono (by decide)) rfl (pa_cons (pv 0) (pa_cons (pv 2) pa_nil))) (by rfl))))))), ?_⟩
  refine ⟨_, rfl, ra, rfl, ⟨_, hrow⟩, ?_⟩
  refine for_tup (K := K) (a := ra) (xs := row.map V.str) (fun i σ H' => ∃ (ko : Option Nat) (o5 : Option V), σ = [some v, some (.ref sa), some (.ref oa), some (oV ko), some (.ref ra), o5] ∧ Same H H' ∧ (∀ n, ko = some n → n < M.length) ∧ endsSo M o ko (row.drop i) = endsSo M o (some x) row)
    ⟨some x, none, rfl, .refl _, fun n e => by rw [← Option.some.inj e]; exact hx, rfl⟩ (fun i σ H' _ ⟨_, _, _, g, _⟩ => g.sqT hrow) ?_ ?_
  · rintro i u σ H1 hu1 ⟨ko, o5, rfl, s1, hko, hgo⟩
    rw [List.getElem?_map] at hu1
    obtain ⟨sg, hsg, rfl⟩ := Option.map_eq_some_iff.mp hu1
    rw [drop_at hsg] at hgo
    cases ko with
    | none =>
      refine ⟨_, rfl, _, rfl, iteF' (by decide) ?_⟩
      refine ⟨none, _, rfl, s1, hko, ?_⟩
      rw [← hgo]
      cases row.drop (i + 1) <;> rfl
    | some y =>
      have hy := hko y rfl
      refine ⟨_, rfl, _, rfl, iteT' (show (!decide (V.int (y : Int) = V.non)) = true by rw [decide_eq_false (fun e => by cases e)]; rfl) ?_⟩
      refine ⟨_, rfl, _, rfl, _, rfl, _, rfl, _, rfl, v, M, sa, oa, o, y, sg, rfl, dpS s1 hv, hM, s1 _ _ hsa, s1 _ _ hoa, hy, fun H2 s2 => ?_⟩
      exact ⟨stepF M o y sg, _, rfl, s1.trans s2, fun n e => hlt n (stepF_lt hlt e), hgo⟩
  · rintro σ H1 ⟨ko, o5, rfl, s1, hko, hgo⟩
    rw [List.length_map, List.drop_length] at hgo
    cases ko with
    | none =>
      refine ⟨_, rfl, _, rfl, iteF' (by decide) ?_⟩
      have := k H1 s1
      rw [← hgo] at this
      exact this
    | some y =>
      refine ⟨_, rfl, _, rfl, iteT' (show (!decide (V.int (y : Int) = V.non)) = true by rw [decide_eq_false (fun e => by cases e)]; rfl) ?_⟩
      refine ⟨_, rfl, _, rfl, _, rfl, v, M, oa, o, rfl, dpS s1 hv, hM, hE, s1 _ _ hoa, hol, hlt, fun H2 p s2 hp np => ?_⟩
      refine ⟨p, _, rfl, .inl (sL hp), rfl, ints_flat _, ?_⟩
      rw [show oV (some y) = V.int (y : Int) from rfl, ints_in]
      have := k H2 (s1.trans s2)
      rw [← hgo] at this
      exact this
end
end Sw
set_option Elab.async false
set_option maxRecDepth 100000
set_option maxHeartbeats 8000000
namespace Sw
open PySem L2 PySem.Spec PyProof.Rows
theorem shStT (L : List Stp) (h : ∀ p, p ∈ L → PyData.strOk p.1 = true) : SeqAt.shaped (.tuple (L.map stD)) = true := by
  have h1 := shSts L h
  unfold SeqAt.shaped at h1 ⊢
  simpa [PyData.canLay0, PyData.depth] using h1
theorem shTupNil : SeqAt.shaped (.tuple []) = true := rfl
theorem eqvStT (L L' : List Stp) : PyData.eqv (.tuple (L.map stD)) (.tuple (L'.map stD)) = decide (L = L') := by
  rw [← eqvSts]
  simp [PyData.eqv]
section
variable {P : Program} {w : World} {K : PySem.W.Frag} {mg : Str → Option Value} {base : Heap}
abbrev n_law_grow : List Str := ["pen", "machine", "signs", "k", "row", "turn", "sign", "leads"]
theorem sc_law_grow : FnScope n_law_grow ["pen", "machine", "signs", "k"] (defScope s_law_grow) := ⟨rfl, rfl, rfl, by decide +kernel, rfl, by decide +kernel, by decide +kernel⟩
def spGrow (K : PySem.W.Frag) : Sp := fun vs H Q _ => ∃ (pen wl sg : Addr) (T : Nat) (v : V) (M : List Rm) (ss : List Str) (k : Nat), vs = [.ref pen, v, .ref sg, .int (k : Int)] ∧ T ≤ 90000 ∧ PenAt H pen wl T ∧ Dp K H v (maD M) ∧ MOk M ∧ H sg = some (.lst (ss.map V.str)) ∧ sg ≠ pen ∧ sg ≠ wl ∧ 0 < ss.length ∧ ss.length ≤ 6 ∧ (∀ t, t ∈ ss → PyData.strOk t = true) ∧ k < M.length ∧
  ∀ H' ra (row : List Str), Bt pen wl H H' → PenAt H' pen wl (T + 16) → SqT K H' ra (row.map V.str) → row.length ≤ 5 → (∀ t, t ∈ row → PyData.strOk t = true) → Q (.ref ra) H'
theorem ok_law_grow (F : DefAt K mg "_law_grow" s_law_grow ["pen", "machine", "signs", "k"]) (d__law_gdraw : DefOk P w K mg base "_law_gdraw" 1 ["pen", "many"] spDraw) (b_len : mg "len" = none) (b_range : mg "range" = none) : DefOk P w K mg base "_law_grow" 2 ["pen", "machine", "signs", "k"] (spGrow K) := by
  refine F.ok sc_law_grow (fun vs H Q E h => ?_) (fun f cdv A outer s H vs Q E hr h => ?_)
  · obtain ⟨_, _, _, _, _, _, _, _, rfl, _⟩ := h
    rfl
  obtain ⟨pen, wl, sg, T, v, M, ss, x0, rfl, hT, hp, hv, hM, hsg, nsp, nsw, hs0, hs6, hsk, hx0, k⟩ := h
  obtain ⟨ma, rs, rfl, hma, hrs⟩ := dpTup hv
  refine ⟨_, (pss_cons (ps_set (i := 4) sc_law_grow.nd rfl (Or.inl rfl) (pe_tup pa_nil))
    (pss_cons (ps_for PassesOwn.never rfl (pi_range1 rfl b_range (pa_cons (pe_callD d__law_gdraw (hr.mono (by decide)) rfl (pa_cons (pv 0) (pa_cons pe_int pa_nil))) pa_nil)) (pg_name (i := 5) sc_law_grow.nd rfl (Or.inl rfl))
      (pss_cons (ps_set (i := 6) sc_law_grow.nd rfl (Or.inl rfl) (pe_ix ix_list (pv 2) (pe_callD d__law_gdraw (hr.mono (by decide)) rfl (pa_cons (pv 0) (pa_cons (pe_callB call_len_seq (by rfl) b_len PySem.boot_len (pa_cons (pv 2) pa_nil)) pa_nil))) (fun _ _ => rfl)))
    (pss_cons (ps_set (i := 7) sc_law_grow.nd rfl (Or.inl rfl) (pe_ix ix_tup (pe_ix ix_tup (pv 1) (pv 3) (fun _ _ => rfl)) pe_int (fun _ _ => rfl)))
    (pss_cons (ps_if (PW.pt (pw_and (pt_cmpR (op_neD hr.units) (pv 7) (pe_tup pa_nil) (nomark _)) (pw_and1 (pt_cmpR op_gt (pe_callD d__law_gdraw (hr.mono (by decide)) rfl (pa_cons (pv 0) (pa_cons pe_int pa_nil))) pe_int (nomark _))))) (pss_one (ps_asg (pe_ix ix_tup (pv 7) (pe_callD d__law_gdraw (hr.mono (by decide)) rfl (pa_cons (pv 0) (pa_cons (pe_callB call_len_seq (by rfl) b_len PySem.boot_len (pa_cons (pv 7) pa_nil)) pa_nil))) (fun _ _ => rfl)) (pg_tup rfl (pgs_cons (pg_name (i := 6) sc_law_grow.nd rfl (Or.inl rfl)) (pgs_cons (pg_name (i := 3) sc_law_grow.nd rfl (Or.inl rfl)) pgs_nil))))) pss_nil)
    (pss_one (ps_set (i := 4) sc_law_grow.nd rfl (Or.inl rfl) (pe_op op_catA (pv 4) (pe_tup (pa_cons (pv 6) pa_nil)))))))))
    (pss_one (ps_ret (pv 4))))), ?_⟩
  refine ⟨(by show 0 ≤ sizeLine; decide), fun e ne => ?_⟩
  have se : Same H (upd H e (.tup [])) := .new ne
  have he : SqT K (upd H e (.tup [])) e (([] : List Str).map V.str) := sT upd_same
  generalize upd H e (.tup []) = H0 at se he ⊢
  refine ⟨_, rfl, pen, wl, T, 6, rfl, by decide, by decide, by omega, hp.same se, fun H1 n hn b1 p1 => ⟨_, rfl, by omega, by omega, ?_⟩⟩
  have be : Bt pen wl H H1 := (Bt.of se).trans b1
  refine for_range (lo := 0) (n := (n : Int).toNat) (fun i σ H' => ∃ (here : Nat) (fa : Addr) (row : List Str) (o5 o6 o7 : Option V), σ = [some (.ref pen), some (.ref ma), some (.ref sg), some (.int (here : Int)), some (.ref fa), o5, o6, o7] ∧ Bt pen wl H1 H' ∧ PenAt H' pen wl (T + 1 + 3 * i) ∧ here < M.length ∧ SqT K H' fa (row.map V.str) ∧ row.length ≤ i ∧ ∀ t, t ∈ row → PyData.strOk t = true)
    ⟨x0, e, [], none, none, none, rfl, .refl, p1, hx0, (hp.same se).sqT b1 he, Nat.le_refl _, fun t h => (by cases h)⟩ ?_ ?_
  · rintro i σ H2 hi ⟨here, fa, row, o5, o6, o7, rfl, b2, p2, hh, hfa, hrl, hrk⟩
    rw [Int.toNat_natCast] at hi
    obtain ⟨rm, hrm⟩ : ∃ rm, M[here]? = some rm := ⟨_, List.getElem?_eq_getElem hh⟩
    have hrM := List.mem_of_getElem? hrm
    have hdeg := hM.deg rm hrM
    have b02 := be.trans b2
    have hsg2 := b02 _ _ hsg nsp nsw
    refine ⟨_, rfl, _, rfl, _, rfl, sg, _, rfl, .inl (sL hsg2), ?_⟩
    refine ⟨pen, wl, _, ss.length, by rw [List.length_map]; rfl, hs0, by omega, by omega, p2, fun H3 c hc b3 p3 => ?_⟩
    obtain ⟨x, hx⟩ : ∃ x, ss[c]? = some x := ⟨_, List.getElem?_eq_getElem hc⟩
    have b03 := b02.trans b3
    refine ⟨sg, _, _, _, rfl, rfl, sL (b03 _ _ hsg nsp nsw), atI_nat (j := c) (v := V.str x) (by rw [List.getElem?_map, hx]; rfl), ?_⟩
    obtain ⟨ra, rb, ls, e1, e2, e3, e4⟩ := rmsAt hrs hrm
    have hls := dpsLen e4
    rw [List.length_map] at hls
    refine ⟨_, rfl, _, rfl, ma, _, _, _, rfl, rfl, hp.sqT b03 hma, atI_nat e1, ra, _, 1, _, rfl, rfl, hp.sqT b03 e2, atI_nat (j := 1) rfl, ?_⟩
    have hfa3 := p2.sqT b3 hfa
    refine ⟨_, rfl, (by show 0 ≤ sizeLine; decide), fun t nt => ?_⟩
    have st : Same H3 (upd H3 t (.tup [])) := .new nt
    have ht : (upd H3 t (.tup [])) t = some (.tup []) := upd_same
    generalize upd H3 t (.tup []) = H4 at st ht ⊢
    have b04 := b03.trans (.of st)
    have b14 := (b2.trans b3).trans (.of st)
    have p4 := p3.same st
    have hfa4 := st.sqT hfa3
    refine ⟨.tuple (rm.2.map stD), .tuple [], .tup (hp.sqT b04 e3) (hp.dps b04 (noLs_st _) e4), .tup (sT ht) .nil, shStT _ (hM.str rm hrM), shTupNil, _, rfl, ?_⟩
    have cat : ∀ (z : Str) (H5 : Hp) (Q' : VK), SqT K H5 fa (row.map V.str) → (∀ H6 q, Same H5 H6 → SqT K H6 q ((row ++ [z]).map V.str) → Q' (.ref q) H6) → ∀ t, H5 t = none → rCatA K (.ref fa) (.ref t) (upd H5 t (.tup [.str z])) Q' := fun z H5 Q' h1 h2 t nt => by
      have st : Same H5 (upd H5 t (.tup [.str z])) := .new nt
      refine catA (xs := row.map V.str) (ys := ([z] : List Str).map V.str) (st.sqT h1) (sT upd_same) (by rw [List.length_map, List.length_map, List.length_singleton]; exact szl (by omega)) fun H6 q s6 hq => ?_
      rw [← List.map_append] at hq
      exact h2 H6 q (st.trans s6) hq
    have ok : ∀ z, PyData.strOk z = true → ∀ t, t ∈ row ++ [z] → PyData.strOk t = true := fun z hz t ht => by
      rcases List.mem_append.mp ht with ht | ht
      · exact hrk t ht
      · rw [List.mem_singleton.mp ht]; exact hz
    have okx := ok x (hsk x (List.mem_of_getElem? hx))
    have okp : ∀ p, p ∈ rm.2 → ∀ t, t ∈ row ++ [p.1] → PyData.strOk t = true := fun p hp => ok p.1 (hM.str rm hrM p hp)
    have e2' : PyData.eqv (.tuple (rm.2.map stD)) (.tuple []) = decide (rm.2 = []) := eqvStT rm.2 []
    rw [e2']
    by_cases hem : rm.2 = []
    · rw [decide_eq_true hem]
      refine iteF (iteF ?_)
      refine ⟨_, rfl, _, rfl, (by show 1 ≤ sizeLine; decide), fun t2 nt2 => cat x H4 _ hfa4 (fun H6 q s6 hq => ?_) t2 nt2⟩
      exact ⟨here, q, row ++ [x], _, _, _, rfl, b14.trans (.of s6), (p4.same s6).le (by omega), hh, hq, by rw [List.length_append, List.length_singleton]; omega, okx⟩
    · rw [decide_eq_false hem]
      refine iteT ⟨_, rfl, pen, wl, _, 4, rfl, by decide, by decide, by omega, p4, fun H5 d hd b5 p5 => ?_⟩
      have b15 := b14.trans b5
      have hfa5 := p4.sqT b5 hfa4
      refine ⟨_, _, rfl, rfl, _, rfl, ite2 (fun _ => ?_) (fun _ => ?_)⟩
      · have b05 := b04.trans b5
        have hpos : 0 < rm.2.length := Nat.pos_of_ne_zero fun z => hem (List.eq_nil_of_length_eq_zero z)
        refine ⟨_, rfl, _, rfl, _, rfl, rb, _, rfl, .inr (hp.sqT b05 e3), ?_⟩
        refine ⟨pen, wl, _, ls.length, rfl, by omega, by omega, by omega, p5, fun H6 c2 hc2 b6 p6 => ?_⟩
        obtain ⟨u, hu⟩ : ∃ u, ls[c2]? = some u := ⟨_, List.getElem?_eq_getElem hc2⟩
        obtain ⟨p, pa, hpp, rfl, hpa⟩ := stsAt e4 hu
        have b06 := b05.trans b6
        refine ⟨rb, _, _, _, rfl, rfl, hp.sqT b06 e3, atI_nat (j := c2) hu, ?_⟩
        refine ⟨pa, _, rfl, hp.sqT b06 hpa, rfl, _, _, rfl, _, _, rfl, rfl, ?_⟩
        refine ⟨_, rfl, _, rfl, (by show 1 ≤ sizeLine; decide), fun t2 nt2 => cat p.1 H6 _ (p5.sqT b6 hfa5) (fun H7 q s7 hq => ?_) t2 nt2⟩
        exact ⟨p.2, q, row ++ [p.1], _, _, _, rfl, (b15.trans b6).trans (.of s7), (p6.same s7).le (by omega), hM.tgt rm hrM p (List.mem_of_getElem? hpp), hq, by rw [List.length_append, List.length_singleton]; omega, okp p (List.mem_of_getElem? hpp)⟩
      · refine ⟨_, rfl, _, rfl, (by show 1 ≤ sizeLine; decide), fun t2 nt2 => cat x H5 _ hfa5 (fun H6 q s6 hq => ?_) t2 nt2⟩
        exact ⟨here, q, row ++ [x], _, _, _, rfl, b15.trans (.of s6), (p5.same s6).le (by omega), hh, hq, by rw [List.length_append, List.length_singleton]; omega, okx⟩
  · rintro σ H2 ⟨here, fa, row, o5, o6, o7, rfl, b2, p2, hh, hfa, hrl, hrk⟩
    rw [Int.toNat_natCast] at hrl p2
    exact ⟨_, rfl, k _ fa row (be.trans b2) (p2.le (by omega)) hfa (by omega) hrk⟩
end
end Sw
set_option Elab.async false
set_option maxRecDepth 100000
set_option maxHeartbeats 8000000
namespace Sw
open PySem L2 PySem.Spec PyProof.Rows
/-! ### data of a machine is small -/
theorem sign_len {t : Str} (h : signS t = true) : t.length ≤ 6 := by
  unfold signS at h
  rw [Bool.and_eq_true, Bool.and_eq_true] at h
  exact of_decide_eq_true h.1.2
theorem bdDs_of : ∀ {ds : List PyData}, (∀ d, d ∈ ds → bdD d = true) → bdDs ds = true
  | [], _ => rfl
  | d :: ds, h => by rw [bdDs, h d (by simp), bdDs_of fun e he => h e (List.mem_cons_of_mem _ he)]; rfl
theorem IsM.bd {M : List Rm} (h : IsM M) : bdD (maD M) = true := by
  unfold maD
  rw [bdD, Bool.and_eq_true]
  refine ⟨decide_eq_true (by rw [List.length_map]; have := h.le; omega), bdDs_of fun d hd => ?_⟩
  obtain ⟨r, hr, rfl⟩ := List.mem_map.mp hd
  have hdeg := h.deg r hr
  unfold rmD
  rw [bdD, Bool.and_eq_true]
  refine ⟨by simp, bdDs_of fun d hd => ?_⟩
  simp only [List.mem_cons, List.not_mem_nil, or_false] at hd
  rcases hd with rfl | rfl
  · rfl
  · rw [bdD, Bool.and_eq_true]
    refine ⟨decide_eq_true (by rw [List.length_map]; omega), bdDs_of fun d hd => ?_⟩
    obtain ⟨p, hp, rfl⟩ := List.mem_map.mp hd
    have := sign_len ((h.rm r hr).1 p hp).1
    unfold stD
    rw [bdD, Bool.and_eq_true]
    refine ⟨by simp, bdDs_of fun d hd => ?_⟩
    simp only [List.mem_cons, List.not_mem_nil, or_false] at hd
    rcases hd with rfl | rfl
    · rw [bdD]; exact decide_eq_true (by omega)
    · rfl
/-! ### rows as data -/
theorem layTx : ∀ l : List Str, (∀ t, t ∈ l → PyData.strOk t = true) → PyData.canLayAll0 (l.map PyData.str) = true
  | [], _ => by simp [PyData.canLayAll0]
  | t :: l, h => by
    have h1 := layTx l fun x hx => h x (List.mem_cons_of_mem _ hx)
    have h2 := h t (by simp)
    simp [PyData.canLayAll0, PyData.canLay0, h1, h2]
theorem depthTx : ∀ l : List Str, PyData.depthAll (l.map PyData.str) = 0
  | [] => by simp [PyData.depthAll]
  | t :: l => by simp [PyData.depthAll, PyData.depth, depthTx l]
theorem shTx (l : List Str) (h : ∀ t, t ∈ l → PyData.strOk t = true) : SeqAt.shaped (.tuple (l.map PyData.str)) = true := by
  unfold SeqAt.shaped
  rw [PyData.canLay0, layTx l h, PyData.depth, depthTx]
  rfl
theorem eqvTx0 (l : List Str) : PyData.eqv (.tuple (l.map PyData.str)) (.tuple []) = decide (l = []) := by
  cases l <;> simp [PyData.eqv, PyData.eqvAll]
theorem dpTx {K : PySem.W.Frag} {H : Hp} : ∀ l : List Str, DpAll K H (l.map V.str) (l.map PyData.str)
  | [] => .nil
  | t :: l => .cons (.str t) (dpTx l)
section
variable {P : Program} {w : World} {K : PySem.W.Frag} {mg : Str → Option Value} {base : Heap}
abbrev n_law_gpart_right : List Str := ["pen", "machine", "signs", "orbit", "k", "still", "part", "again", "row", "to"]
theorem sc_law_gpart_right : FnScope n_law_gpart_right ["pen", "machine", "signs", "orbit", "k"] (defScope s_law_gpart_right) := ⟨rfl, rfl, rfl, by decide +kernel, rfl, by decide +kernel, by decide +kernel⟩
def Tb3 (H : Hp) (T R S : Addr) : Prop := H T = some (TabE T) ∧ H R = some (TabE R) ∧ H S = some (TabE S)
theorem Tb3.same {H H' : Hp} {T R S : Addr} (h : Tb3 H T R S) (s : Same H H') : Tb3 H' T R S := ⟨s _ _ h.1, s _ _ h.2.1, s _ _ h.2.2⟩
theorem Tb3.bt {H H' : Hp} {T R S pen wl : Addr} {n : Nat} (h : Tb3 H T R S) (p : PenAt H pen wl n) (b : Bt pen wl H H') : Tb3 H' T R S := by
  obtain ⟨m, t, ws, h1, h2, _⟩ := p
  have go : ∀ {a : Addr}, H a = some (TabE a) → H' a = some (TabE a) := fun {a} q => b _ _ q (fun e => by rw [e, h1] at q; cases q) (fun e => by rw [e, h2] at q; cases q)
  exact ⟨go h.1, go h.2.1, go h.2.2⟩
def spPartRight (K : PySem.W.Frag) (T1 R1 S1 : Addr) : Sp := fun vs H Q _ => ∃ (pen wl sg oa : Addr) (T : Nat) (v : V) (M : List Rm) (ss : List Str) (o : List Nat) (k : Nat), vs = [.ref pen, v, .ref sg, .ref oa, .int (k : Int)] ∧ T ≤ 80000 ∧ PenAt H pen wl T ∧ Dp K H v (maD M) ∧ MOk M ∧ HasEnd M ∧ AllEnd M ∧
  (∀ t, t ∈ sgs M → signS t = true ∧ t ∈ ss) ∧ H sg = some (.lst (ss.map V.str)) ∧ sg ≠ pen ∧ sg ≠ wl ∧ 0 < ss.length ∧ ss.length ≤ 6 ∧ (∀ t, t ∈ ss → PyData.strOk t = true) ∧ H oa = some (.lst (natV o)) ∧ oa ≠ pen ∧ oa ≠ wl ∧ IsOrb (Eg (cutM M)) M.length o ∧ k ∈ o ∧ Tb3 H T1 R1 S1 ∧
  ∀ H', Bt pen wl H H' → PenAt H' pen wl (T + 64) → Q (.bl true) H'
theorem ok_law_gpart_right {T1 R1 S1 : Addr} (F : DefAt K mg "_law_gpart_right" s_law_gpart_right ["pen", "machine", "signs", "orbit", "k"]) (d_steady : DefOk P w K mg base "steady" 1 ["machine"] (spSteady K)) (d_part_of : DefOk P w K mg base "part_of" 4 ["machine", "room"] (spPartOf K)) (d_is_machine : DefOk P w K mg base "is_machine" 7 ["thing"] (spIsMach K T1 R1 S1))
    (d__law_grow : DefOk P w K mg base "_law_grow" 2 ["pen", "machine", "signs", "k"] (spGrow K)) (d__law_gsame : DefOk P w K mg base "_law_gsame" 2 ["found", "due"] (spSame 1)) (d_runs : DefOk P w K mg base "runs" 1 ["machine", "row"] (spRuns K)) (d__law_gends_so : DefOk P w K mg base "_law_gends_so" 4 ["machine", "signs", "orbit", "k", "row"] (spEndsSo K)) (d__law_gstep : DefOk P w K mg base "_law_gstep" 2 ["machine", "signs", "orbit", "k", "sign"] (spGstep K)) (b_range : mg "range" = none) :
    DefOk P w K mg base "_law_gpart_right" 8 ["pen", "machine", "signs", "orbit", "k"] (spPartRight K T1 R1 S1) := by
  refine F.ok sc_law_gpart_right (fun vs H Q E h => ?_) (fun f cdv A outer s H vs Q E hr h => ?_)
  · obtain ⟨_, _, _, _, _, _, _, _, _, _, rfl, _⟩ := h
    rfl
  obtain ⟨pen, wl, sg, oa, T, v, M, ss, o, x0, rfl, hT, hp, hv, hM, hE, hA, hsM, hsg, nsp, nsw, hs0, hs6, hsk, hoa, nop, now, hO, hx0, hTb, k⟩ := h
  refine ⟨_, (pss_cons (ps_set (i := 5) sc_law_gpart_right.nd rfl (Or.inl rfl) (pe_callD d_steady (hr.mono (by decide)) rfl (pa_cons (pv 1) pa_nil)))
    (pss_cons (ps_set (i := 6) sc_law_gpart_right.nd rfl (Or.inl rfl) (pe_callD d_part_of (hr.mono (by decide)) rfl (pa_cons (pv 1) (pa_cons (pv 4) pa_nil))))
    (pss_cons (ps_if (pt_cmpR op_notB (pe_callD d_is_machine (hr.mono (by decide)) rfl (pa_cons (pv 6) pa_nil)) pe_bl (nomark _)) (pss_one (ps_ret pe_bl)) pss_nil)
    (pss_cons (ps_for PassesOwn.never rfl (pi_range1 rfl b_range (pa_cons pe_int pa_nil)) (pg_name (i := 7) sc_law_gpart_right.nd rfl (Or.inl rfl))
      (pss_cons (ps_set (i := 8) sc_law_gpart_right.nd rfl (Or.inl rfl) (pe_callD d__law_grow (hr.mono (by decide)) rfl (pa_cons (pv 0) (pa_cons (pv 1) (pa_cons (pv 2) (pa_cons (pv 4) pa_nil))))))
    (pss_cons (ps_if (pt_not (pt_val (pe_callD d__law_gsame (hr.mono (by decide)) rfl (pa_cons (pe_callD d_runs (hr.mono (by decide)) rfl (pa_cons (pv 6) (pa_cons (pv 8) pa_nil))) (pa_cons (pe_callD d__law_gends_so (hr.mono (by decide)) rfl (pa_cons (pv 1) (pa_cons (pv 5) (pa_cons (pv 3) (pa_cons (pv 4) (pa_cons (pv 8) pa_nil)))))) pa_nil))))) (pss_one (ps_ret pe_bl)) pss_nil)
    (pss_cons (ps_set (i := 9) sc_law_gpart_right.nd rfl (Or.inl rfl) (pe_ifExp (pt_cmpR (op_eqD hr.units) (pv 8) (pe_tup pa_nil) (nomark _)) pe_non (pe_callD d__law_gstep (hr.mono (by decide)) rfl (pa_cons (pv 1) (pa_cons (pv 5) (pa_cons (pv 3) (pa_cons (pv 4) (pa_cons (pe_ix ix_tup (pv 8) pe_int (fun _ _ => rfl)) pa_nil))))))))
    (pss_one (ps_if (PW.pt (pw_and (pt_cmp (pc_notN (pv 9)) rfl) (pw_and1 (pt_cmpR op_ne (pe_callD d_runs (hr.mono (by decide)) rfl (pa_cons (pe_callD d_part_of (hr.mono (by decide)) rfl (pa_cons (pv 1) (pa_cons (pv 9) pa_nil))) (pa_cons (pe_slice sl_tupA (pv 8) (po_some pe_int) po_none) pa_nil))) (pe_callD d_runs (hr.mono (by decide)) rfl (pa_cons (pv 6) (pa_cons (pv 8) pa_nil))) (nomark _))))) (pss_one (ps_ret pe_bl)) pss_nil))))))
    (pss_one (ps_ret pe_bl)))))), ?_⟩
  have hlt : ∀ y, y ∈ o → y < M.length := fun y hy => ((hO.mem y hy y).mp hy).1
  have hol : o.length ≤ 1000 := by
    have := nodup_le (hO.up.imp fun h => Nat.ne_of_lt h) hlt
    have := hM.le
    omega
  refine ⟨_, rfl, v, M, rfl, hv, hM, hE, fun H1 st s1 hst nst => ?_⟩
  refine ⟨_, rfl, _, rfl, v, M, x0, rfl, dpS s1 hv, hM, hE, hlt x0 hx0, fun H2 u c κ s2 ho hxc hK hBf hu => ?_⟩
  have ec : c = o := ho.eq hO hxc hx0
  subst ec
  obtain ⟨ρ, hBf⟩ := hBf
  have s12 := s1.trans s2
  have hIM := part_isM hM hA hO hx0 hK hBf hsM hs6
  have hrun := fun row => part_runs hM hlt hx0 hK hBf row
  obtain ⟨L1, eL1⟩ : ∃ L1, L1 = leastC (partM (cutM M) c) κ (kAt κ x0) := ⟨_, rfl⟩
  rw [← eL1] at hu hIM hrun
  obtain ⟨t1, t2, t3⟩ := hTb.same s12
  refine ⟨_, rfl, u, maD L1, rfl, hu, hIM.bd, fun N e => ?_, t1, t2, t3, fun b H3 hb s3 => ?_⟩
  · rw [← maD_inj e]
    have := hIM.few
    omega
  have eb : b = true := hb.mpr ⟨_, rfl, hIM⟩
  subst eb
  refine ⟨true, true, rfl, rfl, _, rfl, iteF' (by decide) ?_⟩
  have s13 := s12.trans s3
  have hst3 := (s2.trans s3) _ _ hst
  have hu3 := dpS s3 hu
  have p3 := hp.same s13
  have nst' : st ≠ pen ∧ st ≠ wl := hp.ne nst
  have b03 : Bt pen wl H H3 := .of s13
  refine ⟨4, rfl, by decide, by decide, ?_⟩
  refine for_range (lo := 0) (n := 4) (fun j σ H' => ∃ (o7 o8 o9 : Option V), σ = [some (.ref pen), some v, some (.ref sg), some (.ref oa), some (.int (x0 : Int)), some (.ref st), some u, o7, o8, o9] ∧ Bt pen wl H3 H' ∧ PenAt H' pen wl (T + 16 * j)) ⟨none, none, none, rfl, .refl, p3⟩ ?_ ?_
  · rintro j σ H4 hj ⟨o7, o8, o9, rfl, b4, p4⟩
    have b04 := b03.trans b4
    refine ⟨_, rfl, _, rfl, _, rfl, _, rfl, pen, wl, sg, _, v, M, ss, x0, rfl, by omega, p4, hp.dp b04 (noL_ma M) hv, hM, b04 _ _ hsg nsp nsw, nsp, nsw, hs0, hs6, hsk, hlt x0 hx0, fun H5 ra row b5 p5 hra hrl hrk => ?_⟩
    have b05 := b04.trans b5
    have b35 := b4.trans b5
    have hv5 := hp.dp b05 (noL_ma M) hv
    have hu5 := p3.dp b35 (noL_ma _) hu3
    have hst5 := b35 _ _ hst3 nst'.1 nst'.2
    have hoa5 := b05 _ _ hoa nop now
    refine ⟨_, rfl, _, rfl, u, L1, ra, row, rfl, hu5, hIM, hra, fun H6 s6 => ?_⟩
    refine ⟨_, rfl, _, rfl, _, rfl, _, rfl, _, rfl, v, M, st, oa, ra, c, x0, row, rfl, dpS s6 hv5, hM, hE, s6 _ _ hst5, s6 _ _ hoa5, hol, hlt, hlt x0 hx0, s6.sqT hra, fun H7 s7 => ?_⟩
    refine ⟨_, _, rfl, .inr (.inl ⟨_, congrArg V.bl (hrun row), rfl⟩), fun H8 s8 => ⟨_, rfl, iteF' (by decide) ?_⟩⟩
    have s58 := s6.trans (s7.trans s8)
    refine ⟨_, rfl, (by show 0 ≤ sizeLine; decide), fun e ne => ?_⟩
    have se : Same H8 (upd H8 e (.tup [])) := .new ne
    have he : (upd H8 e (.tup [])) e = some (.tup []) := upd_same
    generalize upd H8 e (.tup []) = H9 at se he ⊢
    have s59 := s58.trans se
    have b39 := b35.trans (.of s59)
    have p9 := p5.same s59
    refine ⟨.tuple (row.map .str), .tuple [], .tup (s59.sqT hra) (dpTx row), .tup (sT he) .nil, shTx row hrk, shTupNil, _, rfl, ?_⟩
    rw [eqvTx0]
    cases row with
    | nil =>
      refine iteT ?_
      refine ⟨_, rfl, _, rfl, iteF' (by decide) (iteF ?_)⟩
      exact ⟨_, _, _, rfl, b39, p9.le (by omega)⟩
    | cons r0 row =>
      refine iteF' (by simp) ?_
      refine ⟨_, rfl, _, rfl, _, rfl, _, rfl, _, rfl, ra, _, 0, _, rfl, rfl, s59.sqT hra, atI_nat (j := 0) rfl, v, M, st, oa, c, x0, r0, rfl, dpS s59 hv5, hM, s59 _ _ hst5, s59 _ _ hoa5, hlt x0 hx0, fun H10 s10 => ?_⟩
      have s510 := s59.trans s10
      have b310 := b39.trans (.of s10)
      have p10 := p9.same s10
      have hgo0 : goM L1 0 (r0 :: row) = endsSo M c (stepF M c x0 r0) row := hrun (r0 :: row)
      cases es : stepF M c x0 r0 with
      | none =>
        refine ⟨_, rfl, _, rfl, iteF' (by decide) (iteF ?_)⟩
        exact ⟨_, _, _, rfl, b310, p10.le (by omega)⟩
      | some y =>
        have hyc : y ∈ c := stepF_lt hlt es
        refine ⟨_, rfl, _, rfl, iteT' (show (!decide (V.int (y : Int) = V.non)) = true by rw [decide_eq_false (fun e => by cases e)]; rfl) ?_⟩
        refine ⟨_, rfl, _, rfl, v, M, y, rfl, dpS s510 hv5, hM, hE, hlt y hyc, fun H11 u2 c2 κ2 s11 ho2 hyc2 hK2 hBf2 hu2 => ?_⟩
        have ec2 : c2 = c := ho2.eq hO hyc2 hyc
        subst ec2
        obtain ⟨ρ2, hBf2⟩ := hBf2
        have hIM2 := part_isM hM hA hO hyc hK2 hBf2 hsM hs6
        have hrun2 := part_runs hM hlt hyc hK2 hBf2 row
        obtain ⟨L2, eL2⟩ : ∃ L2, L2 = leastC (partM (cutM M) c2) κ2 (kAt κ2 y) := ⟨_, rfl⟩
        rw [← eL2] at hu2 hIM2 hrun2
        have s511 := s510.trans s11
        refine ⟨_, rfl, 1, rfl, ra, _, rfl, s511.sqT hra, fun q => ?_, fun _ p np => ?_⟩
        · exfalso
          have q1 := q.1
          rw [show (1 : Int) = ((1 : Nat) : Int) from rfl, HT.sIx_nat] at q1
          simp only [List.map_cons, List.length_cons] at q1
          omega
        rw [show (1 : Int) = ((1 : Nat) : Int) from rfl, cut_drop1]
        have sp : Same H11 (upd H11 p (.tup (((r0 :: row).map V.str).drop 1))) := .new np
        have hp' : (upd H11 p (.tup (((r0 :: row).map V.str).drop 1))) p = some (.tup (row.map V.str)) := upd_same
        generalize upd H11 p (.tup (((r0 :: row).map V.str).drop 1)) = H12 at sp hp' ⊢
        have s512 := s511.trans sp
        refine ⟨u2, L2, p, row, rfl, dpS sp hu2, hIM2, sT hp', fun H13 s13' => ?_⟩
        have s513 := s512.trans s13'
        refine ⟨_, rfl, _, rfl, u, L1, ra, r0 :: row, rfl, dpS s513 hu5, hIM, s513.sqT hra, fun H14 s14 => ⟨rfl, _, rfl, ?_⟩⟩
        have eq : goM L2 0 row = goM L1 0 (r0 :: row) := by rw [hrun2, hgo0, es]
        refine iteF' (by rw [eq, decide_eq_true rfl]; decide) ?_
        exact ⟨_, _, _, rfl, b310.trans (.of (s11.trans (sp.trans (s13'.trans s14)))), (p10.same (s11.trans (sp.trans (s13'.trans s14)))).le (by omega)⟩
  · rintro σ H4 ⟨o7, o8, o9, rfl, b4, p4⟩
    exact k _ (b03.trans b4) (p4.le (by omega))
end
end Sw
set_option Elab.async false
set_option maxRecDepth 100000
set_option maxHeartbeats 8000000
namespace Sw
open PySem L2 PySem.Spec PyProof.Rows
theorem Bt.same {p q : Addr} {H H' : Hp} (b : Bt p q H H') (h1 : H p = none) (h2 : H q = none) : Same H H' := fun a o e => b a o e (ne_of_none e h1) (ne_of_none e h2)
theorem dpLLAt {H0 H : Hp} {fl : Addr} {L : List (List Nat)} (h : LLAt H0 H fl L) : True := trivial
section
variable {P : Program} {w : World} {K : PySem.W.Frag} {mg : Str → Option Value} {base : Heap}
abbrev n_law : List Str := ["script", "pen", "turn", "signs", "machine", "orbit", "k"]
theorem sc_law : FnScope n_law ["script"] (defScope s_law) := ⟨rfl, rfl, rfl, by decide +kernel, rfl, by decide +kernel, by decide +kernel⟩
def spLaw (K : PySem.W.Frag) (T1 R1 S1 : Addr) : Sp := fun vs H Q _ => ∃ (a : Addr) (ns : List Int), vs = [.ref a] ∧ SqL K H a (ns.map V.int) ∧ ns.length ≤ 63 ∧ Tb3 H T1 R1 S1 ∧ ∀ H', Same H H' → Q (.bl true) H'
theorem ok_law {f : Addr} {fd : FuncData} {T1 R1 S1 : Addr} (F : Fun K "law" "law" s_law f fd) (d__law_gpen : DefOk P w K mg base "_law_gpen" 1 ["script"] (spPen K)) (d__law_gdraw : DefOk P w K mg base "_law_gdraw" 1 ["pen", "many"] spDraw) (d__law_gsigns : DefOk P w K mg base "_law_gsigns" 2 ["pen", "many"] spSigns) (d__law_gmachine : DefOk P w K mg base "_law_gmachine" 3 ["pen", "most", "signs"] (spMachine K))
    (d_cut_orbits : DefOk P w K mg base "cut_orbits" 4 ["machine"] (spCutOrbs K)) (d__law_gpart_right : DefOk P w K mg base "_law_gpart_right" 8 ["pen", "machine", "signs", "orbit", "k"] (spPartRight K T1 R1 S1)) (b_range : mg "range" = none) (b_all : mg "all" = none) :
    FnOk P w K mg base CX0 9 f fd ["script"] (spLaw K T1 R1 S1) := by
  refine F.ok sc_law (fun vs H Q E h => ?_) (fun cdv A outer s H vs Q E hr h => ?_)
  · obtain ⟨_, _, rfl, _⟩ := h
    rfl
  obtain ⟨a, ns, rfl, hS, hlen, hTb, k⟩ := h
  refine ⟨_, (pss_cons (ps_set (i := 1) sc_law.nd rfl (Or.inr rfl) (pe_callD d__law_gpen (hr.mono (by decide)) rfl (pa_cons (pv 0) pa_nil)))
    (pss_cons (ps_for PassesOwn.never rfl (pi_range1 rfl b_range (pa_cons pe_int pa_nil)) (pg_name (i := 2) sc_law.nd rfl (Or.inl rfl))
      (pss_cons (ps_set (i := 3) sc_law.nd rfl (Or.inr rfl) (pe_callD d__law_gsigns (hr.mono (by decide)) rfl (pa_cons (pv 1) (pa_cons (pe_op op_add pe_int (pe_callD d__law_gdraw (hr.mono (by decide)) rfl (pa_cons (pv 1) (pa_cons pe_int pa_nil)))) pa_nil))))
    (pss_cons (ps_set (i := 4) sc_law.nd rfl (Or.inr rfl) (pe_callD d__law_gmachine (hr.mono (by decide)) rfl (pa_cons (pv 1) (pa_cons pe_int (pa_cons (pv 3) pa_nil)))))
    (pss_one (ps_for PassesOwn.never rfl (pi_list (pe_callD d_cut_orbits (hr.mono (by decide)) rfl (pa_cons (pv 4) pa_nil))) (pg_name (i := 5) sc_law.nd rfl (Or.inr rfl))
      (pss_one (ps_if (pt_not (pt_val (pe_callB (cr_all rfl) (by rfl) b_all (by decide +kernel) (pa_cons (pe_lc (own := [("k", 6)]) (g := gName 6) rfl sc_law.nd (pi_list (pv 5)) (blkOk_by (own := [("k", 6)]) (N := n_law) (sc := defScope s_law) (by decide +kernel)) (fun _ _ _ _ _ => (pg_name (i := 6) sc_law.nd rfl (Or.inl rfl))) (fun _ _ _ _ _ => pts_nil) (fun _ _ _ _ _ => (pe_callD d__law_gpart_right (hr.mono (Nat.le_refl _)) rfl (pa_cons (pv 1) (pa_cons (pv 4) (pa_cons (pv 3) (pa_cons (pv 5) (pa_cons (pv 6) pa_nil)))))))) pa_nil)))) (pss_one (ps_ret pe_bl)) pss_nil)))))))
    (pss_one (ps_ret pe_bl)))), ?_⟩
  refine ⟨_, rfl, a, ns, rfl, hS, hlen, fun H1 pen wl s1 npn nwn p1 => ?_⟩
  have hTb1 := hTb.same s1
  refine ⟨3, rfl, by decide, by decide, ?_⟩
  refine for_range (lo := 0) (n := 3) (fun i σ H' => ∃ (o2 o3 o4 o5 : Option V), σ = [some (.ref a), some (.ref pen), o2, o3, o4, o5, none] ∧ Bt pen wl H1 H' ∧ PenAt H' pen wl (20000 * i)) ⟨_, _, _, _, rfl, .refl, p1⟩ ?_ (fun σ H' ⟨_, _, _, _, e, b, _⟩ => by
    rw [e]
    exact k _ (Bt.same (p := pen) (q := wl) ((Bt.of s1).trans b) npn nwn))
  rintro i σ H9 hi ⟨o2, o3, o4, o5, rfl, b9, p9⟩
  refine ⟨_, rfl, _, rfl, pen, wl, _, 3, rfl, by decide, by decide, by omega, p9, fun H10 d hd' b10 p10 => ?_⟩
  refine ⟨_, _, rfl, rfl, pen, wl, _, 1 + d, by rw [Int.natCast_add]; rfl, by omega, by omega, by omega, p10, fun H11 sg ss b11 p11 hsg n1 n2 hsl hss hsn hsS => ?_⟩
  refine ⟨_, rfl, _, rfl, pen, wl, sg, _, 7, ss, rfl, by decide, by decide, by omega, p11, hsg, n2, n1, by omega, by omega, hss, hsn, fun H12 v M b12 p12 hv hM hE hA hMl hMS => ?_⟩
  have hsg12 := b12 _ _ hsg n2 n1
  have b112 := b9.trans (b10.trans (b11.trans b12))
  have hTb12 := hTb1.bt p1 b112
  refine ⟨_, rfl, v, M, rfl, hv, hM, hE, fun H13 fl L s13 hL hO => ?_⟩
  obtain ⟨as, hfl, hap, nfl⟩ := hL
  have hv13 := dpS s13 hv
  have p13 := p12.same s13
  have b113 := b112.trans (.of s13)
  have hsg13 := s13 _ _ hsg12
  have hTb13 := hTb12.same s13
  have nflp := p12.ne nfl
  have hal := pairedLen hap
  have hLl : L.length ≤ 7 := by
    have h1 := nodup_le (n := M.length) (l := L.map hd) (List.pairwise_map.mpr (hO.up.imp fun h => Nat.ne_of_lt h)) fun x hx => by
      obtain ⟨c, hc, rfl⟩ := List.mem_map.mp hx
      have o := hO.o c hc
      exact ((o.mem _ (hd_mem o.ne) _).mp (hd_mem o.ne)).1
    rw [List.length_map] at h1
    omega
  refine ⟨fl, rfl, ⟨_, sL hfl⟩, ?_⟩
  refine for_list (K := K) (a := fl) (xs := as.map V.ref) (fun j σ H' => ∃ (o5 : Option V), σ = [some (.ref a), some (.ref pen), some (.int (0 + (i : Int))), some (.ref sg), some v, o5, none] ∧ Bt pen wl H13 H' ∧ PenAt H' pen wl (20000 * i + 1010 + 600 * j)) ⟨o5, rfl, .refl, p13.le (by omega)⟩ (fun j σ H' _ ⟨_, _, g, _⟩ => sL (g _ _ hfl nflp.1 nflp.2)) ?_ ?_
  · rintro j x σ H14 hx ⟨o5, rfl, b14, p14⟩
    rw [List.getElem?_map] at hx
    obtain ⟨q, hq, rfl⟩ := Option.map_eq_some_iff.mp hx
    obtain ⟨c, hc, hqc, hqn⟩ := pairedAtL hap hq
    have hj : j < as.length := (List.getElem?_eq_some_iff.mp hq).1
    have hcL := List.mem_of_getElem? hc
    have oc := hO.o c hcL
    have hclt : ∀ x, x ∈ c → x < M.length := fun x hx => ((oc.mem x hx x).mp hx).1
    have hcl : c.length ≤ 7 := by have := nodup_le (oc.up.imp fun h => Nat.ne_of_lt h) hclt; omega
    have nqp := p12.ne hqn
    have hq14 := b14 _ _ hqc nqp.1 nqp.2
    refine ⟨_, rfl, q, rfl, ⟨_, sL hq14⟩, fun D nD => ?_⟩
    have pD := p14.ne nD
    refine lc_list (K := K) (a := q) (xs := natV c) (fun m H' => ∃ bs : List Bool, Bt pen wl H14 H' ∧ PenAt H' pen wl (20000 * i + 1010 + 600 * j + 64 * m) ∧ H' D = some (.lst (bs.map V.bl)) ∧ bs.all id = true ∧ bs.length ≤ m) ⟨[], (Bt.refl).w nD, p14.w pD, upd_same, rfl, Nat.le_refl _⟩ (fun m H' _ ⟨_, g, _⟩ => sL (g _ _ hq14 nqp.1 nqp.2)) ?_ ?_
    · rintro m u H15 hu ⟨bs, b15, p15, hD, hb, hbl⟩
      obtain ⟨y, hy, rfl⟩ := ints_get hu
      have hm := (List.getElem?_eq_some_iff.mp hy).1
      have b1315 := b14.trans b15
      refine ⟨rfl, ?_⟩
      refine ⟨_, rfl, _, rfl, _, rfl, _, rfl, _, rfl, pen, wl, sg, q, _, v, M, ss, c, y, rfl, by omega, p15, p13.dp b1315 (noL_ma M) hv13, hM, hE, hA, fun t ht => ⟨hsS t (hMS t ht), hMS t ht⟩, b1315 _ _ hsg13 n2 n1, n2, n1, by omega, by omega, hss, b1315 _ _ hqc nqp.1 nqp.2, nqp.1, nqp.2, oc, List.mem_of_getElem? hy, hTb13.bt p13 b1315, fun H16 b16 p16 => ?_⟩
      have hD16 := b16 _ _ hD pD.1 pD.2
      refine ⟨_, hD16, szb (by rw [List.length_map]; omega), bs ++ [true], (b15.trans b16).w nD, (p16.w pD).le (by omega), by rw [upd_same, List.map_append]; rfl, by rw [List.all_append, hb]; rfl, by rw [List.length_append, List.length_singleton]; omega⟩
    · rintro H15 ⟨bs, b15, p15, hD, hb, hbl⟩
      rw [ints_len] at p15 hbl
      refine ⟨D, bs, rfl, sL hD, ?_⟩
      dsimp only
      rw [hb]
      refine ⟨_, rfl, iteF' (by decide) ?_⟩
      exact ⟨_, rfl, b14.trans b15, p15.le (by omega)⟩
  · rintro σ H14 ⟨o5, rfl, b14, p14⟩
    rw [List.length_map, hal] at p14
    exact ⟨_, _, _, _, rfl, b113.trans b14, p14.le (by omega)⟩
end
end Sw
set_option Elab.async false
set_option maxRecDepth 100000
set_option maxHeartbeats 8000000
namespace Sw
open PySem L2 PySem.Spec PyProof.Rows
theorem defAt_mk {K : PySem.W.Frag} {h : Heap} {mg : Str → Option Value} {x : Str} {st : Stmt} {ps : List Str} {f : Addr} {od an : Option Addr} {sl : Array (Option Value)} {oc kV dc pm cd ct : Value} (X : K.In h) (G : h.Ns mainGlobals mg)
    (a : PySem.W.nsIn K mainGlobals x = some (some (.ref f))) (l : K.lookup f = some ⟨oc, od, .func (PySem.W.fnOf x x (defArgs st) (defBody st) (defScope st) .none kV dc pm an cd ct), sl⟩) (c : PySem.W.codeIn K cd x = true) (k : PySem.W.keepIn K (.ref f) = true)
    (b : Binds K (PySem.W.fnOf x x (defArgs st) (defBody st) (defScope st) .none kV dc pm an cd ct) ps []) : DefAt K mg x st ps :=
  ⟨f, _, fun_mk (st := st) l c k, PySem.W.mg_of X G a, b⟩
theorem defTab_mk {K : PySem.W.Frag} {h base : Heap} {mg : Str → Option Value} {x : Str} {st : Stmt} {ps : List Str} {f c T : Addr} {od an : Option Addr} {sl : Array (Option Value)} {oc kV dc pm ct : Value} (X : K.In h) (G : h.Ns mainGlobals mg)
    (a : PySem.W.nsIn K mainGlobals x = some (some (.ref f))) (l : K.lookup f = some ⟨oc, od, .func (PySem.W.fnOf x x (defArgs st) (defBody st) (defScope st) .none kV dc pm an (.ref c) ct), sl⟩) (cc : PySem.W.codeIn K (.ref c) x = true) (k : PySem.W.keepIn K (.ref f) = true)
    (b : Binds K (PySem.W.fnOf x x (defArgs st) (defBody st) (defScope st) .none kV dc pm an (.ref c) ct) ps []) (TB : GxR.TabB base mg c T) : DefTab K mg base x st ps T :=
  ⟨f, oc, od, kV, dc, pm, an, c, ct, sl, l, cc, k, PySem.W.mg_of X G a, b, TB⟩
theorem all_mk {l : PySem.W.OpenLaw} {w : World} {K : PySem.W.Frag} {h : Heap} {mg : Str → Option Value} {q : Program} {f1 f2 f3 f4 f5 f6 f7 f8 f9 f10 f11 f12 f13 f14 f15 f16 f17 f18 f19 f20 f21 f22 f23 f24 f25 f26 f27 f28 f29 f30 f31 f32 f33 f34 c2 T2 c4 T4 c3 T3 fa : Addr} {od1 an1 od2 an2 od3 an3 od4 an4 od5 an5 od6 an6 od7 an7 od8 an8 od9 an9 od10 an10 od11 an11 od12 an12 od13 an13 od14 an14 od15 an15 od16 an16 od17 an17 od18 an18 od19 an19 od20 an20 od21 an21 od22 an22 od23 an23 od24 an24 od25 an25 od26 an26 od27 an27 od28 an28 od29 an29 od30 an30 od31 an31 od32 an32 od33 an33 od34 an34 td2 td4 td3 : Option Addr} {sl1 sl2 sl3 sl4 sl5 sl6 sl7 sl8 sl9 sl10 sl11 sl12 sl13 sl14 sl15 sl16 sl17 sl18 sl19 sl20 sl21 sl22 sl23 sl24 sl25 sl26 sl27 sl28 sl29 sl30 sl31 sl32 sl33 sl34 ts2 ts4 ts3 : Array (Option Value)} {tv2 tv4 tv3 : Array Value} {oc1 kV1 dc1 pm1 ct1 cd1 oc2 kV2 dc2 pm2 ct2 oc3 kV3 dc3 pm3 ct3 oc4 kV4 dc4 pm4 ct4 oc5 kV5 dc5 pm5 ct5 cd5 oc6 kV6 dc6 pm6 ct6 cd6 oc7 kV7 dc7 pm7 ct7 cd7 oc8 kV8 dc8 pm8 ct8 cd8 oc9 kV9 dc9 pm9 ct9 cd9 oc10 kV10 dc10 pm10 ct10 cd10 oc11 kV11 dc11 pm11 ct11 cd11 oc12 kV12 dc12 pm12 ct12 cd12 oc13 kV13 dc13 pm13 ct13 cd13 oc14 kV14 dc14 pm14 ct14 cd14 oc15 kV15 dc15 pm15 ct15 cd15 oc16 kV16 dc16 pm16 ct16 cd16 oc17 kV17 dc17 pm17 ct17 cd17 oc18 kV18 dc18 pm18 ct18 cd18 oc19 kV19 dc19 pm19 ct19 cd19 oc20 kV20 dc20 pm20 ct20 cd20 oc21 kV21 dc21 pm21 ct21 cd21 oc22 kV22 dc22 pm22 ct22 cd22 oc23 kV23 dc23 pm23 ct23 cd23 oc24 kV24 dc24 pm24 ct24 cd24 oc25 kV25 dc25 pm25 ct25 cd25 oc26 kV26 dc26 pm26 ct26 cd26 oc27 kV27 dc27 pm27 ct27 cd27 oc28 kV28 dc28 pm28 ct28 cd28 oc29 kV29 dc29 pm29 ct29 cd29 oc30 kV30 dc30 pm30 ct30 cd30 oc31 kV31 dc31 pm31 ct31 cd31 oc32 kV32 dc32 pm32 ct32 cd32 oc33 kV33 dc33 pm33 ct33 cd33 oc34 kV34 dc34 pm34 ct34 cd34 te2 te4 te3 : Value} {k__MOST_LETTERS k__MOST_ROOMS k__MOST_SIGNS : Tok} (X : K.In h) (G : h.Ns mainGlobals mg) (hfa : mg "law" = some (.ref fa)) (own : ∀ x c P, ((recsOf q).any fun e => e.name == x) = true → OwnT K h x c P)
    (a1 : PySem.W.nsIn K mainGlobals "is_whole" = some (some (.ref f1))) (l1 : K.lookup f1 = some ⟨oc1, od1, .func (PySem.W.fnOf "is_whole" "is_whole" (defArgs s_is_whole) (defBody s_is_whole) (defScope s_is_whole) .none kV1 dc1 pm1 an1 cd1 ct1), sl1⟩) (d1 : PySem.W.codeIn K cd1 "is_whole" = true) (k1 : PySem.W.keepIn K (.ref f1) = true)
    (a2 : PySem.W.nsIn K mainGlobals "is_sign" = some (some (.ref f2))) (l2 : K.lookup f2 = some ⟨oc2, od2, .func (PySem.W.fnOf "is_sign" "is_sign" (defArgs s_is_sign) (defBody s_is_sign) (defScope s_is_sign) .none kV2 dc2 pm2 an2 (.ref c2) ct2), sl2⟩) (d2 : PySem.W.codeIn K (.ref c2) "is_sign" = true) (k2 : PySem.W.keepIn K (.ref f2) = true)
    (t2 : K.lookup c2 = some ⟨te2, td2, .fields tv2, ts2⟩) (u2 : tv2[11]? = some (.ref T2)) (n2 : K.lookup T2 = none) (r2 : ((recsOf q).any fun e => e.name == ("is_sign" : Str)) = true)
    (a3 : PySem.W.nsIn K mainGlobals "is_machine" = some (some (.ref f3))) (l3 : K.lookup f3 = some ⟨oc3, od3, .func (PySem.W.fnOf "is_machine" "is_machine" (defArgs s_is_machine) (defBody s_is_machine) (defScope s_is_machine) .none kV3 dc3 pm3 an3 (.ref c3) ct3), sl3⟩) (d3 : PySem.W.codeIn K (.ref c3) "is_machine" = true) (k3 : PySem.W.keepIn K (.ref f3) = true)
    (t3 : K.lookup c3 = some ⟨te3, td3, .fields tv3, ts3⟩) (u3 : tv3[11]? = some (.ref T3)) (n3 : K.lookup T3 = none) (r3 : ((recsOf q).any fun e => e.name == ("is_machine" : Str)) = true)
    (a4 : PySem.W.nsIn K mainGlobals "_is_room" = some (some (.ref f4))) (l4 : K.lookup f4 = some ⟨oc4, od4, .func (PySem.W.fnOf "_is_room" "_is_room" (defArgs s_is_room) (defBody s_is_room) (defScope s_is_room) .none kV4 dc4 pm4 an4 (.ref c4) ct4), sl4⟩) (d4 : PySem.W.codeIn K (.ref c4) "_is_room" = true) (k4 : PySem.W.keepIn K (.ref f4) = true)
    (t4 : K.lookup c4 = some ⟨te4, td4, .fields tv4, ts4⟩) (u4 : tv4[11]? = some (.ref T4)) (n4 : K.lookup T4 = none) (r4 : ((recsOf q).any fun e => e.name == ("_is_room" : Str)) = true)
    (a5 : PySem.W.nsIn K mainGlobals "_is_step" = some (some (.ref f5))) (l5 : K.lookup f5 = some ⟨oc5, od5, .func (PySem.W.fnOf "_is_step" "_is_step" (defArgs s_is_step) (defBody s_is_step) (defScope s_is_step) .none kV5 dc5 pm5 an5 cd5 ct5), sl5⟩) (d5 : PySem.W.codeIn K cd5 "_is_step" = true) (k5 : PySem.W.keepIn K (.ref f5) = true)
    (a6 : PySem.W.nsIn K mainGlobals "_all_come_to" = some (some (.ref f6))) (l6 : K.lookup f6 = some ⟨oc6, od6, .func (PySem.W.fnOf "_all_come_to" "_all_come_to" (defArgs s_all_come_to) (defBody s_all_come_to) (defScope s_all_come_to) .none kV6 dc6 pm6 an6 cd6 ct6), sl6⟩) (d6 : PySem.W.codeIn K cd6 "_all_come_to" = true) (k6 : PySem.W.keepIn K (.ref f6) = true)
    (a7 : PySem.W.nsIn K mainGlobals "runs" = some (some (.ref f7))) (l7 : K.lookup f7 = some ⟨oc7, od7, .func (PySem.W.fnOf "runs" "runs" (defArgs s_runs) (defBody s_runs) (defScope s_runs) .none kV7 dc7 pm7 an7 cd7 ct7), sl7⟩) (d7 : PySem.W.codeIn K cd7 "runs" = true) (k7 : PySem.W.keepIn K (.ref f7) = true)
    (a8 : PySem.W.nsIn K mainGlobals "least_from" = some (some (.ref f8))) (l8 : K.lookup f8 = some ⟨oc8, od8, .func (PySem.W.fnOf "least_from" "least_from" (defArgs s_least_from) (defBody s_least_from) (defScope s_least_from) .none kV8 dc8 pm8 an8 cd8 ct8), sl8⟩) (d8 : PySem.W.codeIn K cd8 "least_from" = true) (k8 : PySem.W.keepIn K (.ref f8) = true)
    (a9 : PySem.W.nsIn K mainGlobals "_renumbered" = some (some (.ref f9))) (l9 : K.lookup f9 = some ⟨oc9, od9, .func (PySem.W.fnOf "_renumbered" "_renumbered" (defArgs s_renumbered) (defBody s_renumbered) (defScope s_renumbered) .none kV9 dc9 pm9 an9 cd9 ct9), sl9⟩) (d9 : PySem.W.codeIn K cd9 "_renumbered" = true) (k9 : PySem.W.keepIn K (.ref f9) = true)
    (a10 : PySem.W.nsIn K mainGlobals "_kinds" = some (some (.ref f10))) (l10 : K.lookup f10 = some ⟨oc10, od10, .func (PySem.W.fnOf "_kinds" "_kinds" (defArgs s_kinds) (defBody s_kinds) (defScope s_kinds) .none kV10 dc10 pm10 an10 cd10 ct10), sl10⟩) (d10 : PySem.W.codeIn K cd10 "_kinds" = true) (k10 : PySem.W.keepIn K (.ref f10) = true)
    (a11 : PySem.W.nsIn K mainGlobals "orbits" = some (some (.ref f11))) (l11 : K.lookup f11 = some ⟨oc11, od11, .func (PySem.W.fnOf "orbits" "orbits" (defArgs s_orbits) (defBody s_orbits) (defScope s_orbits) .none kV11 dc11 pm11 an11 cd11 ct11), sl11⟩) (d11 : PySem.W.codeIn K cd11 "orbits" = true) (k11 : PySem.W.keepIn K (.ref f11) = true)
    (a12 : PySem.W.nsIn K mainGlobals "orbits_onward" = some (some (.ref f12))) (l12 : K.lookup f12 = some ⟨oc12, od12, .func (PySem.W.fnOf "orbits_onward" "orbits_onward" (defArgs s_orbits_onward) (defBody s_orbits_onward) (defScope s_orbits_onward) .none kV12 dc12 pm12 an12 cd12 ct12), sl12⟩) (d12 : PySem.W.codeIn K cd12 "orbits_onward" = true) (k12 : PySem.W.keepIn K (.ref f12) = true)
    (a13 : PySem.W.nsIn K mainGlobals "_in_order_left" = some (some (.ref f13))) (l13 : K.lookup f13 = some ⟨oc13, od13, .func (PySem.W.fnOf "_in_order_left" "_in_order_left" (defArgs s_in_order_left) (defBody s_in_order_left) (defScope s_in_order_left) .none kV13 dc13 pm13 an13 cd13 ct13), sl13⟩) (d13 : PySem.W.codeIn K cd13 "_in_order_left" = true) (k13 : PySem.W.keepIn K (.ref f13) = true)
    (a14 : PySem.W.nsIn K mainGlobals "_placed_by" = some (some (.ref f14))) (l14 : K.lookup f14 = some ⟨oc14, od14, .func (PySem.W.fnOf "_placed_by" "_placed_by" (defArgs s_placed_by) (defBody s_placed_by) (defScope s_placed_by) .none kV14 dc14 pm14 an14 cd14 ct14), sl14⟩) (d14 : PySem.W.codeIn K cd14 "_placed_by" = true) (k14 : PySem.W.keepIn K (.ref f14) = true)
    (a15 : PySem.W.nsIn K mainGlobals "gates" = some (some (.ref f15))) (l15 : K.lookup f15 = some ⟨oc15, od15, .func (PySem.W.fnOf "gates" "gates" (defArgs s_gates) (defBody s_gates) (defScope s_gates) .none kV15 dc15 pm15 an15 cd15 ct15), sl15⟩) (d15 : PySem.W.codeIn K cd15 "gates" = true) (k15 : PySem.W.keepIn K (.ref f15) = true)
    (a16 : PySem.W.nsIn K mainGlobals "steps_out" = some (some (.ref f16))) (l16 : K.lookup f16 = some ⟨oc16, od16, .func (PySem.W.fnOf "steps_out" "steps_out" (defArgs s_steps_out) (defBody s_steps_out) (defScope s_steps_out) .none kV16 dc16 pm16 an16 cd16 ct16), sl16⟩) (d16 : PySem.W.codeIn K cd16 "steps_out" = true) (k16 : PySem.W.keepIn K (.ref f16) = true)
    (a17 : PySem.W.nsIn K mainGlobals "steady" = some (some (.ref f17))) (l17 : K.lookup f17 = some ⟨oc17, od17, .func (PySem.W.fnOf "steady" "steady" (defArgs s_steady) (defBody s_steady) (defScope s_steady) .none kV17 dc17 pm17 an17 cd17 ct17), sl17⟩) (d17 : PySem.W.codeIn K cd17 "steady" = true) (k17 : PySem.W.keepIn K (.ref f17) = true)
    (a18 : PySem.W.nsIn K mainGlobals "cut" = some (some (.ref f18))) (l18 : K.lookup f18 = some ⟨oc18, od18, .func (PySem.W.fnOf "cut" "cut" (defArgs s_cut) (defBody s_cut) (defScope s_cut) .none kV18 dc18 pm18 an18 cd18 ct18), sl18⟩) (d18 : PySem.W.codeIn K cd18 "cut" = true) (k18 : PySem.W.keepIn K (.ref f18) = true)
    (a19 : PySem.W.nsIn K mainGlobals "cut_orbits" = some (some (.ref f19))) (l19 : K.lookup f19 = some ⟨oc19, od19, .func (PySem.W.fnOf "cut_orbits" "cut_orbits" (defArgs s_cut_orbits) (defBody s_cut_orbits) (defScope s_cut_orbits) .none kV19 dc19 pm19 an19 cd19 ct19), sl19⟩) (d19 : PySem.W.codeIn K cd19 "cut_orbits" = true) (k19 : PySem.W.keepIn K (.ref f19) = true)
    (a20 : PySem.W.nsIn K mainGlobals "cut_gates" = some (some (.ref f20))) (l20 : K.lookup f20 = some ⟨oc20, od20, .func (PySem.W.fnOf "cut_gates" "cut_gates" (defArgs s_cut_gates) (defBody s_cut_gates) (defScope s_cut_gates) .none kV20 dc20 pm20 an20 cd20 ct20), sl20⟩) (d20 : PySem.W.codeIn K cd20 "cut_gates" = true) (k20 : PySem.W.keepIn K (.ref f20) = true)
    (a21 : PySem.W.nsIn K mainGlobals "part_of" = some (some (.ref f21))) (l21 : K.lookup f21 = some ⟨oc21, od21, .func (PySem.W.fnOf "part_of" "part_of" (defArgs s_part_of) (defBody s_part_of) (defScope s_part_of) .none kV21 dc21 pm21 an21 cd21 ct21), sl21⟩) (d21 : PySem.W.codeIn K cd21 "part_of" = true) (k21 : PySem.W.keepIn K (.ref f21) = true)
    (a22 : PySem.W.nsIn K mainGlobals "_law_gpen" = some (some (.ref f22))) (l22 : K.lookup f22 = some ⟨oc22, od22, .func (PySem.W.fnOf "_law_gpen" "_law_gpen" (defArgs s_law_gpen) (defBody s_law_gpen) (defScope s_law_gpen) .none kV22 dc22 pm22 an22 cd22 ct22), sl22⟩) (d22 : PySem.W.codeIn K cd22 "_law_gpen" = true) (k22 : PySem.W.keepIn K (.ref f22) = true)
    (a23 : PySem.W.nsIn K mainGlobals "_law_gdraw" = some (some (.ref f23))) (l23 : K.lookup f23 = some ⟨oc23, od23, .func (PySem.W.fnOf "_law_gdraw" "_law_gdraw" (defArgs s_law_gdraw) (defBody s_law_gdraw) (defScope s_law_gdraw) .none kV23 dc23 pm23 an23 cd23 ct23), sl23⟩) (d23 : PySem.W.codeIn K cd23 "_law_gdraw" = true) (k23 : PySem.W.keepIn K (.ref f23) = true)
    (a24 : PySem.W.nsIn K mainGlobals "_law_gsigns" = some (some (.ref f24))) (l24 : K.lookup f24 = some ⟨oc24, od24, .func (PySem.W.fnOf "_law_gsigns" "_law_gsigns" (defArgs s_law_gsigns) (defBody s_law_gsigns) (defScope s_law_gsigns) .none kV24 dc24 pm24 an24 cd24 ct24), sl24⟩) (d24 : PySem.W.codeIn K cd24 "_law_gsigns" = true) (k24 : PySem.W.keepIn K (.ref f24) = true)
    (a25 : PySem.W.nsIn K mainGlobals "_law_gto_end" = some (some (.ref f25))) (l25 : K.lookup f25 = some ⟨oc25, od25, .func (PySem.W.fnOf "_law_gto_end" "_law_gto_end" (defArgs s_law_gto_end) (defBody s_law_gto_end) (defScope s_law_gto_end) .none kV25 dc25 pm25 an25 cd25 ct25), sl25⟩) (d25 : PySem.W.codeIn K cd25 "_law_gto_end" = true) (k25 : PySem.W.keepIn K (.ref f25) = true)
    (a26 : PySem.W.nsIn K mainGlobals "_law_gtrim" = some (some (.ref f26))) (l26 : K.lookup f26 = some ⟨oc26, od26, .func (PySem.W.fnOf "_law_gtrim" "_law_gtrim" (defArgs s_law_gtrim) (defBody s_law_gtrim) (defScope s_law_gtrim) .none kV26 dc26 pm26 an26 cd26 ct26), sl26⟩) (d26 : PySem.W.codeIn K cd26 "_law_gtrim" = true) (k26 : PySem.W.keepIn K (.ref f26) = true)
    (a27 : PySem.W.nsIn K mainGlobals "_law_gmachine" = some (some (.ref f27))) (l27 : K.lookup f27 = some ⟨oc27, od27, .func (PySem.W.fnOf "_law_gmachine" "_law_gmachine" (defArgs s_law_gmachine) (defBody s_law_gmachine) (defScope s_law_gmachine) .none kV27 dc27 pm27 an27 cd27 ct27), sl27⟩) (d27 : PySem.W.codeIn K cd27 "_law_gmachine" = true) (k27 : PySem.W.keepIn K (.ref f27) = true)
    (a28 : PySem.W.nsIn K mainGlobals "_law_ggoal" = some (some (.ref f28))) (l28 : K.lookup f28 = some ⟨oc28, od28, .func (PySem.W.fnOf "_law_ggoal" "_law_ggoal" (defArgs s_law_ggoal) (defBody s_law_ggoal) (defScope s_law_ggoal) .none kV28 dc28 pm28 an28 cd28 ct28), sl28⟩) (d28 : PySem.W.codeIn K cd28 "_law_ggoal" = true) (k28 : PySem.W.keepIn K (.ref f28) = true)
    (a29 : PySem.W.nsIn K mainGlobals "_law_gsame" = some (some (.ref f29))) (l29 : K.lookup f29 = some ⟨oc29, od29, .func (PySem.W.fnOf "_law_gsame" "_law_gsame" (defArgs s_law_gsame) (defBody s_law_gsame) (defScope s_law_gsame) .none kV29 dc29 pm29 an29 cd29 ct29), sl29⟩) (d29 : PySem.W.codeIn K cd29 "_law_gsame" = true) (k29 : PySem.W.keepIn K (.ref f29) = true)
    (a30 : PySem.W.nsIn K mainGlobals "_law_gstep" = some (some (.ref f30))) (l30 : K.lookup f30 = some ⟨oc30, od30, .func (PySem.W.fnOf "_law_gstep" "_law_gstep" (defArgs s_law_gstep) (defBody s_law_gstep) (defScope s_law_gstep) .none kV30 dc30 pm30 an30 cd30 ct30), sl30⟩) (d30 : PySem.W.codeIn K cd30 "_law_gstep" = true) (k30 : PySem.W.keepIn K (.ref f30) = true)
    (a31 : PySem.W.nsIn K mainGlobals "_law_gends_so" = some (some (.ref f31))) (l31 : K.lookup f31 = some ⟨oc31, od31, .func (PySem.W.fnOf "_law_gends_so" "_law_gends_so" (defArgs s_law_gends_so) (defBody s_law_gends_so) (defScope s_law_gends_so) .none kV31 dc31 pm31 an31 cd31 ct31), sl31⟩) (d31 : PySem.W.codeIn K cd31 "_law_gends_so" = true) (k31 : PySem.W.keepIn K (.ref f31) = true)
    (a32 : PySem.W.nsIn K mainGlobals "_law_grow" = some (some (.ref f32))) (l32 : K.lookup f32 = some ⟨oc32, od32, .func (PySem.W.fnOf "_law_grow" "_law_grow" (defArgs s_law_grow) (defBody s_law_grow) (defScope s_law_grow) .none kV32 dc32 pm32 an32 cd32 ct32), sl32⟩) (d32 : PySem.W.codeIn K cd32 "_law_grow" = true) (k32 : PySem.W.keepIn K (.ref f32) = true)
    (a33 : PySem.W.nsIn K mainGlobals "_law_gpart_right" = some (some (.ref f33))) (l33 : K.lookup f33 = some ⟨oc33, od33, .func (PySem.W.fnOf "_law_gpart_right" "_law_gpart_right" (defArgs s_law_gpart_right) (defBody s_law_gpart_right) (defScope s_law_gpart_right) .none kV33 dc33 pm33 an33 cd33 ct33), sl33⟩) (d33 : PySem.W.codeIn K cd33 "_law_gpart_right" = true) (k33 : PySem.W.keepIn K (.ref f33) = true)
    (a34 : PySem.W.nsIn K mainGlobals "law" = some (some (.ref f34))) (l34 : K.lookup f34 = some ⟨oc34, od34, .func (PySem.W.fnOf "law" "law" (defArgs s_law) (defBody s_law) (defScope s_law) .none kV34 dc34 pm34 an34 cd34 ct34), sl34⟩) (d34 : PySem.W.codeIn K cd34 "law" = true) (k34 : PySem.W.keepIn K (.ref f34) = true)
    (g__MOST_LETTERS : PySem.W.nsIn K mainGlobals "_MOST_LETTERS" = some (some (.int 6 k__MOST_LETTERS)))
    (g__MOST_ROOMS : PySem.W.nsIn K mainGlobals "_MOST_ROOMS" = some (some (.int 200 k__MOST_ROOMS)))
    (g__MOST_SIGNS : PySem.W.nsIn K mainGlobals "_MOST_SIGNS" = some (some (.int 6 k__MOST_SIGNS)))
    (z_len : PySem.W.nsIn K mainGlobals "len" = some none)
    (z_range : PySem.W.nsIn K mainGlobals "range" = some none)
    (z_sorted : PySem.W.nsIn K mainGlobals "sorted" = some none)
    (z_enumerate : PySem.W.nsIn K mainGlobals "enumerate" = some none)
    (z_all : PySem.W.nsIn K mainGlobals "all" = some none)
    (z_any : PySem.W.nsIn K mainGlobals "any" = some none)
    (z_tuple : PySem.W.nsIn K mainGlobals "tuple" = some none)
    (z_list : PySem.W.nsIn K mainGlobals "list" = some none)
    (z_zip : PySem.W.nsIn K mainGlobals "zip" = some none)
    (z_isinstance : PySem.W.nsIn K mainGlobals "isinstance" = some none)
    (z_bool : PySem.W.nsIn K mainGlobals "bool" = some none)
    (z_int : PySem.W.nsIn K mainGlobals "int" = some none)
    (z_str : PySem.W.nsIn K mainGlobals "str" = some none)
    : ∃ (fd : FuncData) (cs : List (Addr × Addr)) (sp : Sp), (∀ p ∈ cs, h.get? p.2 = some { cls := .none, data := .fields #[] }) ∧ (∀ p ∈ cs, K.lookup p.2 = none) ∧ (∀ p ∈ cs, PySem.W.CodeHd h p.1 p.2) ∧ (∀ (s : Shared) (u : Value), BindsTo s fd ⟨[u], []⟩ [("script", u)]) ∧
      (∀ (H : Hp) (a : Addr) (ns : List Int), ns.length ≤ 63 → (∀ z ∈ ns, Builtin.Int.intBits z ≤ 1048576) → Tabs cs H → SqL K H a (ns.map V.int) → sp [.ref a] H (fun v H' => v = .bl true ∧ Tabs cs H') fun _ _ _ => False) ∧
      ∀ base : Heap, K.In base → base.Ns mainGlobals mg → (∀ p ∈ cs, GxR.TabB base mg p.1 p.2) → FnOk l.prog w K mg base CX0 9 fa fd ["script"] sp := by
  have e := hfa.symm.trans (PySem.W.mg_of X G a34)
  cases e
  have b_len := PySem.W.mg_none_of X G z_len
  have b_range := PySem.W.mg_none_of X G z_range
  have b_sorted := PySem.W.mg_none_of X G z_sorted
  have b_enumerate := PySem.W.mg_none_of X G z_enumerate
  have b_all := PySem.W.mg_none_of X G z_all
  have b_any := PySem.W.mg_none_of X G z_any
  have b_tuple := PySem.W.mg_none_of X G z_tuple
  have b_list := PySem.W.mg_none_of X G z_list
  have b_zip := PySem.W.mg_none_of X G z_zip
  have b_isinstance := PySem.W.mg_none_of X G z_isinstance
  have b_bool := PySem.W.mg_none_of X G z_bool
  have b_int := PySem.W.mg_none_of X G z_int
  have b_str := PySem.W.mg_none_of X G z_str
  have m__MOST_LETTERS : ∃ t, mg "_MOST_LETTERS" = some (.int 6 t) := ⟨_, PySem.W.mg_of X G g__MOST_LETTERS⟩
  have m__MOST_ROOMS : ∃ t, mg "_MOST_ROOMS" = some (.int 200 t) := ⟨_, PySem.W.mg_of X G g__MOST_ROOMS⟩
  have m__MOST_SIGNS : ∃ t, mg "_MOST_SIGNS" = some (.int 6 t) := ⟨_, PySem.W.mg_of X G g__MOST_SIGNS⟩
  obtain ⟨w2, x2⟩ := own _ c2 T2 r2 _ _ _ _ _ _ _ a2 l2 rfl rfl t2 u2
  obtain ⟨w4, x4⟩ := own _ c4 T4 r4 _ _ _ _ _ _ _ a4 l4 rfl rfl t4 u4
  obtain ⟨w3, x3⟩ := own _ c3 T3 r3 _ _ _ _ _ _ _ a3 l3 rfl rfl t3 u3
  have D1 : DefAt K mg "is_whole" s_is_whole ["thing"] := defAt_mk X G a1 l1 d1 k1 ((fun_mk (st := s_is_whole) l1 d1 k1).binds (ps := ["thing"]) fun _ _ _ _ _ _ us hl => match us, hl with | [_], _ => rfl)
  have D5 : DefAt K mg "_is_step" s_is_step ["thing", "many"] := defAt_mk X G a5 l5 d5 k5 ((fun_mk (st := s_is_step) l5 d5 k5).binds (ps := ["thing", "many"]) fun _ _ _ _ _ _ us hl => match us, hl with | [_, _], _ => rfl)
  have D6 : DefAt K mg "_all_come_to" s_all_come_to ["onward", "first"] := defAt_mk X G a6 l6 d6 k6 ((fun_mk (st := s_all_come_to) l6 d6 k6).binds (ps := ["onward", "first"]) fun _ _ _ _ _ _ us hl => match us, hl with | [_, _], _ => rfl)
  have D7 : DefAt K mg "runs" s_runs ["machine", "row"] := defAt_mk X G a7 l7 d7 k7 ((fun_mk (st := s_runs) l7 d7 k7).binds (ps := ["machine", "row"]) fun _ _ _ _ _ _ us hl => match us, hl with | [_, _], _ => rfl)
  have D8 : DefAt K mg "least_from" s_least_from ["machine", "first"] := defAt_mk X G a8 l8 d8 k8 ((fun_mk (st := s_least_from) l8 d8 k8).binds (ps := ["machine", "first"]) fun _ _ _ _ _ _ us hl => match us, hl with | [_, _], _ => rfl)
  have D9 : DefAt K mg "_renumbered" s_renumbered ["room", "kinds", "numbers"] := defAt_mk X G a9 l9 d9 k9 ((fun_mk (st := s_renumbered) l9 d9 k9).binds (ps := ["room", "kinds", "numbers"]) fun _ _ _ _ _ _ us hl => match us, hl with | [_, _, _], _ => rfl)
  have D10 : DefAt K mg "_kinds" s_kinds ["machine"] := defAt_mk X G a10 l10 d10 k10 ((fun_mk (st := s_kinds) l10 d10 k10).binds (ps := ["machine"]) fun _ _ _ _ _ _ us hl => match us, hl with | [_], _ => rfl)
  have D11 : DefAt K mg "orbits" s_orbits ["machine"] := defAt_mk X G a11 l11 d11 k11 ((fun_mk (st := s_orbits) l11 d11 k11).binds (ps := ["machine"]) fun _ _ _ _ _ _ us hl => match us, hl with | [_], _ => rfl)
  have D12 : DefAt K mg "orbits_onward" s_orbits_onward ["machine"] := defAt_mk X G a12 l12 d12 k12 ((fun_mk (st := s_orbits_onward) l12 d12 k12).binds (ps := ["machine"]) fun _ _ _ _ _ _ us hl => match us, hl with | [_], _ => rfl)
  have D13 : DefAt K mg "_in_order_left" s_in_order_left ["machine"] := defAt_mk X G a13 l13 d13 k13 ((fun_mk (st := s_in_order_left) l13 d13 k13).binds (ps := ["machine"]) fun _ _ _ _ _ _ us hl => match us, hl with | [_], _ => rfl)
  have D14 : DefAt K mg "_placed_by" s_placed_by ["back", "first", "placed"] := defAt_mk X G a14 l14 d14 k14 ((fun_mk (st := s_placed_by) l14 d14 k14).binds (ps := ["back", "first", "placed"]) fun _ _ _ _ _ _ us hl => match us, hl with | [_, _, _], _ => rfl)
  have D15 : DefAt K mg "gates" s_gates ["machine", "orbit"] := defAt_mk X G a15 l15 d15 k15 ((fun_mk (st := s_gates) l15 d15 k15).binds (ps := ["machine", "orbit"]) fun _ _ _ _ _ _ us hl => match us, hl with | [_, _], _ => rfl)
  have D16 : DefAt K mg "steps_out" s_steps_out ["machine", "orbit", "number"] := defAt_mk X G a16 l16 d16 k16 ((fun_mk (st := s_steps_out) l16 d16 k16).binds (ps := ["machine", "orbit", "number"]) fun _ _ _ _ _ _ us hl => match us, hl with | [_, _, _], _ => rfl)
  have D17 : DefAt K mg "steady" s_steady ["machine"] := defAt_mk X G a17 l17 d17 k17 ((fun_mk (st := s_steady) l17 d17 k17).binds (ps := ["machine"]) fun _ _ _ _ _ _ us hl => match us, hl with | [_], _ => rfl)
  have D18 : DefAt K mg "cut" s_cut ["machine"] := defAt_mk X G a18 l18 d18 k18 ((fun_mk (st := s_cut) l18 d18 k18).binds (ps := ["machine"]) fun _ _ _ _ _ _ us hl => match us, hl with | [_], _ => rfl)
  have D19 : DefAt K mg "cut_orbits" s_cut_orbits ["machine"] := defAt_mk X G a19 l19 d19 k19 ((fun_mk (st := s_cut_orbits) l19 d19 k19).binds (ps := ["machine"]) fun _ _ _ _ _ _ us hl => match us, hl with | [_], _ => rfl)
  have D20 : DefAt K mg "cut_gates" s_cut_gates ["machine", "orbit"] := defAt_mk X G a20 l20 d20 k20 ((fun_mk (st := s_cut_gates) l20 d20 k20).binds (ps := ["machine", "orbit"]) fun _ _ _ _ _ _ us hl => match us, hl with | [_, _], _ => rfl)
  have D21 : DefAt K mg "part_of" s_part_of ["machine", "room"] := defAt_mk X G a21 l21 d21 k21 ((fun_mk (st := s_part_of) l21 d21 k21).binds (ps := ["machine", "room"]) fun _ _ _ _ _ _ us hl => match us, hl with | [_, _], _ => rfl)
  have D22 : DefAt K mg "_law_gpen" s_law_gpen ["script"] := defAt_mk X G a22 l22 d22 k22 ((fun_mk (st := s_law_gpen) l22 d22 k22).binds (ps := ["script"]) fun _ _ _ _ _ _ us hl => match us, hl with | [_], _ => rfl)
  have D23 : DefAt K mg "_law_gdraw" s_law_gdraw ["pen", "many"] := defAt_mk X G a23 l23 d23 k23 ((fun_mk (st := s_law_gdraw) l23 d23 k23).binds (ps := ["pen", "many"]) fun _ _ _ _ _ _ us hl => match us, hl with | [_, _], _ => rfl)
  have D24 : DefAt K mg "_law_gsigns" s_law_gsigns ["pen", "many"] := defAt_mk X G a24 l24 d24 k24 ((fun_mk (st := s_law_gsigns) l24 d24 k24).binds (ps := ["pen", "many"]) fun _ _ _ _ _ _ us hl => match us, hl with | [_, _], _ => rfl)
  have D25 : DefAt K mg "_law_gto_end" s_law_gto_end ["rooms"] := defAt_mk X G a25 l25 d25 k25 ((fun_mk (st := s_law_gto_end) l25 d25 k25).binds (ps := ["rooms"]) fun _ _ _ _ _ _ us hl => match us, hl with | [_], _ => rfl)
  have D26 : DefAt K mg "_law_gtrim" s_law_gtrim ["rooms"] := defAt_mk X G a26 l26 d26 k26 ((fun_mk (st := s_law_gtrim) l26 d26 k26).binds (ps := ["rooms"]) fun _ _ _ _ _ _ us hl => match us, hl with | [_], _ => rfl)
  have D27 : DefAt K mg "_law_gmachine" s_law_gmachine ["pen", "most", "signs"] := defAt_mk X G a27 l27 d27 k27 ((fun_mk (st := s_law_gmachine) l27 d27 k27).binds (ps := ["pen", "most", "signs"]) fun _ _ _ _ _ _ us hl => match us, hl with | [_, _, _], _ => rfl)
  have D28 : DefAt K mg "_law_ggoal" s_law_ggoal ["leads", "sign"] := defAt_mk X G a28 l28 d28 k28 ((fun_mk (st := s_law_ggoal) l28 d28 k28).binds (ps := ["leads", "sign"]) fun _ _ _ _ _ _ us hl => match us, hl with | [_, _], _ => rfl)
  have D29 : DefAt K mg "_law_gsame" s_law_gsame ["found", "due"] := defAt_mk X G a29 l29 d29 k29 ((fun_mk (st := s_law_gsame) l29 d29 k29).binds (ps := ["found", "due"]) fun _ _ _ _ _ _ us hl => match us, hl with | [_, _], _ => rfl)
  have D30 : DefAt K mg "_law_gstep" s_law_gstep ["machine", "signs", "orbit", "k", "sign"] := defAt_mk X G a30 l30 d30 k30 ((fun_mk (st := s_law_gstep) l30 d30 k30).binds (ps := ["machine", "signs", "orbit", "k", "sign"]) fun _ _ _ _ _ _ us hl => match us, hl with | [_, _, _, _, _], _ => rfl)
  have D31 : DefAt K mg "_law_gends_so" s_law_gends_so ["machine", "signs", "orbit", "k", "row"] := defAt_mk X G a31 l31 d31 k31 ((fun_mk (st := s_law_gends_so) l31 d31 k31).binds (ps := ["machine", "signs", "orbit", "k", "row"]) fun _ _ _ _ _ _ us hl => match us, hl with | [_, _, _, _, _], _ => rfl)
  have D32 : DefAt K mg "_law_grow" s_law_grow ["pen", "machine", "signs", "k"] := defAt_mk X G a32 l32 d32 k32 ((fun_mk (st := s_law_grow) l32 d32 k32).binds (ps := ["pen", "machine", "signs", "k"]) fun _ _ _ _ _ _ us hl => match us, hl with | [_, _, _, _], _ => rfl)
  have D33 : DefAt K mg "_law_gpart_right" s_law_gpart_right ["pen", "machine", "signs", "orbit", "k"] := defAt_mk X G a33 l33 d33 k33 ((fun_mk (st := s_law_gpart_right) l33 d33 k33).binds (ps := ["pen", "machine", "signs", "orbit", "k"]) fun _ _ _ _ _ _ us hl => match us, hl with | [_, _, _, _, _], _ => rfl)
  refine ⟨PySem.W.fnOf "law" "law" (defArgs s_law) (defBody s_law) (defScope s_law) .none kV34 dc34 pm34 an34 cd34 ct34, [(c2, T2), (c4, T4), (c3, T3)], spLaw K T2 T4 T3, ?_, ?_, ?_, fun s v => .of_eq rfl, ?_, fun base _ _ TB => ?_⟩
  · exact fun p hp => by
      simp only [List.mem_cons, List.not_mem_nil, or_false] at hp
      rcases hp with rfl | rfl | rfl
      · exact w2
      · exact w4
      · exact w3
  · exact fun p hp => by
      simp only [List.mem_cons, List.not_mem_nil, or_false] at hp
      rcases hp with rfl | rfl | rfl
      · exact n2
      · exact n4
      · exact n3
  · exact fun p hp => by
      simp only [List.mem_cons, List.not_mem_nil, or_false] at hp
      rcases hp with rfl | rfl | rfl
      · exact x2
      · exact x4
      · exact x3
  · intro H a ns hl _ hT hS
    exact ⟨a, ns, rfl, hS, hl, ⟨hT _ List.mem_cons_self, hT _ (List.mem_cons_of_mem _ List.mem_cons_self), hT _ (List.mem_cons_of_mem _ (List.mem_cons_of_mem _ List.mem_cons_self))⟩, fun H' s => ⟨rfl, hT.same s⟩⟩
  have TB2 : GxR.TabB base mg c2 T2 := TB (c2, T2) List.mem_cons_self
  have TB4 : GxR.TabB base mg c4 T4 := TB (c4, T4) (List.mem_cons_of_mem _ List.mem_cons_self)
  have TB3 : GxR.TabB base mg c3 T3 := TB (c3, T3) (List.mem_cons_of_mem _ (List.mem_cons_of_mem _ List.mem_cons_self))
  have D2 : DefTab K mg base "is_sign" s_is_sign ["thing"] T2 := defTab_mk X G a2 l2 d2 k2 ((fun_mk (st := s_is_sign) l2 d2 k2).binds (ps := ["thing"]) fun _ _ _ _ _ _ us hl => match us, hl with | [_], _ => rfl) TB2
  have D3 : DefTab K mg base "is_machine" s_is_machine ["thing"] T3 := defTab_mk X G a3 l3 d3 k3 ((fun_mk (st := s_is_machine) l3 d3 k3).binds (ps := ["thing"]) fun _ _ _ _ _ _ us hl => match us, hl with | [_], _ => rfl) TB3
  have D4 : DefTab K mg base "_is_room" s_is_room ["thing", "many"] T4 := defTab_mk X G a4 l4 d4 k4 ((fun_mk (st := s_is_room) l4 d4 k4).binds (ps := ["thing", "many"]) fun _ _ _ _ _ _ us hl => match us, hl with | [_, _], _ => rfl) TB4
  have o_law_gpen := ok_law_gpen (P := l.prog) (w := w) (base := base) D22
  have o_law_gdraw := ok_law_gdraw (P := l.prog) (w := w) (base := base) D23 b_len
  have o_law_gsigns := ok_law_gsigns D24 o_law_gdraw b_range
  have o_law_gto_end := ok_law_gto_end (P := l.prog) (w := w) (base := base) D25 b_any b_len b_range
  have o_law_gtrim := ok_law_gtrim D26 o_law_gto_end b_len b_tuple
  have o_law_gmachine := ok_law_gmachine D27 o_law_gdraw o_law_gtrim b_range b_sorted b_tuple
  have o_law_ggoal := ok_law_ggoal (P := l.prog) (w := w) (base := base) D28
  have o_law_gsame := ok_law_gsame (P := l.prog) (w := w) (base := base) D29 b_all b_isinstance b_len b_zip b_bool b_int b_str b_tuple b_list 1
  have o_steps_out := ok_steps_out (P := l.prog) (w := w) (base := base) D16 b_tuple
  have o_gates := ok_gates D15 o_steps_out
  have o_placed_by := ok_placed_by (P := l.prog) (w := w) (base := base) D14 b_sorted
  have o_in_order_left := ok_in_order_left (P := l.prog) (w := w) (base := base) D13 b_len b_range
  have o_orbits_onward := ok_orbits_onward D12 o_in_order_left o_placed_by b_enumerate
  have o_orbits := ok_orbits D11 o_orbits_onward b_sorted
  have o_steady := ok_steady (P := l.prog) (w := w) (base := base) D17 b_all
  have o_cut := ok_cut D18 o_steady b_tuple
  have o_cut_orbits := ok_cut_orbits D19 o_cut o_orbits
  have o_cut_gates := ok_cut_gates D20 o_cut o_gates
  have o_kinds := ok_kinds (P := l.prog) (w := w) (base := base) D10 b_enumerate b_len b_tuple
  have o_renumbered := ok_renumbered (P := l.prog) (w := w) (base := base) D9 b_tuple
  have o_least_from := ok_least_from D8 o_kinds o_renumbered b_len b_tuple
  have o_part_of := ok_part_of D21 o_cut o_orbits o_gates o_least_from b_enumerate b_tuple
  have o_is_sign := ok_is_sign (P := l.prog) (w := w) D2 b_all b_isinstance b_len b_str m__MOST_LETTERS
  have o_is_whole := ok_is_whole (P := l.prog) (w := w) (base := base) D1 b_isinstance b_int b_bool
  have o_is_step := ok_is_step D5 o_is_sign o_is_whole b_isinstance b_tuple b_len
  have o_is_room := ok_is_room D4 o_is_step b_all b_isinstance b_tuple b_bool b_zip b_len
  have o_all_come_to := ok_all_come_to (P := l.prog) (w := w) (base := base) D6 b_len b_list
  have o_is_machine := ok_is_machine D3 o_is_room o_all_come_to b_all b_enumerate b_isinstance b_tuple b_len m__MOST_ROOMS m__MOST_SIGNS
  have o_runs := ok_runs (P := l.prog) (w := w) (base := base) D7
  have o_law_gstep := ok_law_gstep D30 o_law_ggoal
  have o_law_gends_so := ok_law_gends_so D31 o_law_gstep o_cut_gates
  have o_law_grow := ok_law_grow D32 o_law_gdraw b_len b_range
  have o_law_gpart_right := ok_law_gpart_right D33 o_steady o_part_of o_is_machine o_law_grow o_law_gsame o_runs o_law_gends_so o_law_gstep b_range
  exact ok_law (fun_mk (st := s_law) l34 d34 k34) o_law_gpen o_law_gdraw o_law_gsigns o_law_gmachine o_cut_orbits o_law_gpart_right b_range b_all
end Sw
set_option Elab.async false
open PySem PySem.W PyProof.Rows
set_option maxRecDepth 100000 in
set_option maxHeartbeats 0 in
theorem PySem.Challenge.cw_soleway_k83_whole_rows_of_parts_holds : PySem.Challenge.rw_soleway_k83_whole_rows_of_parts.Holds := by
  w_on; o_law; k_head; (case hw => w_witness2)
  k_fill
  refine Sw.walk_ofE (l := PySem.Challenge.rw_soleway_k83_whole_rows_of_parts) (n := 63) (k := 9) (x := "script") rfl (by decide) rfl ⟨rfl, by decide, by decide⟩ (fun w h Y => PySem.W.kIn_of Y) ?F
  case F =>
    intro w mg fa h KX G hmg own
    refine' Sw.all_mk KX G hmg own ?a1 ?l1 ?d1 ?k1 ?a2 ?l2 ?d2 ?k2 ?t2 ?u2 ?n2 ?r2 ?a3 ?l3 ?d3 ?k3 ?t3 ?u3 ?n3 ?r3 ?a4 ?l4 ?d4 ?k4 ?t4 ?u4 ?n4 ?r4 ?a5 ?l5 ?d5 ?k5 ?a6 ?l6 ?d6 ?k6 ?a7 ?l7 ?d7 ?k7 ?a8 ?l8 ?d8 ?k8 ?a9 ?l9 ?d9 ?k9 ?a10 ?l10 ?d10 ?k10 ?a11 ?l11 ?d11 ?k11 ?a12 ?l12 ?d12 ?k12 ?a13 ?l13 ?d13 ?k13 ?a14 ?l14 ?d14 ?k14 ?a15 ?l15 ?d15 ?k15 ?a16 ?l16 ?d16 ?k16 ?a17 ?l17 ?d17 ?k17 ?a18 ?l18 ?d18 ?k18 ?a19 ?l19 ?d19 ?k19 ?a20 ?l20 ?d20 ?k20 ?a21 ?l21 ?d21 ?k21 ?a22 ?l22 ?d22 ?k22 ?a23 ?l23 ?d23 ?k23 ?a24 ?l24 ?d24 ?k24 ?a25 ?l25 ?d25 ?k25 ?a26 ?l26 ?d26 ?k26 ?a27 ?l27 ?d27 ?k27 ?a28 ?l28 ?d28 ?k28 ?a29 ?l29 ?d29 ?k29 ?a30 ?l30 ?d30 ?k30 ?a31 ?l31 ?d31 ?k31 ?a32 ?l32 ?d32 ?k32 ?a33 ?l33 ?d33 ?k33 ?a34 ?l34 ?d34 ?k34 ?g__MOST_LETTERS ?g__MOST_ROOMS ?g__MOST_SIGNS ?z_len ?z_range ?z_sorted ?z_enumerate ?z_all ?z_any ?z_tuple ?z_list ?z_zip ?z_isinstance ?z_bool ?z_int ?z_str
    (case a1 => k_is)
    (case l1 => k_is)
    (case d1 => k_is)
    (case k1 => k_is)
    (case a2 => k_is)
    (case l2 => k_is)
    (case d2 => k_is)
    (case k2 => k_is)
    (case t2 => k_is)
    (case u2 => first | rfl | decide +kernel | k_is)
    (case n2 => first | rfl | decide +kernel | k_is)
    (case r2 => first | rfl | decide +kernel | k_is)
    (case a3 => k_is)
    (case l3 => k_is)
    (case d3 => k_is)
    (case k3 => k_is)
    (case t3 => k_is)
    (case u3 => first | rfl | decide +kernel | k_is)
    (case n3 => first | rfl | decide +kernel | k_is)
    (case r3 => first | rfl | decide +kernel | k_is)
    (case a4 => k_is)
    (case l4 => k_is)
    (case d4 => k_is)
    (case k4 => k_is)
    (case t4 => k_is)
    (case u4 => first | rfl | decide +kernel | k_is)
    (case n4 => first | rfl | decide +kernel | k_is)
    (case r4 => first | rfl | decide +kernel | k_is)
    (case a5 => k_is)
    (case l5 => k_is)
    (case d5 => k_is)
    (case k5 => k_is)
    (case a6 => k_is)
    (case l6 => k_is)
    (case d6 => k_is)
    (case k6 => k_is)
    (case a7 => k_is)
    (case l7 => k_is)
    (case d7 => k_is)
    (case k7 => k_is)
    (case a8 => k_is)
    (case l8 => k_is)
    (case d8 => k_is)
    (case k8 => k_is)
    (case a9 => k_is)
    (case l9 => k_is)
    (case d9 => k_is)
    (case k9 => k_is)
    (case a10 => k_is)
    (case l10 => k_is)
    (case d10 => k_is)
    (case k10 => k_is)
    (case a11 => k_is)
    (case l11 => k_is)
    (case d11 => k_is)
    (case k11 => k_is)
    (case a12 => k_is)
    (case l12 => k_is)
    (case d12 => k_is)
    (case k12 => k_is)
    (case a13 => k_is)
    (case l13 => k_is)
    (case d13 => k_is)
    (case k13 => k_is)
    (case a14 => k_is)
    (case l14 => k_is)
    (case d14 => k_is)
    (case k14 => k_is)
    (case a15 => k_is)
    (case l15 => k_is)
    (case d15 => k_is)
    (case k15 => k_is)
    (case a16 => k_is)
    (case l16 => k_is)
    (case d16 => k_is)
    (case k16 => k_is)
    (case a17 => k_is)
    (case l17 => k_is)
    (case d17 => k_is)
    (case k17 => k_is)
    (case a18 => k_is)
    (case l18 => k_is)
    (case d18 => k_is)
    (case k18 => k_is)
    (case a19 => k_is)
    (case l19 => k_is)
    (case d19 => k_is)
    (case k19 => k_is)
    (case a20 => k_is)
    (case l20 => k_is)
    (case d20 => k_is)
    (case k20 => k_is)
    (case a21 => k_is)
    (case l21 => k_is)
    (case d21 => k_is)
    (case k21 => k_is)
    (case a22 => k_is)
    (case l22 => k_is)
    (case d22 => k_is)
    (case k22 => k_is)
    (case a23 => k_is)
    (case l23 => k_is)
    (case d23 => k_is)
    (case k23 => k_is)
    (case a24 => k_is)
    (case l24 => k_is)
    (case d24 => k_is)
    (case k24 => k_is)
    (case a25 => k_is)
    (case l25 => k_is)
    (case d25 => k_is)
    (case k25 => k_is)
    (case a26 => k_is)
    (case l26 => k_is)
    (case d26 => k_is)
    (case k26 => k_is)
    (case a27 => k_is)
    (case l27 => k_is)
    (case d27 => k_is)
    (case k27 => k_is)
    (case a28 => k_is)
    (case l28 => k_is)
    (case d28 => k_is)
    (case k28 => k_is)
    (case a29 => k_is)
    (case l29 => k_is)
    (case d29 => k_is)
    (case k29 => k_is)
    (case a30 => k_is)
    (case l30 => k_is)
    (case d30 => k_is)
    (case k30 => k_is)
    (case a31 => k_is)
    (case l31 => k_is)
    (case d31 => k_is)
    (case k31 => k_is)
    (case a32 => k_is)
    (case l32 => k_is)
    (case d32 => k_is)
    (case k32 => k_is)
    (case a33 => k_is)
    (case l33 => k_is)
    (case d33 => k_is)
    (case k33 => k_is)
    (case a34 => k_is)
    (case l34 => k_is)
    (case d34 => k_is)
    (case k34 => k_is)
    (case g__MOST_LETTERS => k_is)
    (case g__MOST_ROOMS => k_is)
    (case g__MOST_SIGNS => k_is)
    (case z_len => k_is)
    (case z_range => k_is)
    (case z_sorted => k_is)
    (case z_enumerate => k_is)
    (case z_all => k_is)
    (case z_any => k_is)
    (case z_tuple => k_is)
    (case z_list => k_is)
    (case z_zip => k_is)
    (case z_isinstance => k_is)
    (case z_bool => k_is)
    (case z_int => k_is)
    (case z_str => k_is)
