import PyProof.Rows.All
import Wide.All
import OpenK.AllK
import Wide.FinOn
import HandS.ForMost
import HandS.TupAny
import HandS.TupMul
import HandS.RevRange
import HandS.Wide
import HandS.Style
import HandS.Flow
import HandS.AnyAll
import HandS.GenList
import HandS.Nested
import HandS.EndTab
import HandS.SetKeys
import HandS.Set
import HandS.Strs
import HandS.SetBool
import HandS.SetFor
import HandS.IsInst
import HandS.Text
import HandS.SortKw
import KE.DataMinMax
import KE.GoesMore
import HandS.Deep
import HandS.SortOrd
import HandS.SortRule
import HandS.RaiseMore
import PyProof.ReprRoads
import HandS.More
import HandS.Zip
import HandS.Conv
import HandS.DictTup
import HandS.Star
import PySem.Challenge.RW_soleway_k10_is_it_a_reading
set_option Elab.async false
set_option maxRecDepth 100000
set_option maxHeartbeats 4000000
namespace Sw
open PySem L2 PySem.Spec PyProof.Rows

/-! ### defs of the top -/
section
variable {P : Program} {w : World} {K : PySem.W.Frag} {mg : Str → Option Value} {base : Heap}
/-- a def of the top: it stands under its name, takes its arguments by place -/
structure DefAt (K : PySem.W.Frag) (mg : Str → Option Value) (x : Str) (st : Stmt) (ps : List Str) : Prop where
  ex : ∃ f fd, Fun K x x st f fd ∧ mg x = some (.ref f) ∧ Binds K fd ps []
/-- .. and keeps a promise -/
structure DefOk (P : Program) (w : World) (K : PySem.W.Frag) (mg : Str → Option Value) (base : Heap) (x : Str) (k : Nat) (ps : List Str) (sp : Sp) : Prop where
  ex : ∃ f fd, FnOk P w K mg base CX0 k f fd ps sp ∧ mg x = some (.ref f) ∧ PySem.W.keepIn K (.ref f) = true ∧ Binds K fd ps []
theorem DefOk.mono {x : Str} {j k : Nat} {ps : List Str} {sp : Sp} (F : DefOk P w K mg base x j ps sp) (h : j ≤ k) : DefOk P w K mg base x k ps sp := by
  obtain ⟨f, fd, a, b, c, d⟩ := F.ex
  exact ⟨f, fd, a.mono h, b, c, d⟩
theorem DefOk.imp {x : Str} {k : Nat} {ps : List Str} {sp sp' : Sp} (F : DefOk P w K mg base x k ps sp) (h : ∀ vs H Q E, sp' vs H Q E → sp vs H Q E) : DefOk P w K mg base x k ps sp' := by
  obtain ⟨f, fd, a, b, c, d⟩ := F.ex
  exact ⟨f, fd, a.imp h, b, c, d⟩
theorem DefAt.ok {x : Str} {st : Stmt} {N ps : List Str} {k : Nat} {sp : Sp} (F : DefAt K mg x st ps) (S : FnScope N ps (defScope st)) (len : ∀ vs H Q E, sp vs H Q E → vs.length = ps.length)
    (hbody : ∀ (f : Addr) (cdv : Value) (A : Around) (outer : List Env) (s : Shared) (H : Hp) (vs : List V) (Q : VK) (E : XK), Room k (A.deeper (envOfC x (defScope st) s.heap.objs.size f cdv)) → sp vs H Q E →
      ∃ t, PSs (cxOf CX0 P w K mg base N x (defScope st) f cdv A outer s H E).nox (defBody st) t ∧ t { nx := fun _ H' => Q .non H', rt := Q } (start N vs) H) : DefOk P w K mg base x (k + 1) ps sp := by
  obtain ⟨f, fd, h1, h2, h3⟩ := F.ex
  exact ⟨f, fd, h1.ok S len (fun cdv A outer s H vs Q E hr hs => hbody f cdv A outer s H vs Q E hr hs), h2, h1.kp, h3⟩
end
section
variable {X : Cx} {x : Str} {k : Nat} {ps : List Str} {sp : Sp} {e : Expr} {es : List Expr} {t : TA} {p pos : Pos}
theorem pe_callD (F : DefOk X.prog X.w X.K X.mg X.base x k ps sp) (hr : Room k X.A) (hg : Gl X x) (ha : PA X (e :: es) t) (hx : Passes CX0 X E0 := by exact pass0) (hdb : (x == ("__debug__" : Str)) = false := by decide)
    (he : starEach (e :: es) X.env = (false, eval e X.env) :: starEach es X.env := by rfl) (hpl : (backTo pos (starEach es X.env)).any (·.1) = false := by rfl) : PE X (.Call (.Name x p) (e :: es) [] pos) (tCall sp [] E0 t) := by
  obtain ⟨f, fd, a, b, c, d⟩ := F.ex
  exact pe_call a hr hg b c d .nil hx ha hdb he hpl
end

/-! ### heaps -/
theorem _root_.L2.Same.new {H : Hp} {p : Addr} {o : HO} (h : H p = none) : Same H (upd H p o) := fun b u q => by rw [upd_ne (ne_of_none q h)]; exact q
/-- what was not there may be written again -/
theorem _root_.L2.Same.mut {H H' : Hp} {p : Addr} {o : HO} (e : Same H H') (h : H p = none) : Same H (upd H' p o) := fun a u ha => by
  rw [upd_ne (ne_of_none ha h)]
  exact e a u ha
theorem _root_.L2.Same.rd {H H' : Hp} {a : Addr} {u : HO} (e : Same H H') (h : Rd H a u) : Rd H' a u := by
  rcases h with h | ⟨o, h⟩
  · exact Or.inl (e a _ h)
  · exact Or.inr ⟨o, e a _ h⟩
theorem _root_.L2.Same.sqT {K : PySem.W.Frag} {H H' : Hp} {a : Addr} {xs : List V} (e : Same H H') (h : SqT K H a xs) : SqT K H' a xs := by
  rcases h with h | h
  · exact Or.inl (e.rd h)
  · exact Or.inr h
theorem sT {K : PySem.W.Frag} {H : Hp} {a : Addr} {xs : List V} (h : H a = some (.tup xs)) : SqT K H a xs := Or.inl (Or.inl h)
theorem sL {K : PySem.W.Frag} {H : Hp} {a : Addr} {xs : List V} (h : H a = some (.lst xs)) : SqL K H a xs := Or.inl (Or.inl h)
/-- all but the object at p is as it was -/
def But (p : Addr) (H H' : Hp) : Prop := ∀ b o, H b = some o → b ≠ p → H' b = some o
theorem But.of {p : Addr} {H H' : Hp} (h : Same H H') : But p H H' := fun b o e _ => h b o e
theorem But.trans {p : Addr} {H H1 H2 : Hp} (a : But p H H1) (b : But p H1 H2) : But p H H2 := fun c o e n => b c o (a c o e n) n
theorem But.refl {p : Addr} {H : Hp} : But p H H := fun _ _ e _ => e
theorem But.upd {p : Addr} {H H' : Hp} {o : HO} (a : But p H H') : But p H (upd H' p o) := fun b u e n => by rw [upd_ne n]; exact a b u e n
theorem But.same {p : Addr} {H H' : Hp} (a : But p H H') (h : H p = none) : Same H H' := fun b o e => a b o e (ne_of_none e h)
theorem But.free {p q : Addr} {H H' : Hp} (a : But p H H') (h : H' q = none) (n : q ≠ p) : H q = none := by
  cases e : H q with
  | none => rfl
  | some o =>
    rw [a q o e n] at h
    cases h

/-! ### data in the heap -/
mutual
theorem dpSame {K : PySem.W.Frag} {H H' : Hp} (s : ∀ a u, (∃ xs, u = HO.lst xs ∨ u = HO.tup xs) → Rd H a u → Rd H' a u) : ∀ (d : PyData) (v : V), Dp K H v d → Dp K H' v d
  | .none, _, h => by cases h; exact .non
  | .bool b, _, h => by cases h; exact .bl b
  | .int i, _, h => by cases h; exact .int i
  | .str x, _, h => by cases h; exact .str x
  | .list ds, _, h => by
    cases h with
    | lst h1 h2 =>
      refine .lst ?_ (dpAllSame s ds _ h2)
      rcases h1 with h1 | h1
      · exact .inl (s _ _ ⟨_, .inl rfl⟩ h1)
      · exact .inr h1
  | .tuple ds, _, h => by
    cases h with
    | tup h1 h2 =>
      refine .tup ?_ (dpAllSame s ds _ h2)
      rcases h1 with h1 | h1
      · exact .inl (s _ _ ⟨_, .inr rfl⟩ h1)
      · exact .inr h1
  | .dict _, _, h => by cases h
theorem dpAllSame {K : PySem.W.Frag} {H H' : Hp} (s : ∀ a u, (∃ xs, u = HO.lst xs ∨ u = HO.tup xs) → Rd H a u → Rd H' a u) : ∀ (ds : List PyData) (vs : List V), DpAll K H vs ds → DpAll K H' vs ds
  | [], _, h => by cases h; exact .nil
  | d :: ds, _, h => by
    cases h with
    | cons h1 h2 => exact .cons (dpSame s d _ h1) (dpAllSame s ds _ h2)
end
theorem dpS {K : PySem.W.Frag} {H H' : Hp} (s : Same H H') {d : PyData} {v : V} (h : Dp K H v d) : Dp K H' v d := dpSame (fun _ _ _ r => s.rd r) d v h
theorem dpsS {K : PySem.W.Frag} {H H' : Hp} (s : Same H H') {ds : List PyData} {vs : List V} (h : DpAll K H vs ds) : DpAll K H' vs ds := dpAllSame (fun _ _ _ r => s.rd r) ds vs h
/-- a thing that is no list and no tuple may change -/
theorem dpB {K : PySem.W.Frag} {H H' : Hp} {p : Addr} (s : But p H H') (hp : ∀ u, Rd H p u → ∀ xs, u ≠ .lst xs ∧ u ≠ .tup xs) {d : PyData} {v : V} (h : Dp K H v d) : Dp K H' v d := by
  refine dpSame (fun a u hu r => ?_) d v h
  obtain ⟨xs, hu⟩ := hu
  have n : a ≠ p := by
    rintro rfl
    have := hp u r xs
    rcases hu with e | e
    · exact this.1 e
    · exact this.2 e
  rcases r with r | ⟨o, r⟩
  · exact .inl (s _ _ r n)
  · exact .inr ⟨o, s _ _ r n⟩
theorem dpsLen {K : PySem.W.Frag} {H : Hp} : ∀ {vs : List V} {ds : List PyData}, DpAll K H vs ds → vs.length = ds.length
  | [], _, h => by cases h; rfl
  | _ :: _, _, h => by cases h with | cons _ t => simp [dpsLen t]
theorem dpsAt {K : PySem.W.Frag} {H : Hp} : ∀ {vs : List V} {ds : List PyData} {i : Nat} {d : PyData}, DpAll K H vs ds → ds[i]? = some d → ∃ v, vs[i]? = some v ∧ Dp K H v d
  | [], _, i, d, h, e => by cases h; simp at e
  | v :: vs, _, i, d, h, e => by
    cases h with
    | cons h1 h2 =>
      cases i with
      | zero => simp at e; subst e; exact ⟨v, rfl, h1⟩
      | succ i => simp at e; obtain ⟨u, e1, e2⟩ := dpsAt h2 e; exact ⟨u, by simpa using e1, e2⟩
theorem dpsAtV {K : PySem.W.Frag} {H : Hp} : ∀ {vs : List V} {ds : List PyData} {i : Nat} {v : V}, DpAll K H vs ds → vs[i]? = some v → ∃ d, ds[i]? = some d ∧ Dp K H v d
  | [], _, i, v, h, e => by simp at e
  | v :: vs, _, i, u, h, e => by
    cases h with
    | cons h1 h2 =>
      cases i with
      | zero => simp at e; subst e; exact ⟨_, rfl, h1⟩
      | succ i => simp at e; obtain ⟨u, e1, e2⟩ := dpsAtV h2 e; exact ⟨u, by simpa using e1, e2⟩
theorem dpsApp {K : PySem.W.Frag} {H : Hp} : ∀ {vs us : List V} {ds es : List PyData}, DpAll K H vs ds → DpAll K H us es → DpAll K H (vs ++ us) (ds ++ es)
  | [], _, _, _, h, g => by cases h; exact g
  | _ :: _, _, _, _, h, g => by cases h with | cons h1 h2 => exact .cons h1 (dpsApp h2 g)
/-- a tuple's data by its items -/
theorem dpTup {K : PySem.W.Frag} {H : Hp} {v : V} {ds : List PyData} (h : Dp K H v (.tuple ds)) : ∃ a xs, v = .ref a ∧ SqT K H a xs ∧ DpAll K H xs ds := by
  cases h with
  | tup h1 h2 => exact ⟨_, _, rfl, h1, h2⟩
theorem dpLst {K : PySem.W.Frag} {H : Hp} {v : V} {ds : List PyData} (h : Dp K H v (.list ds)) : ∃ a xs, v = .ref a ∧ SqL K H a xs ∧ DpAll K H xs ds := by
  cases h with
  | lst h1 h2 => exact ⟨_, _, rfl, h1, h2⟩
theorem dpStr {K : PySem.W.Frag} {H : Hp} {v : V} {x : Str} (h : Dp K H v (.str x)) : v = .str x := by cases h; rfl
theorem dpInt {K : PySem.W.Frag} {H : Hp} {v : V} {x : Int} (h : Dp K H v (.int x)) : v = .int x := by cases h; rfl
theorem dpNone {K : PySem.W.Frag} {H : Hp} {v : V} (h : Dp K H v .none) : v = .non := by cases h; rfl
theorem dpNil {K : PySem.W.Frag} {H : Hp} {vs : List V} (h : DpAll K H vs []) : vs = [] := by cases h; rfl
theorem dpCons {K : PySem.W.Frag} {H : Hp} {vs : List V} {d : PyData} {ds : List PyData} (h : DpAll K H vs (d :: ds)) : ∃ v us, vs = v :: us ∧ Dp K H v d ∧ DpAll K H us ds := by
  cases h with
  | cons h1 h2 => exact ⟨_, _, rfl, h1, h2⟩

/-! ### forms -/
inductive Fm where
  | sign (s : Str)
  | row (ps : List Fm)
  | pick (ps : List Fm)
  | times (p : Fm) (low : Nat) (high : Option Nat)
def highD : Option Nat → PyData
  | none => .none
  | some h => .int h
def highV : Option Nat → V
  | none => .non
  | some h => .int h
theorem dpHigh {K : PySem.W.Frag} {H : Hp} {v : V} {o : Option Nat} (h : Dp K H v (highD o)) : v = highV o := by
  cases o with
  | none => exact dpNone h
  | some n => exact dpInt h
theorem highDp {K : PySem.W.Frag} {H : Hp} (o : Option Nat) : Dp K H (highV o) (highD o) := by
  cases o with
  | none => exact .non
  | some n => exact .int _
mutual
def Fm.dat : Fm → PyData
  | .sign s => .tuple [.str "sign", .str s]
  | .row ps => .tuple [.str "row", .tuple (Fm.dats ps)]
  | .pick ps => .tuple [.str "pick", .tuple (Fm.dats ps)]
  | .times p low high => .tuple [.str "times", p.dat, .int low, highD high]
def Fm.dats : List Fm → List PyData
  | [] => []
  | p :: ps => p.dat :: Fm.dats ps
end
theorem Fm.dats_map : ∀ ps : List Fm, Fm.dats ps = ps.map Fm.dat
  | [] => rfl
  | p :: ps => by rw [Fm.dats, Fm.dats_map ps, List.map_cons]
def Fm.kind : Fm → Str
  | .sign _ => "sign"
  | .row _ => "row"
  | .pick _ => "pick"
  | .times _ _ _ => "times"
def Fm.parts : Fm → List Fm
  | .sign _ => []
  | .row ps => ps
  | .pick ps => ps
  | .times p _ _ => [p]
abbrev FmAt (K : PySem.W.Frag) (H : Hp) (v : V) (f : Fm) : Prop := Dp K H v f.dat
abbrev FmsAt (K : PySem.W.Frag) (H : Hp) (vs : List V) (fs : List Fm) : Prop := DpAll K H vs (Fm.dats fs)
/-- every form is a tuple that begins with its kind -/
theorem fmTup {K : PySem.W.Frag} {H : Hp} {v : V} {f : Fm} (h : FmAt K H v f) : ∃ a xs, v = .ref a ∧ SqT K H a (.str f.kind :: xs) := by
  cases f with
  | sign s => obtain ⟨a, xs, rfl, h1, h2⟩ := dpTup h; obtain ⟨v, us, rfl, e, _⟩ := dpCons h2; cases dpStr e; exact ⟨a, us, rfl, h1⟩
  | row s => obtain ⟨a, xs, rfl, h1, h2⟩ := dpTup h; obtain ⟨v, us, rfl, e, _⟩ := dpCons h2; cases dpStr e; exact ⟨a, us, rfl, h1⟩
  | pick s => obtain ⟨a, xs, rfl, h1, h2⟩ := dpTup h; obtain ⟨v, us, rfl, e, _⟩ := dpCons h2; cases dpStr e; exact ⟨a, us, rfl, h1⟩
  | times s l u => obtain ⟨a, xs, rfl, h1, h2⟩ := dpTup h; obtain ⟨v, us, rfl, e, _⟩ := dpCons h2; cases dpStr e; exact ⟨a, us, rfl, h1⟩
theorem fmSign {K : PySem.W.Frag} {H : Hp} {v : V} {s : Str} (h : FmAt K H v (.sign s)) : ∃ a, v = .ref a ∧ SqT K H a [.str "sign", .str s] := by
  obtain ⟨a, xs, rfl, h1, h2⟩ := dpTup h; obtain ⟨v, us, rfl, e, h3⟩ := dpCons h2; cases dpStr e
  obtain ⟨v, us, rfl, e, h4⟩ := dpCons h3; cases dpStr e; cases dpNil h4; exact ⟨a, rfl, h1⟩
theorem fmRow {K : PySem.W.Frag} {H : Hp} {v : V} {ps : List Fm} (h : FmAt K H v (.row ps)) : ∃ a b vs, v = .ref a ∧ SqT K H a [.str "row", .ref b] ∧ SqT K H b vs ∧ FmsAt K H vs ps := by
  obtain ⟨a, xs, rfl, h1, h2⟩ := dpTup h; obtain ⟨v, us, rfl, e, h3⟩ := dpCons h2; cases dpStr e
  obtain ⟨v, us, rfl, e, h4⟩ := dpCons h3; obtain ⟨b, vs, rfl, h5, h6⟩ := dpTup e; cases dpNil h4; exact ⟨a, b, vs, rfl, h1, h5, h6⟩
theorem fmPick {K : PySem.W.Frag} {H : Hp} {v : V} {ps : List Fm} (h : FmAt K H v (.pick ps)) : ∃ a b vs, v = .ref a ∧ SqT K H a [.str "pick", .ref b] ∧ SqT K H b vs ∧ FmsAt K H vs ps := by
  obtain ⟨a, xs, rfl, h1, h2⟩ := dpTup h; obtain ⟨v, us, rfl, e, h3⟩ := dpCons h2; cases dpStr e
  obtain ⟨v, us, rfl, e, h4⟩ := dpCons h3; obtain ⟨b, vs, rfl, h5, h6⟩ := dpTup e; cases dpNil h4; exact ⟨a, b, vs, rfl, h1, h5, h6⟩
theorem fmTimes {K : PySem.W.Frag} {H : Hp} {v : V} {p : Fm} {low : Nat} {high : Option Nat} (h : FmAt K H v (.times p low high)) : ∃ a u, v = .ref a ∧ SqT K H a [.str "times", u, .int low, highV high] ∧ FmAt K H u p := by
  obtain ⟨a, xs, rfl, h1, h2⟩ := dpTup h; obtain ⟨v, us, rfl, e, h3⟩ := dpCons h2; cases dpStr e
  obtain ⟨u, us, rfl, e, h4⟩ := dpCons h3
  obtain ⟨v, us, rfl, e2, h5⟩ := dpCons h4; cases dpInt e2
  obtain ⟨v, us, rfl, e3, h6⟩ := dpCons h5; cases dpHigh e3; cases dpNil h6
  exact ⟨a, u, rfl, h1, e⟩
end Sw
set_option Elab.async false
set_option maxRecDepth 100000
set_option maxHeartbeats 4000000
namespace Sw
open PySem L2 PySem.Spec PyProof.Rows GenW
/-! ### any, all of a generator expression, its element of any kind -/
/-- a code object's table: it may grow -/
def TabE (P : Addr) : HO := .ext fun h => ∃ ps : Array Value, h.get? P = some { cls := .none, data := .fields ps } ∧ TriplesOk ps.toList
section
variable {X : Cx} {pins : List (Addr × Obj)} {σ : L2.St} {H : Hp} {s : Shared}
theorem tabE_ok {P : Program} {w : World} {h : Heap} {a : Addr} {ps : Array Value} (e : h.get? a = some { cls := .none, data := .fields ps }) (t : TriplesOk ps.toList) : ObjOk P w H h a (TabE a) :=
  ⟨⟨ps, e, t⟩, ⟨_, e⟩, fun _ _ ⟨ps, q, t⟩ k => ⟨ps, k _ q, t⟩⟩
theorem inv_tabE {P : Addr} {ps' : Array Value} {h' : Heap} {tk : Nat} (I : Inv X pins σ H s) (hP : H P = some (TabE P)) (k : ∀ b o, b ≠ P → s.heap.get? b = some o → h'.get? b = some o)
    (hm : h'.get? P = some { cls := .none, data := .fields ps' }) (ht : TriplesOk ps'.toList) : Inv X pins σ H { s with heap := h', toks := tk } := by
  have nN : ∀ b, H b = none → b ≠ P := fun b e z => by
    rw [z, hP] at e
    cases e
  have nO : ∀ b x, H b = some (.own x) → b ≠ P := fun b x e z => by
    rw [z, hP] at e
    cases e
  refine I.step (g' := s.gens) (d' := s.drawn) (ch := []) (fun b hb => absurd hb (by simp)) (fun b o _ _ _ e n => k b o (nN b n) e) (fun b o _ _ _ e n => ⟨o.slots, k b o (nN b n) e⟩) (fun _ _ _ _ n => n) (fun b o _ e => ?_)
    (fun _ _ e => e) (fun _ _ _ e => e) (fun b ps e => ⟨#[], by rw [e]; simp⟩) (fun m hn => ?_) (fun b u e => ?_) I.bare
  · by_cases hb : b = P
    · rw [hb]
      exact ⟨_, hm⟩
    · exact ⟨o, k b o hb e⟩
  · obtain ⟨ob, es, ep, ho, r⟩ := hn
    exact ⟨ob, es, ep, k _ ob (nN _ I.free) ho, r⟩
  · by_cases hb2 : b = P
    · subst hb2
      rw [hP] at e
      cases e
      exact tabE_ok hm ht
    · refine (I.hok b u e).stay (fun d v hd q => k d v ?_ q) (fun _ q => q) fun _ _ q => q
      rcases hd with z | z
      · rw [z]
        exact hb2
      · exact nO d _ z
theorem gen_code {M : Model} {A : Around} {E : Value → Shared → Prop} {c P : Addr} {gpos : Pos} {qual : Str} {scope : Scope} {Q : Value → Shared → Prop} (I : Inv X pins σ H s) (TB : GxR.TabB X.base X.mg c P) (hcode : X.env.code = .ref c) (hP : H P = some (TabE P))
    (hQ : ∀ code h' tk, Inv X pins σ H { s with heap := h', toks := tk } → (∀ b o, b ≠ P → s.heap.get? b = some o → h'.get? b = some o) → s.heap.objs.size ≤ h'.objs.size → Q code { s with heap := h', toks := tk }) :
    wpAny M A (genexprCode X.env gpos qual scope) Q E s := by
  obtain ⟨⟨ps, e, ht⟩, _⟩ := I.hok P _ hP
  have cd : PySem.W.CodeHd s.heap c P := TB.code.keeps fun b u e => I.bk b u e
  cases hf : codeAmong gpos ps.toList with
  | none =>
    refine wpAny_genexprCodeX hcode (cd.code e ht) (cd.tab e) hf fun c' h' tk hx hge hlt hco' _ htab' _ => ?_
    obtain ⟨o1, vs, f1, tf, fl, tg, inF, tx, tt, op, _, _, _, _, _, _, _, _, _, htr, _⟩ := hco'
    exact hQ _ h' tk (inv_tabE I hP hx htab'.2 htr) hx (Nat.le_trans hge (Nat.le_of_lt hlt))
  | some cv =>
    refine wpAny_genexprCode_hit hcode (cd.code e ht) hf ?_
    exact hQ cv s.heap s.toks I (fun _ _ _ q => q) (Nat.le_refl _)
/-! ### the frame -/
abbrev genv (X : Cx) (scope : Scope) (C : Addr) (code : Value) : Env := genEnv scope (cloFrom X.env.cells scope.names []) C code builtinsNs X.env
abbrev _root_.L2.Cx.gen (X : Cx) (s : Shared) (H : Hp) (scope : Scope) (C : Addr) (code : Value) (A' : Around) (fp : List Addr) (pn : List (Addr × Obj)) : Cx :=
  { X with A := A', s_0 := s, H_0 := H, env := genv X scope C code, outer := X.stack, stack := genv X scope C code :: X.stack, ex := fp, fn := fun _ => false, calm := true, pn := pn, xe := fun _ _ => False }
structure GenSc (scope : Scope) : Prop where
  co : (scope.isCoroutine : Bool) = false
  cell : ∀ nk ∈ scope.names, nk.2 ≠ NameKind.cell
  dot : scope.names.lookup (".0" : Str) = some (.local : NameKind)
theorem gen_start {scope : Scope} {own : List (Str × Nat)} {fp : List Addr} {pn : List (Addr × Obj)} {C : Addr} {code : Value} {A' : Around} {s' : Shared} {m : Str → Option Value} (I : Inv X pins σ H s) (ok : BlkOk X.N X.env.scope scope own) (G : GenSc scope) (hN : X.N.Nodup)
    (hfp : ∀ b ∈ fp, FpOk X pins H b ∧ b < s.heap.objs.size) (hC : s.heap.objs.size ≤ C) (hA : A'.handled = none) (hF : A'.frames = some (genv X scope C code :: X.stack))
    (hos : s'.os = s.os) (hb : AllBare s'.gens) (k : ∀ b o, s.heap.get? b = some o → s'.heap.get? b = some o) (hn : s'.heap.Ns C m)
    (hpn : ∀ p ∈ pn, s'.heap.get? p.1 = some p.2 ∧ s.heap.objs.size ≤ p.1 ∧ p.1 ≠ C ∧ ∀ v, p.2.data ≠ .cell v) :
    Inv (X.gen s H scope C code A' fp pn) [] (wipe σ (own.map (·.2))) H s' := by
  have hCap : ∀ y ∈ scope.names, y.2 = .free → ∃ c, X.env.cells.lookup y.1 = some c := fun y hy e => by
    rcases ok.free y hy e with k | k
    · exact I.ok.has _ (.inl k)
    · exact I.ok.has _ (.inr k)
  have cm : ∀ {y c}, (cloFrom X.env.cells scope.names []).lookup y = some c → X.env.cells.lookup y = some c := fun {y c} e => NdefX.clo_cm hCap e
  have clt : ∀ {y c}, X.env.cells.lookup y = some c → c < s.heap.objs.size := fun {y c} e => by
    obtain ⟨w, z⟩ := I.cell _ _ e
    exact z.lt
  have okG : (X.gen s H scope C code A' fp pn).Ok := by
    refine ⟨I.ok.mod, ok.kind, I.ok.glob, rfl, hC, fun y z c e1 e2 => I.ok.inj y z c (cm e1) (cm e2), fun y hy => ?_, fun y c z => (by cases z), fun _ => hA, hF, .inr ⟨rfl, rfl⟩, fun b hb => ⟨?_, fun y c e z => ?_⟩, I.bs, Nat.le_trans I.ok.bsz I.sz, fun b o e hb => ?_, fun b hb z => ?_, I.stack, I.stkFree⟩
    · have hy : scope.names.lookup y = some .cell ∨ scope.names.lookup y = some .free := hy
      rcases hy with hy | hy
      · exact absurd rfl (G.cell _ (PySem.mem_of_lookup hy))
      · obtain ⟨c, hc⟩ := hCap _ (PySem.mem_of_lookup hy) rfl
        exact ⟨c, NdefX.clo_has hCap (PySem.mem_of_lookup hy) hc⟩
    · exact Nat.ne_of_lt (Nat.lt_of_lt_of_le (hfp b hb).2 hC)
    · exact (hfp b hb).1.2.2.2.2.1 y c (cm e) z
    · rcases (hfp b hb).1.2.2.2.1 with z | z
      · exact I.ok.noex b o e z
      · exact absurd (Nat.lt_of_lt_of_le (Heap.lt_size e) (Nat.le_trans I.ok.bsz z)) (Nat.lt_irrefl _)
    · rcases List.mem_cons.mp (I.stkSub b z) with z | z
      · exact (hfp b hb).1.2.1 z
      · exact (hfp b hb).1.2.2.1 z
  refine ⟨okG, hos, hb, Un.kept k, ⟨m, hn, fun i y av e1 e2 e3 => ?_⟩, fun y c e => ?_, I.hok.fresh hC, fun y c e => I.freeC y c (cm e), fun p hp => ?_, I.hok.kept k, by rw [wipe_length]; exact I.len⟩
  · obtain ⟨e2, hne⟩ := wipe_some e2
    have no : ∀ kd, scope.names.lookup y = some kd → ¬ (kd = .local ∨ kd = .cell) := fun kd e hh => by
      rcases ok.own _ (PySem.mem_of_lookup e) hh with e' | e'
      · obtain ⟨p, hp, hpy⟩ := List.mem_map.mp e'
        have e3 := ok.ix p hp
        have : p.1 = y := hpy
        rw [this] at e3
        exact hne (List.mem_map.mpr ⟨p, hp, nodup_ix hN e3 e1⟩)
      · exact e' (List.mem_of_getElem? e1)
    have e3 : Vis scope y := e3
    have hfr : scope.names.lookup y = some .free := by
      rcases e3 with e3 | e3 | e3
      · exact absurd (.inl rfl) (no _ e3)
      · exact absurd (.inr rfl) (no _ e3)
      · exact e3
    obtain ⟨m0, hn0, hl⟩ := I.loc
    have hsc := ok.free _ (PySem.mem_of_lookup hfr) rfl
    have hVs : Vis X.env.scope y := hsc.elim (fun k => .inr (.inl k)) (fun k => .inr (.inr k))
    obtain ⟨w, r, q⟩ := hl i y av e1 e2 hVs
    refine ⟨w, r, .inr ⟨.inr hfr, ?_⟩⟩
    rcases q with ⟨kk, _⟩ | ⟨_, c', e', z⟩
    · have kk : X.env.scope.names.lookup y = some .local := kk
      rcases hsc with k1 | k1 <;> rw [show X.env.scope.names.lookup y = _ from k1] at kk <;> cases kk
    · exact ⟨c', NdefX.clo_has hCap (PySem.mem_of_lookup hfr) e', z.keeps k⟩
  · obtain ⟨w, z⟩ := I.cell y c (cm e)
    exact ⟨w, z.keeps k⟩
  · have hp : p ∈ pn := by simpa using hp
    obtain ⟨h1, h2, h3, h4⟩ := hpn p hp
    refine ⟨h1, I.hok.fresh h2, h3, fun z => ?_, h4⟩
    rcases List.mem_cons.mp (I.stkSub p.1 z) with z | z
    · exact absurd I.lt (by rw [← z]; exact Nat.not_lt.mpr h2)
    · exact I.nofs h2 z
end
end Sw
set_option Elab.async false
set_option maxRecDepth 100000
set_option maxHeartbeats 4000000
namespace Sw
open PySem L2 PySem.Spec PyProof.Rows GenW
/-! ### the generator's turns -/
/-- behind what the consumer does meanwhile: all objects stand, generators and tokens may have changed -/
theorem inv_later {X : Cx} {pins : List (Addr × Obj)} {σ : L2.St} {H : Hp} {s s' : Shared} (I : Inv X pins σ H s) (k : ∀ b o, s.heap.get? b = some o → s'.heap.get? b = some o) (hos : s'.os = s.os) (hb : AllBare s'.gens) : Inv X pins σ H s' :=
  I.call' (ch := []) hos (Un.kept k) (I.hok.kept k) hb fun b hb => absurd hb (by simp)
section
variable {X : Cx} {tg elt iter : Expr} {scope : Scope} {pos : Pos} {it : Addr}
abbrev genC (tg elt iter : Expr) (scope : Scope) (pos : Pos) (it : Addr) (env : Env) : Code := .compLoop (.GeneratorExp elt [⟨tg, iter, [], 0⟩] scope pos) 0 (.ref it) .none env
abbrev genS (tg elt iter : Expr) (scope : Scope) (pos : Pos) (it : Addr) (env : Env) : Code := .compStart (.GeneratorExp elt [⟨tg, iter, [], 0⟩] scope pos) 0 (.ref it) .none env
/-- at its end -/
def RG (X : Cx) (QT : Hp → Prop) : Nat → Shared → Shared → Prop := fun _ _ s₁ => ∃ σc H, Inv X [] σc H s₁ ∧ QT H
/-- a truth is handed out; if it is go, it may be asked on -/
def YG (X : Cx) (go : Bool) (QF : Hp → Prop) : Protocol := fun _ _ v s kap => ∃ b σc H, v = .bool b ∧ Inv X [] σc H s ∧ (b = !go → QF H) ∧
  (b = go → ∀ s'', (∀ b o, s.heap.get? b = some o → s''.heap.get? b = some o) → s''.os = s.os → AllBare s''.gens → kap (.send .none) s'')
/-- what a generator expression's walk asks: go the truth by which its consumer goes on -/
def GWalk (go : Bool) (J : It) (g : TG) (te : TE) (σ0 : L2.St) (vs : List Nat) (QT QF : Hp → Prop) (W : Nat → Nat → Hp → Prop) : Prop := ∀ i m H, W i m H →
  (J.stop i H ∧ QT H) ∨ (J.go i H ∧ ∃ Nx : Hp → Prop, (∀ H', Nx H' → ∃ m', m' < m ∧ W (i + 1) m' H') ∧ ∀ x H', J.yld i H x H' → g x σ0 H' fun σ2 H2 => wipe σ2 vs = σ0 ∧ te σ2 H2 fun y H3 => ∃ b, y = .bl b ∧ if b = go then Nx H3 else QF H3)
theorem seg_turns {A : Around} {fp : List Addr} {tn : Nat → Heap → Prop} {J : It} {g : TG} {te : TE} {go : Bool} {σ0 : L2.St} {vs : List Nat} {QT QF : Hp → Prop} {W : Nat → Nat → Hp → Prop}
    (hA : A.over (genC tg elt iter scope pos it X.env) [] = X.A) (hc : X.calm = true) (hx : X.xe = fun _ _ => False) (hco : X.env.scope.isCoroutine = false) (hex : ∀ b ∈ fp, b ∈ X.ex ∧ b ≠ X.env.locals ∧ b ∉ X.fs ∧ (∀ x c, X.env.cells.lookup x = some c → c ≠ b) ∧ ∀ p ∈ X.pn, p.1 ≠ b)
    (T : Turn X.prog X.w X.K tg J fp it tn) (hg : PG X tg g) (he : PE X elt te) (hw : ∀ σ : L2.St, wipe (wipe σ vs) vs = wipe σ vs) (turn : GWalk go J g te σ0 vs QT QF W) :
    ∀ (n m i : Nat) (σc : L2.St) (H : Hp) (s₀ s : Shared), m < n → W i m H → Inv X [] σc H s → wipe σc vs = σ0 → tn i s.heap → (∀ b ∈ fp, H b = none) →
      Seg (model X.prog X.w) A (fun n s₀ r s₁ => r = .ok .next ∧ RG X QT n s₀ s₁) (YG X go QF) n s₀ (genC tg elt iter scope pos it X.env) ((model X.prog X.w).den (genC tg elt iter scope pos it X.env)) [] s := by
  intro n
  induction n with
  | zero => intro m i σc H s₀ s h; exact absurd h (Nat.not_lt_zero _)
  | succ n ih =>
    intro m i σc H s₀ s hm w0 I hσ st fr
    have stat : ∀ {H' : Hp}, (∀ b ∈ fp, H' b = none) → ∀ b ∈ fp, FpOk X [] H' b := fun {H'} hn b hb => by
      obtain ⟨h1, h2, h3, h4, h5⟩ := hex b hb
      exact ⟨hn b hb, h2, h3, .inl h1, h4, fun p hp => h5 p (by simpa using hp)⟩
    have I0 : Inv X [] σ0 H s := I.weak (by rw [← hσ, wipe_length]) fun i v e => by rw [← hσ] at e; exact (wipe_some e).1
    show Seg _ A _ _ _ s₀ _ ((compTurn (.GeneratorExp elt [⟨tg, iter, [], 0⟩] scope pos) 0 (.ref it) .none X.env).onRaise (leaving X.env)) [] s
    rw [compTurn_gen, Sem.onRaise_eq_wrap]
    refine seg_bind_wrap (wpAny_standAt ?_)
    rcases turn i m H w0 with ⟨stop, qt⟩ | ⟨hgo, Nx, hN, step⟩
    · refine seg_bind_wrap ?_
      rw [hA]
      refine thn (T.done X rfl rfl rfl hc i [] s σ0 H _ I0 (stat fr) st stop) fun r s1 ⟨hr, I1⟩ => ?_
      subst hr
      exact seg_end (.ok .next) ⟨rfl, σ0, H, I1, qt⟩
    · refine seg_bind_wrap ?_
      rw [hA]
      refine thn (T.item X rfl rfl rfl hc i [] s σ0 H _ I0 (stat fr) st hgo) fun r s1 ⟨u, hr, h1⟩ => ?_
      subst hr
      refine seg_bind_wrap ?_
      rw [hA]
      refine thn h1 fun _ s2 ⟨x, H2, I2, r2, y2, st2, fr2⟩ => ?_
      have I2' := I2.pinned (stat fr2) (T.obj _ _ st2)
      refine seg_bind_wrap ?_
      rw [hA]
      have h3 := hg.run _ s2 σ0 H2 x u _ I2' r2 (step x H2 y2)
      rw [hx] at h3
      refine thnF h3 fun _ s3 ⟨σ3, H3, I3, w3, q3⟩ => ?_
      refine seg_bind_wrap ?_
      rw [List.forIn_nil]
      refine wpAny_pure ?_
      simp only [if_true]
      have hy : ∀ v, yieldOut X.env v = yieldValue v := fun v => by simp only [yieldOut, hco, Bool.false_eq_true, if_false]
      simp only [hy]
      rw [Sem.bind_eq_wrap', Sem.bind_eq_wrap', Sem.wrap_wrap, Sem.wrap_wrap]
      refine seg_wrap ?_
      rw [hA]
      have h4 := he.run _ s3 σ3 H3 _ I3 q3
      rw [hx] at h4
      refine thnF h4 fun v s4 ⟨y, H4, I4, r4, b, ey, q4⟩ => ?_
      subst ey
      obtain rfl : v = Value.bool b := r4
      have fr4 : ∀ b ∈ fp, H4 b = none := fun b hb => by
        obtain ⟨o, e, d⟩ := T.obj _ _ st2 b hb
        exact (I4.pin (b, o) (List.mem_append_right _ (List.mem_append_right _ (mem_pinsAt hb e)))).2.1
      have kp4 : ∀ b ∈ fp, ∀ o, s2.heap.get? b = some o → s4.heap.get? b = some o := fun b hb o e => (I4.pin (b, o) (List.mem_append_right _ (List.mem_append_right _ (mem_pinsAt hb e)))).1
      have I4' := I4.unpinned
      refine seg_at (seg_yield rfl rfl rfl ⟨b, σ3, H4, rfl, I4', fun hb => ?_, fun hb s'' k hos hbr => ?_⟩)
      · rw [if_neg (by rw [hb]; cases go <;> decide)] at q4
        exact q4
      · rw [if_pos hb] at q4
        obtain ⟨m', hm', w4⟩ := hN H4 q4
        refine seg_again rfl (ih m' (i + 1) σ3 H4 s'' s'' (by omega) w4 (inv_later I4' k hos hbr) w3 (T.keep _ _ _ st2 fun b hb o e => k b o (kp4 b hb o e)) fr4)
/-- .. begun -/
theorem seg_begin {A : Around} {fp : List Addr} {tn : Nat → Heap → Prop} {J : It} {g : TG} {te : TE} {go : Bool} {σ0 : L2.St} {vs : List Nat} {QT QF : Hp → Prop} {W : Nat → Nat → Hp → Prop}
    (hA : A.over (genC tg elt iter scope pos it X.env) [] = X.A) (hc : X.calm = true) (hx : X.xe = fun _ _ => False) (hco : X.env.scope.isCoroutine = false) (hex : ∀ b ∈ fp, b ∈ X.ex ∧ b ≠ X.env.locals ∧ b ∉ X.fs ∧ (∀ x c, X.env.cells.lookup x = some c → c ≠ b) ∧ ∀ p ∈ X.pn, p.1 ≠ b)
    (T : Turn X.prog X.w X.K tg J fp it tn) (hg : PG X tg g) (he : PE X elt te) (hw : ∀ σ : L2.St, wipe (wipe σ vs) vs = wipe σ vs) (turn : GWalk go J g te σ0 vs QT QF W)
    (n m : Nat) (σc : L2.St) (H : Hp) (s₀ s : Shared) (hm : m < n) (w0 : W 0 m H) (I : Inv X [] σc H s) (hσ : wipe σc vs = σ0) (st : tn 0 s.heap) (fr : ∀ b ∈ fp, H b = none) :
      Seg (model X.prog X.w) A (fun n s₀ r s₁ => r = .ok .next ∧ RG X QT n s₀ s₁) (YG X go QF) n s₀ (genS tg elt iter scope pos it X.env) ((model X.prog X.w).den (genS tg elt iter scope pos it X.env)) [] s := by
  have loop := seg_turns (scope := scope) (pos := pos) (iter := iter) hA hc hx hco hex T hg he hw turn n m 0 σc H s₀ s hm w0 I hσ st fr
  show Seg _ A _ _ _ s₀ _ ((compStart (.GeneratorExp elt [⟨tg, iter, [], 0⟩] scope pos) 0 (.ref it) .none X.env).onRaise (leaving X.env)) [] s
  unfold compStart
  rw [Sem.onRaise_eq_wrap]
  show Seg _ A _ _ _ s₀ _ ((ask >>= _).wrap _ _ _ _) [] s
  refine seg_bind_wrap (wpAny_askSetting ?_)
  split
  · exact seg_again rfl loop
  · refine seg_bind_wrap (wpAny_rule ?_)
    show Seg _ A _ _ _ s₀ _ ((standAt iter.pos >>= _).wrap _ _ _ _) [] s
    exact seg_bind_wrap (wpAny_standAt (seg_bind_wrap (T.self _ 0 s _ _ st (seg_again rfl loop))))
end
end Sw
set_option Elab.async false
set_option maxRecDepth 100000
set_option maxHeartbeats 4000000
namespace Sw
open PySem L2 PySem.Spec PyProof.Rows GenW
/-! ### all, any: the consumer -/
section
variable {X : Cx} {A : Around} {a : Addr} {g : Nat} {go : Bool} {QT QF : Hp → Prop} {R : Result → Shared → Prop}
/-- the generator sleeps or has not begun; it may be asked so often -/
def GSt (X : Cx) (A : Around) (g : Nat) (go : Bool) (QT QF : Hp → Prop) (n : Nat) (s : Shared) : Prop :=
  (∃ σc H, Inv X [] σc H s) ∧ ∃ gs, s.gens[g]? = some gs ∧ gs.Goes (model X.prog X.w) A.in1.in1 (fun n s₀ r s₁ => r = .ok .next ∧ RG X QT n s₀ s₁) (YG X go QF) n (.send .none) (s.setGen g .running)
theorem gen_next {E : Value → Shared → Prop} {n : Nat} {s : Shared} {Q : Option Value → Shared → Prop} (hh : A.handled = none) (hroom : A.depth < recursionLimit) (hpn : ∀ s' : Shared, (∀ p ∈ X.pn, s'.heap.get? p.1 = some p.2) → s'.heap.IsGen a g) (st : GSt X A g go QT QF n s)
    (hE : ∀ σc H s', Inv X [] σc H s' → QT H → Q none s') (hF : ∀ σc H s', Inv X [] σc H s' → QF H → Q (some (.bool (!go))) s') (hG : ∀ m s', n = m + 1 → GSt X A g go QT QF m s' → Q (some (.bool go)) s') :
    wpAny (model X.prog X.w) A.in1 (pyNext (.ref a)) Q E s := by
  obtain ⟨⟨σc, H, I⟩, gs, hgs, hgo⟩ := st
  have isg : ∀ {σc : L2.St} {H : Hp} {s' : Shared}, Inv X [] σc H s' → s'.heap.IsGen a g := fun I => hpn _ fun p hp => (I.pin p (List.mem_append_left _ hp)).1
  have hlt : g < s.gens.size := by
    rcases Nat.lt_or_ge g s.gens.size with h | h
    · exact h
    · rw [Array.getElem?_eq_none h] at hgs; cases hgs
  refine wpAny_gsz (n := s.gens.size) (Nat.le_refl _) ?_
  refine wpAny_pyNext_genexpQ (A := A.in1) (Y := YG X go QF) (P := RG X QT) hh I.nolimit hroom (isg I) hgs hgo (fun v s₁ gs' hb hv hsz => ?_) (fun s₁ hp h' hk hsz => ?_)
  · obtain ⟨b, σ1, H1, rfl, I1, q0, q1⟩ := hv
    have hsz : s.gens.size ≤ s₁.gens.size := by rw [← setGen_size s₁ g gs']; exact hsz
    have I2 : Inv X [] σ1 H1 (s₁.setGen g gs') := inv_later I1 (fun _ _ e => e) rfl (allBare_setGen I1.bare hb)
    by_cases e : b = go
    · have k := q1 e ((s₁.setGen g gs').setGen g .running) (fun _ _ e => e) rfl (allBare_setGen (allBare_setGen I1.bare hb) rfl)
      cases n with
      | zero => exact k.elim
      | succ m =>
        rw [e]
        exact hG m _ rfl ⟨⟨σ1, H1, I2⟩, gs', setGen_at (Nat.lt_of_lt_of_le hlt hsz), k⟩
    · have e2 : b = !go := by cases b <;> cases go <;> simp_all
      rw [e2]
      exact hF σ1 H1 _ I2 (q0 e2)
  · obtain ⟨σ1, H1, I1, qt⟩ := hp
    exact hE σ1 H1 _ (inv_later (s := s₁) I1 hk rfl (allBare_setGen I1.bare rfl)) qt
theorem all_loop (hh : A.handled = none) (hroom : A.depth < recursionLimit) (hpn : ∀ s' : Shared, (∀ p ∈ X.pn, s'.heap.get? p.1 = some p.2) → s'.heap.IsGen a g)
    (hT : ∀ σc H s', Inv X [] σc H s' → QT H → R (.ok (.ret (.bool true))) s') (hF : ∀ σc H s', Inv X [] σc H s' → QF H → R (.ok (.ret (.bool false))) s') :
    ∀ (n : Nat) (s : Shared), GSt X A g true QT QF n s → codeAny (model X.prog X.w) A (.builtin "all.loop" ⟨[.ref a], []⟩) R s := by
  intro n
  induction n with
  | zero =>
    intro s st
    refine codeAny_builtin F.entry_all_loop ?_
    rw [Around.under_plainId F.plain_all_loop _]
    show wpAny _ A.in1 (pyNext (.ref a) >>= _) _ _ s
    refine wpAny_bind (gen_next hh hroom hpn st (fun σc H s' I q => ?_) (fun σc H s' I q => ?_) (fun m s' e => by cases e))
    · exact wpAny_bind (wpAny_rule (wpAny_pure (hT σc H s' I q)))
    · refine wpAny_bind (wpAny_holding (wpAny_truthy_bool ?_))
      refine wpAny_bind (wpAny_letGo ?_)
      simp only [Bool.not_true, Bool.false_eq_true, if_false]
      exact wpAny_bind (wpAny_rule (wpAny_pure (hF σc H s' I q)))
  | succ n ih =>
    intro s st
    refine codeAny_builtin F.entry_all_loop ?_
    rw [Around.under_plainId F.plain_all_loop _]
    show wpAny _ A.in1 (pyNext (.ref a) >>= _) _ _ s
    refine wpAny_bind (gen_next hh hroom hpn st (fun σc H s' I q => ?_) (fun σc H s' I q => ?_) (fun m s' e st' => ?_))
    · exact wpAny_bind (wpAny_rule (wpAny_pure (hT σc H s' I q)))
    · refine wpAny_bind (wpAny_holding (wpAny_truthy_bool ?_))
      refine wpAny_bind (wpAny_letGo ?_)
      simp only [Bool.not_true, Bool.false_eq_true, if_false]
      exact wpAny_bind (wpAny_rule (wpAny_pure (hF σc H s' I q)))
    · cases e
      refine wpAny_bind (wpAny_holding (wpAny_truthy_bool ?_))
      refine wpAny_bind (wpAny_letGo ?_)
      simp only [if_true]
      exact wpAny_pure ⟨plainId_quiet F.plain_all_loop _, ih s' st'⟩
theorem any_loop (hh : A.handled = none) (hroom : A.depth < recursionLimit) (hpn : ∀ s' : Shared, (∀ p ∈ X.pn, s'.heap.get? p.1 = some p.2) → s'.heap.IsGen a g)
    (hT : ∀ σc H s', Inv X [] σc H s' → QT H → R (.ok (.ret (.bool false))) s') (hF : ∀ σc H s', Inv X [] σc H s' → QF H → R (.ok (.ret (.bool true))) s') :
    ∀ (n : Nat) (s : Shared), GSt X A g false QT QF n s → codeAny (model X.prog X.w) A (.builtin "any.loop" ⟨[.ref a], []⟩) R s := by
  intro n
  induction n with
  | zero =>
    intro s st
    refine codeAny_builtin F.entry_any_loop ?_
    rw [Around.under_plainId F.plain_any_loop _]
    show wpAny _ A.in1 (pyNext (.ref a) >>= _) _ _ s
    refine wpAny_bind (gen_next hh hroom hpn st (fun σc H s' I q => ?_) (fun σc H s' I q => ?_) (fun m s' e => by cases e))
    · exact wpAny_bind (wpAny_rule (wpAny_pure (hT σc H s' I q)))
    · refine wpAny_bind (wpAny_holding (wpAny_truthy_bool ?_))
      refine wpAny_bind (wpAny_letGo ?_)
      simp only [Bool.not_false, if_true]
      exact wpAny_bind (wpAny_rule (wpAny_pure (hF σc H s' I q)))
  | succ n ih =>
    intro s st
    refine codeAny_builtin F.entry_any_loop ?_
    rw [Around.under_plainId F.plain_any_loop _]
    show wpAny _ A.in1 (pyNext (.ref a) >>= _) _ _ s
    refine wpAny_bind (gen_next hh hroom hpn st (fun σc H s' I q => ?_) (fun σc H s' I q => ?_) (fun m s' e st' => ?_))
    · exact wpAny_bind (wpAny_rule (wpAny_pure (hT σc H s' I q)))
    · refine wpAny_bind (wpAny_holding (wpAny_truthy_bool ?_))
      refine wpAny_bind (wpAny_letGo ?_)
      simp only [Bool.not_false, if_true]
      exact wpAny_bind (wpAny_rule (wpAny_pure (hF σc H s' I q)))
    · cases e
      refine wpAny_bind (wpAny_holding (wpAny_truthy_bool ?_))
      refine wpAny_bind (wpAny_letGo ?_)
      simp only [Bool.false_eq_true, if_false]
      exact wpAny_pure ⟨plainId_quiet F.plain_any_loop _, ih s' st'⟩
end
/-! ### the generator made -/
section
variable {X : Cx} {tg elt iter : Expr} {scope : Scope} {own : List (Str × Nat)} {c P : Addr} {k : Nat} {wi : TI} {g : TG} {te : TE} {go : Bool} {gpos : Pos}
def tGen (P : Addr) (wi : TI) (g : TG) (te : TE) (vs : List Nat) (go : Bool) : TE := fun σ H Q => wi σ H fun J H1 => H1 P = some (TabE P) ∧ ∃ W : Nat → Nat → Hp → Prop, (∃ m, W 0 m H1) ∧
  GWalk go J g te (wipe σ vs) vs (fun H => Q (.bl go) H) (fun H => Q (.bl (!go)) H) W
abbrev genAr (X : Cx) (G : Expr) (it : Addr) (env : Env) : Around := X.A.in1.in1.over (.compLoop G 0 (.ref it) .none env) []
theorem wipe2 (σ : L2.St) (vs : List Nat) : wipe (wipe σ vs) vs = wipe σ vs := by
  refine List.ext_getElem? fun i => ?_
  by_cases h : i ∈ vs
  · by_cases hi : i < σ.length
    · have q : ∀ τ : L2.St, i < τ.length → (wipe τ vs)[i]? = some none := fun τ ht => by
        cases e : (wipe τ vs)[i]? with
        | none => rw [List.getElem?_eq_none_iff, wipe_length] at e; omega
        | some o =>
          cases o with
          | none => rfl
          | some v => exact absurd h (wipe_some e).2
      rw [q _ (by rw [wipe_length]; exact hi), q _ hi]
    · rw [List.getElem?_eq_none (by rw [wipe_length, wipe_length]; omega), List.getElem?_eq_none (by rw [wipe_length]; omega)]
  · rw [wipe_out h]
theorem room_gen {e : Expr} {it : Addr} {env : Env} {A : Around} (hr : Room (k + 1) A) {sc : Scope} {gs : List Comprehension} {ps : Pos} : Room k (A.in1.in1.over (.compLoop (.GeneratorExp e gs sc ps) 0 (.ref it) .none env) []) := by
  refine ⟨hr.hd, ?_, ?_⟩
  · have := hr.dp
    show A.depth + 0 + (1 + 0 + 0 + 0) + 3 * k + 5 < _
    omega
  · have := hr.un
    show A.units + 1 + 1 + 0 + 3 * 1 + 16 * k + 200 < _
    omega
theorem gen_made {pins : List (Addr × Obj)} {s : Shared} {σ : L2.St} {H : Hp} {Q : VK} {Q' : Value → Shared → Prop} (hr : Room (k + 1) X.A) (hN : X.N.Nodup) (TB : GxR.TabB X.base X.mg c P) (hcode : X.env.code = .ref c) (ok : BlkOk X.N X.env.scope scope own) (G : GenSc scope) (hi : PI X tg iter wi)
    (hg : ∀ (s : Shared) (H : Hp) (C : Addr) (code : Value) (A' : Around) (fp : List Addr) (pn : List (Addr × Obj)), Room k A' → PG (X.gen s H scope C code A' fp pn) tg g)
    (he : ∀ (s : Shared) (H : Hp) (C : Addr) (code : Value) (A' : Around) (fp : List Addr) (pn : List (Addr × Obj)), Room k A' → PE (X.gen s H scope C code A' fp pn) elt te)
    (hs : ∀ v, genFold iter X.env v = pure v) (I : Inv X pins σ H s) (h : tGen P wi g te (own.map (·.2)) go σ H Q)
    (hQ : ∀ (X' : Cx) (a : Addr) (gn n : Nat) (s' : Shared), X'.prog = X.prog → X'.w = X.w → (∀ s' : Shared, (∀ p ∈ X'.pn, s'.heap.get? p.1 = some p.2) → s'.heap.IsGen a gn) → GSt X' X.A gn go (fun H => Q (.bl go) H) (fun H => Q (.bl (!go)) H) n s' →
      (∀ σc H s', Inv X' [] σc H s' → Inv X pins σ H s') → s'.heap.IsGen a gn → Q' (.ref a) s') :
    wpAny (model X.prog X.w) X.A (eval (.GeneratorExp elt [⟨tg, iter, [], 0⟩] scope gpos) X.env) Q' X.xe s := by
  have hCap : ∀ y ∈ scope.names, y.2 = .free → ∃ c, X.env.cells.lookup y.1 = some c := fun y hy e => by
    rcases ok.free y hy e with k | k
    · exact I.ok.has _ (.inl k)
    · exact I.ok.has _ (.inr k)
  refine wpAny_GeneratorExp_make G.co (closure_ok hCap) G.cell G.dot ok.kind (by have := hr.dp; omega) ?_ hs
  refine thn (hi.run pins s σ H _ I h) fun xv s1 hx => thn hx fun itv s2 h2 => ?_
  obtain ⟨it, fp, tn, J, H2, e, I2, T, st2, f2, hP, W, ⟨m0, w0⟩, turn⟩ := h2
  subst e
  refine ⟨I2.nolimit, gen_code I2 TB hcode hP fun code h3 tk3 I3 k3 hsz3 => ?_⟩
  obtain ⟨bm, ob, e1, e2, e3, e4, e5, e6, e7, e8⟩ := TB.bm
  refine wpAny_builtinsFor (m := X.mg) (by rw [I3.ok.glob]; exact I3.mod.glob.keeps I3.bk) e1 e2 (I3.bk _ _ e5) e6 e7 e8 ?_
  generalize hs3 : ({ s2 with heap := h3, toks := tk3 } : Shared) = s3 at I3
  have eh3 : h3 = s3.heap := by rw [← hs3]
  subst eh3
  intro h' hn' hsb
  have es3 : s2.gens = s3.gens := by rw [← hs3]
  have st3 : tn 0 s3.heap := T.keep _ _ _ st2 fun b hb o e => k3 b o (fun z => by
    have := (f2 b hb).1
    rw [z, hP] at this
    cases this) e
  have sz3 : ∀ b ∈ fp, b < s3.heap.objs.size := fun b hb => by
    obtain ⟨o, e, _⟩ := T.obj _ _ st3 b hb
    exact Heap.lt_size e
  have hsz : h'.objs.size = s3.heap.objs.size + 1 := by rw [hsb.1, Heap.size_push]
  have keep' : ∀ b o, s3.heap.get? b = some o → h'.get? b = some o := fun b o e => hsb.extBut b o (Nat.ne_of_lt (Heap.lt_size e)) (Heap.get?_push_of_some _ e)
  generalize hgo : ({ cls := .type "generator", data := .fields #[.int s3.gens.size 0, .str "<genexpr>" (s3.toks + 1), .str (X.env.qual ++ "<genexpr>") (s3.toks + 1 + 1)] } : Obj) = gobj
  have keep5 : ∀ b o, s3.heap.get? b = some o → (h'.push gobj).get? b = some o := fun b o e => Heap.get?_push_of_some _ (keep' b o e)
  generalize hGE : (Expr.GeneratorExp elt [⟨tg, iter, [], 0⟩] scope gpos) = GE
  have hX : ∃ X', X' = X.gen s3 H2 scope s3.heap.objs.size code (genAr X GE it (genv X scope s3.heap.objs.size code)) fp [(h'.objs.size, gobj)] := ⟨_, rfl⟩
  obtain ⟨X', eX⟩ := hX
  have isg : ∀ s' : Shared, (∀ p ∈ X'.pn, s'.heap.get? p.1 = some p.2) → s'.heap.IsGen h'.objs.size s3.gens.size := fun s' hp => by
    have q := hp (h'.objs.size, gobj) (by rw [eX]; exact List.mem_singleton.mpr rfl)
    exact ⟨_, _, _, q, by rw [← hgo], by rw [← hgo], by rw [← hgo]⟩
  have hroom : Room k X'.A := by
    rw [eX, ← hGE]
    exact room_gen hr
  have hgc : gobj.data = .fields #[.int s3.gens.size 0, .str "<genexpr>" (s3.toks + 1), .str (X.env.qual ++ "<genexpr>") (s3.toks + 1 + 1)] := by rw [← hgo]
  have start : ∀ s' : Shared, s'.os = s3.os → AllBare s'.gens → (∀ b o, (h'.push gobj).get? b = some o → s'.heap.get? b = some o) → Inv X' [] (wipe σ (own.map (·.2))) H2 s' := fun s' ho hb kk => by
    rw [eX]
    refine gen_start (m := _) I3 ok G hN (fun b hb => ⟨f2 b hb, sz3 b hb⟩) (Nat.le_refl _) hr.hd ?_ ho hb (fun b o e => kk b o (keep5 b o e)) (Heap.Ns.keeps (hn'.push _) kk) fun p hp => ?_
    · have hfr := I3.ok.frames
      rw [← hGE]
      have hfr2 : X.A.in1.in1.frames = some X.stack := hfr
      unfold genAr Around.over
      rw [hfr2]
      rfl
    · rw [List.mem_singleton.mp hp]
      refine ⟨kk _ _ (Heap.get?_push_size _ (by rw [← hgo]; rfl)), by show s3.heap.objs.size ≤ h'.objs.size; omega, by show h'.objs.size ≠ s3.heap.objs.size; omega, fun v z => ?_⟩
      rw [hgc] at z
      cases z
  have back : ∀ σc H s', Inv X' [] σc H s' → Inv X pins σ H s' := fun σc H s' I' => by
    rw [eX] at I'
    exact I3.call' (ch := fp) I'.os I'.base I'.hok I'.bare fun b hb => ⟨(f2 b hb).2.2.2.1, (f2 b hb).2.1, (f2 b hb).2.2.2.2.1, (f2 b hb).2.2.2.2.2⟩
  have hbare : ∀ {c : Code}, AllBare (s3.gens.push (.fresh c)) := fun {c} => I3.bare.push rfl
  refine hQ X' h'.objs.size s3.gens.size (m0 + 1) _ (by rw [eX]) (by rw [eX]) isg ⟨⟨_, _, start _ (by rw [← hs3]) ?_ fun _ _ e => e⟩, _, Array.getElem?_push_size .., rfl, ?_⟩ back ?_
  · exact hbare
  · have I0 := start (({ heap := h'.push gobj, gens := s3.gens.push (.fresh (.compStart GE 0 (.ref it) .none (genv X scope s3.heap.objs.size code))), drawn := s3.drawn, toks := s3.toks + 1 + 1 + 1, os := s3.os } : Shared).setGen s3.gens.size .running) rfl (allBare_setGen (g := s3.gens.size) (x := .running) (s := { heap := h'.push gobj, gens := s3.gens.push (.fresh (.compStart GE 0 (.ref it) .none (genv X scope s3.heap.objs.size code))), drawn := s3.drawn, toks := s3.toks + 1 + 1 + 1, os := s3.os }) hbare rfl) fun _ _ e => e
    have hf : ∀ b ∈ fp, H2 b = none := fun b hb => (f2 b hb).1
    have st5 : tn 0 (h'.push gobj) := T.keep _ _ _ st3 fun b hb o e => keep5 b o e
    have hA : X.A.in1.in1.over (genC tg elt iter scope gpos it X'.env) [] = X'.A := by rw [eX, ← hGE]
    have key := seg_begin (X := X') (scope := scope) (pos := gpos) (iter := iter) (tg := tg) (elt := elt) (it := it) (A := X.A.in1.in1) (fp := fp) (tn := tn) (J := J) (g := g) (te := te) (go := go) (σ0 := wipe σ (own.map (·.2))) (vs := own.map (·.2))
      (QT := fun H => Q (.bl go) H) (QF := fun H => Q (.bl (!go)) H) (W := W) hA (by rw [eX]) (by rw [eX]) (by rw [eX]; exact G.co) (fun b hb => ?_) (by rw [eX]; exact T) (by rw [eX]; exact hg _ _ _ _ _ _ _ (by rw [eX] at hroom; exact hroom)) (by rw [eX]; exact he _ _ _ _ _ _ _ (by rw [eX] at hroom; exact hroom))
      (fun σ => wipe2 σ _) turn (m0 + 1) m0 _ H2 (({ heap := h'.push gobj, gens := s3.gens.push (.fresh (.compStart GE 0 (.ref it) .none (genv X scope s3.heap.objs.size code))), drawn := s3.drawn, toks := s3.toks + 1 + 1 + 1, os := s3.os } : Shared).setGen s3.gens.size .running) (({ heap := h'.push gobj, gens := s3.gens.push (.fresh (.compStart GE 0 (.ref it) .none (genv X scope s3.heap.objs.size code))), drawn := s3.drawn, toks := s3.toks + 1 + 1 + 1, os := s3.os } : Shared).setGen s3.gens.size .running) (Nat.lt_succ_self _) w0 I0 (wipe2 σ _) st5 hf
    · have eC : (genS tg elt iter scope gpos it X'.env) = .compStart GE 0 (.ref it) .none (genv X scope s3.heap.objs.size code) := by rw [eX, ← hGE]
      rw [eC] at key
      exact key
    · rw [eX]
      refine ⟨hb, Nat.ne_of_lt (sz3 b hb), fun z => ?_, fun x c e z => ?_, fun p hp => ?_⟩
      · rcases List.mem_cons.mp (I3.stkSub b z) with z | z
        · exact (f2 b hb).2.1 z
        · exact (f2 b hb).2.2.1 z
      · exact (f2 b hb).2.2.2.2.1 x c (NdefX.clo_cm hCap e) z
      · rw [List.mem_singleton.mp hp]
        have q1 : b < s3.heap.objs.size := sz3 b hb
        show h'.objs.size ≠ b
        rw [hsz]
        exact Nat.ne_of_gt (Nat.lt_succ_of_lt q1)
  · exact ⟨_, _, _, Heap.get?_push_size _ (by rw [← hgo]; rfl), by rw [← hgo], by rw [← hgo], by rw [← hgo]⟩
theorem pe_allG {x : Str} {p pos : Pos} (hx : x = "all") (hr : Room (k + 1) X.A) (hgl : Gl X x) (hm : X.mg x = none) (hN : X.N.Nodup) (TB : GxR.TabB X.base X.mg c P) (hcode : X.env.code = .ref c) (ok : BlkOk X.N X.env.scope scope own) (G : GenSc scope) (hi : PI X tg iter wi)
    (hg : ∀ (s : Shared) (H : Hp) (C : Addr) (code : Value) (A' : Around) (fp : List Addr) (pn : List (Addr × Obj)), Room k A' → PG (X.gen s H scope C code A' fp pn) tg g)
    (he : ∀ (s : Shared) (H : Hp) (C : Addr) (code : Value) (A' : Around) (fp : List Addr) (pn : List (Addr × Obj)), Room k A' → PE (X.gen s H scope C code A' fp pn) elt te)
    (hs : ∀ v, genFold iter X.env v = pure v := by intro _; rfl)
    (hst : starEach [.GeneratorExp elt [⟨tg, iter, [], 0⟩] scope gpos] X.env = (false, eval (.GeneratorExp elt [⟨tg, iter, [], 0⟩] scope gpos) X.env) :: starEach [] X.env := by rfl) :
    PE X (.Call (.Name x p) [.GeneratorExp elt [⟨tg, iter, [], 0⟩] scope gpos] [] pos) (tGen P wi g te (own.map (·.2)) true) := by
  subst hx
  refine ⟨fun pins s σ H Q I h => ?_⟩
  refine wpAny_Call_Name_kw (ld_blt I hgl hm (show bootBuiltins "all" = some (.builtin "all") by decide +kernel) ?_)
  refine PyProof.Rows.callWith_builtin1 ?_ hst (by rfl)
  rw [hst]
  show wpAny _ _ (spliced ((false, eval (.GeneratorExp elt [⟨tg, iter, [], 0⟩] scope gpos) X.env) :: backTo pos (starEach [] X.env))) _ _ s
  refine Calls.spliced_cons (gen_made hr hN TB hcode ok G hi hg he hs I h fun X' a gn n s' ep ew isg st back hgen => ?_)
  refine Calls.spliced_nil ?_
  refine call_function_tree F.kind_all F.plain_all F.entry_all (F.args_all1 _) ?_
  unfold Builtin.«all»
  refine wpAny_bind (wpAny_of_eq (a := Value.ref a) (by rfl) ?_)
  refine wpAny_bind (wpAny_pyIter_gen hgen ?_)
  refine wpAny_pure ⟨plainId_quiet F.plain_all_loop _, ?_⟩
  rw [← ep, ← ew]
  refine all_loop hr.hd (by have := hr.dp; omega) isg (fun σc H' s'' I' q => ?_) (fun σc H' s'' I' q => ?_) n s' st
  · exact ⟨.bl true, H', back _ _ _ I', rfl, q⟩
  · exact ⟨.bl false, H', back _ _ _ I', rfl, q⟩
theorem pe_anyG {x : Str} {p pos : Pos} (hx : x = "any") (hr : Room (k + 1) X.A) (hgl : Gl X x) (hm : X.mg x = none) (hN : X.N.Nodup) (TB : GxR.TabB X.base X.mg c P) (hcode : X.env.code = .ref c) (ok : BlkOk X.N X.env.scope scope own) (G : GenSc scope) (hi : PI X tg iter wi)
    (hg : ∀ (s : Shared) (H : Hp) (C : Addr) (code : Value) (A' : Around) (fp : List Addr) (pn : List (Addr × Obj)), Room k A' → PG (X.gen s H scope C code A' fp pn) tg g)
    (he : ∀ (s : Shared) (H : Hp) (C : Addr) (code : Value) (A' : Around) (fp : List Addr) (pn : List (Addr × Obj)), Room k A' → PE (X.gen s H scope C code A' fp pn) elt te)
    (hs : ∀ v, genFold iter X.env v = pure v := by intro _; rfl)
    (hst : starEach [.GeneratorExp elt [⟨tg, iter, [], 0⟩] scope gpos] X.env = (false, eval (.GeneratorExp elt [⟨tg, iter, [], 0⟩] scope gpos) X.env) :: starEach [] X.env := by rfl) :
    PE X (.Call (.Name x p) [.GeneratorExp elt [⟨tg, iter, [], 0⟩] scope gpos] [] pos) (tGen P wi g te (own.map (·.2)) false) := by
  subst hx
  refine ⟨fun pins s σ H Q I h => ?_⟩
  refine wpAny_Call_Name_kw (ld_blt I hgl hm boot_any ?_)
  refine PyProof.Rows.callWith_builtin1 ?_ hst (by rfl)
  rw [hst]
  show wpAny _ _ (spliced ((false, eval (.GeneratorExp elt [⟨tg, iter, [], 0⟩] scope gpos) X.env) :: backTo pos (starEach [] X.env))) _ _ s
  refine Calls.spliced_cons (gen_made hr hN TB hcode ok G hi hg he hs I h fun X' a gn n s' ep ew isg st back hgen => ?_)
  refine Calls.spliced_nil ?_
  refine call_function_tree F.kind_any F.plain_any F.entry_any (F.args_any1 _) ?_
  unfold Builtin.«any»
  refine wpAny_bind (wpAny_of_eq (a := Value.ref a) (by rfl) ?_)
  refine wpAny_bind (wpAny_pyIter_gen hgen ?_)
  refine wpAny_pure ⟨plainId_quiet F.plain_any_loop _, ?_⟩
  rw [← ep, ← ew]
  refine any_loop hr.hd (by have := hr.dp; omega) isg (fun σc H' s'' I' q => ?_) (fun σc H' s'' I' q => ?_) n s' st
  · exact ⟨.bl false, H', back _ _ _ I', rfl, q⟩
  · exact ⟨.bl true, H', back _ _ _ I', rfl, q⟩
end
/-! ### what the walks ask, by lists -/
theorem gw_tup {K : PySem.W.Frag} {a : Addr} {xs : List V} {go : Bool} {g : TG} {te : TE} {σ0 : L2.St} {vs : List Nat} {QT QF : Hp → Prop} {H : Hp} (Pv : Nat → Hp → Prop) (h0 : Pv 0 H) (hl : ∀ i H, i ≤ xs.length → Pv i H → SqT K H a xs)
    (hs : ∀ i x H, xs[i]? = some x → Pv i H → g x σ0 H fun σ2 H2 => wipe σ2 vs = σ0 ∧ te σ2 H2 fun y H3 => ∃ b, y = .bl b ∧ if b = go then Pv (i + 1) H3 else QF H3) (hd : ∀ H, Pv xs.length H → QT H) :
    ∃ W : Nat → Nat → Hp → Prop, (∃ m, W 0 m H) ∧ GWalk go (Itt K a) g te σ0 vs QT QF W := by
  refine ⟨fun i m H => i ≤ xs.length ∧ m = xs.length - i ∧ Pv i H, ⟨xs.length, Nat.zero_le _, by simp, h0⟩, ?_⟩
  rintro i m H ⟨hi, rfl, hp⟩
  have hL := hl i H hi hp
  by_cases e : i = xs.length
  · exact .inl ⟨⟨xs, hL, by omega⟩, hd H (by rw [← e]; exact hp)⟩
  · have hlt : i < xs.length := by omega
    refine .inr ⟨⟨xs, xs[i], hL, List.getElem?_eq_getElem hlt⟩, Pv (i + 1), fun H' hq => ⟨_, by omega, hlt, rfl, hq⟩, fun x H' hy => ?_⟩
    obtain ⟨rfl, hx⟩ := hy
    exact hs i x _ (hx xs hL) hp
theorem gw_list {K : PySem.W.Frag} {a : Addr} {xs : List V} {go : Bool} {g : TG} {te : TE} {σ0 : L2.St} {vs : List Nat} {QT QF : Hp → Prop} {H : Hp} (Pv : Nat → Hp → Prop) (h0 : Pv 0 H) (hl : ∀ i H, i ≤ xs.length → Pv i H → SqL K H a xs)
    (hs : ∀ i x H, xs[i]? = some x → Pv i H → g x σ0 H fun σ2 H2 => wipe σ2 vs = σ0 ∧ te σ2 H2 fun y H3 => ∃ b, y = .bl b ∧ if b = go then Pv (i + 1) H3 else QF H3) (hd : ∀ H, Pv xs.length H → QT H) :
    ∃ W : Nat → Nat → Hp → Prop, (∃ m, W 0 m H) ∧ GWalk go (Itl K a) g te σ0 vs QT QF W := by
  refine ⟨fun i m H => i ≤ xs.length ∧ m = xs.length - i ∧ Pv i H, ⟨xs.length, Nat.zero_le _, by simp, h0⟩, ?_⟩
  rintro i m H ⟨hi, rfl, hp⟩
  have hL := hl i H hi hp
  by_cases e : i = xs.length
  · exact .inl ⟨⟨xs, hL, by omega⟩, hd H (by rw [← e]; exact hp)⟩
  · have hlt : i < xs.length := by omega
    refine .inr ⟨⟨xs, xs[i], hL, List.getElem?_eq_getElem hlt⟩, Pv (i + 1), fun H' hq => ⟨_, by omega, hlt, rfl, hq⟩, fun x H' hy => ?_⟩
    obtain ⟨rfl, hx⟩ := hy
    exact hs i x _ (hx xs hL) hp
end Sw
set_option Elab.async false
set_option maxRecDepth 100000
set_option maxHeartbeats 4000000
namespace Sw
open PySem L2 PySem.Spec PyProof.Rows GenW
/-! ### the end of a law over defs with generator expressions: their tables are tracked as things that may grow -/
abbrev Tabs (ts : List (Addr × Addr)) (H : Hp) : Prop := ∀ p ∈ ts, H p.2 = some (TabE p.2)
theorem Tabs.same {ts : List (Addr × Addr)} {H H' : Hp} (h : Tabs ts H) (s : Same H H') : Tabs ts H' := fun p hp => s _ _ (h p hp)
theorem law_callE {P : Program} {w : World} {K : PySem.W.Frag} {mg mb : Str → Option Value} {k : Nat} {fa a : Addr} {cs : List (Addr × Addr)} {fd : FuncData} {x : Str} {sp : Sp} {s₁ : Shared} {vs : List Value} {ns : List Int}
    (KX : K.In s₁.heap) (hns : s₁.heap.Ns mainGlobals mg) (hb : s₁.heap.Ns builtinsNs mb) (hbb : ∀ x : Str, x ≠ "__name__" → mb x = bootBuiltins x) (hlim : s₁.heap.NoLimit) (hg : s₁.gens = #[])
    (hT : ∀ p ∈ cs, s₁.heap.get? p.2 = some { cls := .none, data := .fields #[] }) (nT : ∀ p ∈ cs, K.lookup p.2 = none) (C : ∀ p ∈ cs, PySem.W.CodeHd s₁.heap p.1 p.2)
    (hbm : ∃ (bm : Addr) (ob : Obj), mg "__builtins__" = some (.ref bm) ∧ bm ≠ builtinsNs ∧ s₁.heap.get? bm = some ob ∧ ob.cls = .type "module" ∧ ob.dict = some builtinsNs ∧ ob.data = .plain)
    (ha : s₁.heap.get? a = some { cls := .type "list", data := .seq vs.toArray }) (hi : IntsAre vs ns) (hl : ns.length ≤ sizeLine) (hr : Room k callerA)
    (F : ∀ base : Heap, K.In base → base.Ns mainGlobals mg → (∀ p ∈ cs, GxR.TabB base mg p.1 p.2) → FnOk P w K mg base CX0 k fa fd [x] sp) (hbind : ∀ (s : Shared) (u : Value), BindsTo s fd ⟨[u], []⟩ [(x, u)])
    (hsp : ∀ H : Hp, Tabs cs H → SqL K H a (ns.map V.int) → sp [.ref a] H (fun v H' => v = .bl true ∧ Tabs cs H') fun _ _ _ => False) :
    codeAny (model P w) callerA (.call (.ref fa) ⟨[.ref a], []⟩) (fun r s' => r = .ok (.ret (.bool true)) ∧ OldK s₁.heap s'.heap ∧ s'.os = s₁.os ∧ AllBare s'.gens) s₁ := by
  have rv := vals_ints hi
  have lenV := hi.length
  have isT : ∀ b : Addr, b ∈ cs.map (·.2) → s₁.heap.get? b = some { cls := .none, data := .fields #[] } := fun b hb => by
    obtain ⟨p, hp, e⟩ := List.mem_map.mp hb
    rw [← e]
    exact hT p hp
  have aT : a ∉ cs.map (·.2) := fun z => by
    have q := isT a z
    rw [ha] at q
    have z' : Data.seq vs.toArray _ = Data.fields #[] := congrArg Obj.data (Option.some.inj q)
    cases z'
  have memT : ∀ p ∈ cs, p.2 ∈ cs.map (·.2) := fun p hp => List.mem_map.mpr ⟨p, hp, rfl⟩
  have core : ∀ H : Hp, Tabs cs H → (∀ b, H b = none ∨ b ∈ cs.map (·.2) ∨ ∃ o xs, H b = some (.frz o (.lst xs))) → SqL K H a (ns.map V.int) → HOk P w H s₁.heap → (∀ b, H b ≠ none → b = a ∨ b ∈ cs.map (·.2)) → (H a ≠ none → K.lookup a = none) →
      codeAny (model P w) callerA (.call (.ref fa) ⟨[.ref a], []⟩) (fun r s' => r = .ok (.ret (.bool true)) ∧ OldK s₁.heap s'.heap ∧ s'.os = s₁.os ∧ AllBare s'.gens) s₁ := by
    intro H hH hO hS hok hA hK
    have base_of : ∀ {b : Addr} {o : Obj}, s₁.heap.get? b = some o → H b = none → (hidT s₁.heap H).get? b = some o := fun e n => hidT_get e n
    have noD : ∀ {b : Addr} {o : Obj}, s₁.heap.get? b = some o → (∀ vs n, o.data ≠ .seq vs n) → o.data ≠ .fields #[] → H b = none := fun {b o} e h1 h2 => by
      cases q : H b with
      | none => rfl
      | some u =>
        rcases hA b (by rw [q]; simp) with e' | e'
        · rw [e', ha] at e
          cases e
          exact (h1 _ _ rfl).elim
        · rw [isT b e'] at e
          cases e
          exact (h2 rfl).elim
    have noA : ∀ {b : Addr} {o : Obj} {es : Array DictEntry} {ep : Nat}, s₁.heap.get? b = some o → o.data = .dict es ep → H b = none := fun {b o es ep} e d => by
      refine noD e (fun vs n z => ?_) fun z => ?_
      · rw [d] at z
        cases z
      · rw [d] at z
        cases z
    have nsK : ∀ {b : Addr} {m : Str → Option Value}, s₁.heap.Ns b m → (hidT s₁.heap H).Ns b m := fun {b m} ⟨o, es, ep, e, d, r⟩ => ⟨o, es, ep, base_of e (noA e d), d, r⟩
    have hKb : K.In (hidT s₁.heap H) := fun b o e => base_of (KX b o e) (by
      cases q : H b with
      | none => rfl
      | some u =>
        rcases hA b (by rw [q]; simp) with e' | e'
        · rw [e'] at e q
          rw [hK (by rw [q]; simp)] at e
          cases e
        · obtain ⟨p, hp, ep⟩ := List.mem_map.mp e'
          rw [← ep, nT p hp] at e
          cases e)
    have hM : L2.Mod K mg (hidT s₁.heap H) := ⟨hKb, nsK hns, ⟨mb, nsK hb, hbb⟩, let ⟨mc, h1, h2⟩ := hlim; ⟨mc, nsK h1, h2⟩⟩
    have TB : ∀ p ∈ cs, GxR.TabB (hidT s₁.heap H) mg p.1 p.2 := fun p hp => by
      have hTp := hT p hp
      refine ⟨?_, ?_, fun z => ?_⟩
      · obtain ⟨o, us, file, tf, flags, tg, inF, text, tt, e1, r1, r2, r3, r4, r5, r6, r7, r8, hne⟩ := C p hp
        refine ⟨o, us, file, tf, flags, tg, inF, text, tt, base_of e1 (noD e1 (fun vs n z => ?_) fun z => ?_), r1, r2, r3, r4, r5, r6, r7, r8, hne⟩
        · rw [r2] at z
          cases z
        · rw [r2] at z
          cases z
          simp at r3
      · obtain ⟨bm, ob, b1, b2, b3, b4, b5, b6⟩ := hbm
        have nG : bm ≠ mainGlobals := fun q => by
          obtain ⟨o, es, ep, e, hd, _⟩ := hns
          rw [q, e] at b3
          cases b3
          rw [hd] at b6
          cases b6
        have nP : bm ≠ p.2 := fun q => by
          rw [q, hTp] at b3
          cases b3
          cases b6
        refine ⟨bm, ob, b1, b2, nG, nP, base_of b3 (noD b3 (fun vs n z => ?_) fun z => ?_), b4, b5, b6⟩
        · rw [b6] at z
          cases z
        · rw [b6] at z
          cases z
      · obtain ⟨o, es, ep, e, hd, _⟩ := hns
        rw [z, hTp] at e
        cases e
        cases hd
    have e0 : Env0 P w K mg (hidT s₁.heap H) callerA [] s₁ H := ⟨rfl, hM, fun b o e => of_hidT e, Nat.le_of_eq (hidT_size _ _), trivial, fun b hb => absurd (show b ∈ ([] : List Addr) from hb) (by simp), hok, .of_eq hg⟩
    refine codeAny_mono ((F _ hKb (nsK hns) TB).run callerA [] s₁ H ⟨[.ref a], []⟩ [.ref a] [.ref a] _ _ hr e0 (hbind s₁ (.ref a)) (.cons rfl .nil) (hsp H hH hS)) fun r s' h => ?_
    cases r with
    | error e => exact False.elim h
    | ok fl =>
      cases fl with
      | next => exact False.elim h
      | brk => exact False.elim h
      | cont => exact False.elim h
      | ret u =>
        obtain ⟨v, H', os, bare, un, hok', r', q⟩ := h
        obtain ⟨qv, qT⟩ := q
        subst qv
        obtain rfl : u = Value.bool true := r'
        have stays : ∀ b o, b ∉ cs.map (·.2) → s₁.heap.get? b = some o → s'.heap.get? b = some o := fun b o nb e => by
          cases q : H b with
          | none => exact un.keep b o e q (by intro z; exact absurd (show b ∈ ([] : List Addr) from z) (by simp)) (by simp)
          | some u =>
            rcases hO b with z | z | ⟨ob, xs, z⟩
            · rw [q] at z; cases z
            · exact absurd z nb
            · obtain ⟨e1, _⟩ := hok b _ z
              obtain ⟨e2, _⟩ := hok' b _ (un.frzs b ob _ z)
              rw [e] at e1; cases e1
              exact e2
        have grew : ∀ p ∈ cs, ∃ more : Array Value, s'.heap.get? p.2 = some { cls := .none, data := .fields more } := fun p hp => by
          obtain ⟨⟨ps, z, _⟩, _⟩ := hok' p.2 _ (qT p hp)
          exact ⟨ps, z⟩
        refine ⟨rfl, ⟨fun b o e => ?_, fun b o e => ?_⟩, os, bare⟩
        · by_cases hb : b ∈ cs.map (·.2)
          · obtain ⟨p, hp, ep⟩ := List.mem_map.mp hb
            obtain ⟨more, hm⟩ := grew p hp
            rw [← ep] at e ⊢
            rw [hT p hp] at e
            cases e
            exact .inr (.inl ⟨((C p hp).tab (hT p hp)).isCodeTable, rfl, #[], more, rfl, by rw [Array.empty_append]; exact hm⟩)
          · exact .inl (stays b o hb e)
        · by_cases hb : b ∈ cs.map (·.2)
          · obtain ⟨p, hp, ep⟩ := List.mem_map.mp hb
            obtain ⟨more, hm⟩ := grew p hp
            rw [← ep]
            exact ⟨_, hm⟩
          · exact ⟨o, stays b o hb e⟩
  have tOk : ∀ {H : Hp} {b : Addr}, b ∈ cs.map (·.2) → ObjOk P w H s₁.heap b (TabE b) := fun hb => tabE_ok (isT _ hb) (by trivial)
  cases hk : K.lookup a with
  | some o =>
    have e := KX a o hk
    rw [ha] at e
    cases e
    refine core (fun b => if b ∈ cs.map (·.2) then some (TabE b) else none) (fun p hp => if_pos (memT p hp)) (fun b => ?_) (.inr ⟨_, vs.toArray, _, hk, rfl, rfl, rfl, by rw [List.size_toArray, lenV]; exact hl, by simpa using rv⟩) (fun b u z => ?_) (fun b z => ?_) fun z => absurd (show (if a ∈ cs.map (·.2) then some (TabE a) else none) = none from if_neg aT) z
    · by_cases hb : b ∈ cs.map (·.2)
      · exact .inr (.inl hb)
      · exact .inl (if_neg hb)
    · by_cases hb : b ∈ cs.map (·.2)
      · have z' := (if_pos hb).symm.trans z
        cases z'
        exact tOk hb
      · have z' := (if_neg hb).symm.trans z
        cases z'
    · by_cases hb : b ∈ cs.map (·.2)
      · exact .inr hb
      · exact absurd (if_neg hb) z
  | none =>
    refine core (fun b => if b = a then some (.frz { cls := .type "list", data := .seq vs.toArray } (.lst (ns.map V.int))) else if b ∈ cs.map (·.2) then some (TabE b) else none) (fun p hp => (if_neg (show ¬ p.2 = a from fun z => aT (by rw [← z]; exact memT p hp))).trans (if_pos (memT p hp))) (fun b => ?_)
      (.inl (.inr ⟨{ cls := .type "list", data := .seq vs.toArray }, if_pos rfl⟩)) (fun b u z => ?_) (fun b z => ?_) fun _ => hk
    · by_cases hb : b = a
      · exact .inr (.inr ⟨_, _, if_pos hb⟩)
      · by_cases hb2 : b ∈ cs.map (·.2)
        · exact .inr (.inl hb2)
        · exact .inl ((if_neg hb).trans (if_neg hb2))
    · by_cases hb : b = a
      · have z' := (if_pos hb).symm.trans z
        cases z'
        rw [hb]
        exact ⟨ha, by rw [List.length_map]; exact hl, vs, _, rv, ha⟩
      · have z1 := (if_neg hb).symm.trans z
        by_cases hb2 : b ∈ cs.map (·.2)
        · have z' := (if_pos hb2).symm.trans z1
          cases z'
          exact tOk hb2
        · have z' := (if_neg hb2).symm.trans z1
          cases z'
    · by_cases hb : b = a
      · exact .inl hb
      · by_cases hb2 : b ∈ cs.map (·.2)
        · exact .inr hb2
        · exact absurd ((if_neg hb).trans (if_neg hb2)) z
/-- the tables of the defs that stand under these names: empty at the law's entry -/
def OwnT (K : PySem.W.Frag) (h : Heap) (x : Str) (c P : Addr) : Prop := ∀ (f : Addr) (o : Obj) (fd : FuncData) (e : Value) (dd : Option Addr) (vs : Array Value) (sl : Array (Option Value)), PySem.W.nsIn K mainGlobals x = some (some (.ref f)) → K.lookup f = some o → o.data = .func fd → fd.code = .ref c → K.lookup c = some ⟨e, dd, .fields vs, sl⟩ → vs[11]? = some (.ref P) →
  h.get? P = some { cls := .none, data := .fields #[] } ∧ PySem.W.CodeHd h c P
theorem walk_ofE {l : PySem.W.OpenLaw} {n k : Nat} {q : Program} {loose : List Str} {XP : (Str → Option Value) → Heap → Prop} {YP : World → Heap → Prop} {d : DefRec} {K : Params → PySem.W.Frag} {x : Str}
    (hn : l.most = some n) (hn2 : n ≤ sizeLine) (hdf : d.params.defaults = []) (hr : Room k callerA) (hY : ∀ (w : World) (h : Heap), YP w h → (K w.params).In h)
    (F : ∀ (w : World) (mg : Str → Option Value) (fa : Addr) (h : Heap), (K w.params).In h → h.Ns mainGlobals mg → mg d.name = some (.ref fa) → (∀ x c P, ((recsOf q).any fun e => e.name == x) = true → OwnT (K w.params) h x c P) →
      ∃ (fd : FuncData) (cs : List (Addr × Addr)) (sp : Sp), (∀ p ∈ cs, h.get? p.2 = some { cls := .none, data := .fields #[] }) ∧ (∀ p ∈ cs, (K w.params).lookup p.2 = none) ∧ (∀ p ∈ cs, PySem.W.CodeHd h p.1 p.2) ∧ (∀ (s : Shared) (u : Value), BindsTo s fd ⟨[u], []⟩ [(x, u)]) ∧
        (∀ (H : Hp) (a : Addr) (ns : List Int), ns.length ≤ n → (∀ z ∈ ns, Builtin.Int.intBits z ≤ 1048576) → Tabs cs H → SqL (K w.params) H a (ns.map V.int) → sp [.ref a] H (fun v H' => v = .bl true ∧ Tabs cs H') fun _ _ _ => False) ∧
        ∀ base : Heap, (K w.params).In base → base.Ns mainGlobals mg → (∀ p ∈ cs, GxR.TabB base mg p.1 p.2) → FnOk l.prog w (K w.params) mg base CX0 k fa fd [x] sp) :
    PySem.W.WalkO q loose XP YP l.row.toRowW d [] (fun f vs => PySem.call f vs) := by
  refine Att.attach_callB hn hdf fun w s₀ s₁ mg mb fa o pm cd doc a vs ns G Y ho hd hcd hmg hobj hints hlen hbits hg => ?_
  have KX := hY w _ Y
  obtain ⟨fd, cs, sp, hT, nT, C, hb, hsp, hF⟩ := F w mg fa _ KX G.T.g hmg fun x c P hrec f o1 fd1 e dd vs1 sl k0 k1 k2 k3 k4 k5 => by
    obtain ⟨dL, hm, hn1⟩ := List.any_eq_true.mp hrec
    have hn2 : dL.name = x := beq_iff_eq.mp hn1
    obtain ⟨a', o', fd', c', P', h1, h2, h3, h4, h5, h6⟩ := G.T.tab dL hm
    have q0 := PySem.W.mg_of KX G.T.g k0
    rw [hn2, q0] at h1
    cases h1
    have g1 := KX _ _ k1
    rw [g1] at h2
    cases h2
    rw [k2] at h3
    cases h3
    rw [k3] at h4
    cases h4
    have h6' := h6
    obtain ⟨⟨oc, vc, e1, _, e3, e4⟩, hP⟩ := h6
    have g2 := KX _ _ k4
    rw [g2] at e1
    cases e1
    cases e3
    rw [k5] at e4
    cases e4
    exact ⟨hP, PySem.W.CodeHd.of h5 h6'⟩
  exact law_callE KX G.T.g G.T.b G.T.builtins G.T.nolimit hg hT nT C G.T.bmain hobj hints (Nat.le_trans hlen hn2) hr hF hb (fun H hH hS => hsp H a ns hlen hbits hH hS)
end Sw
set_option Elab.async false
set_option maxRecDepth 100000
set_option maxHeartbeats 4000000
namespace Sw
open PySem L2 PySem.Spec PyProof.Rows
/-! ### sets of keys whose table may be walked -/
def Led (w : World) (t : SetTable) : Prop := Ris t.place.toList ∧ (w.params.followText "set-order" = true ∨ t.led = true)
def Sk (P : Program) (w : World) (h : Heap) (a : Addr) (S : Key → Bool) (n : Nat) : Prop :=
  ∃ o es ep t, h.get? a = some o ∧ o.ExactSet ∧ o.data = .set es ep t ∧ ElemsOf (mixKind P w) es.toList ∧ (∀ k, S k = true ↔ ∃ e ∈ es.toList, (mixKind P w).is k e.2 = true) ∧ es.size < scanBound ∧ t.fits es.size = true ∧ es.size = n ∧ Led w t
theorem Sk.of {P : Program} {w : World} {h : Heap} {a : Addr} {S : Key → Bool} {n : Nat} (x : Sk P w h a S n) : h.SetOf (mixKind P w) a S n := by
  obtain ⟨o, es, ep, t, h1, h2, h3, h4, h5, h6, h7, h8, _⟩ := x
  exact ⟨o, es, ep, t, h1, h2, h3, h4, h5, h6, h7, h8⟩
theorem Sk.keep {P : Program} {w : World} {h h' : Heap} {a : Addr} {S : Key → Bool} {n : Nat} (x : Sk P w h a S n) (k : ∀ o, h.get? a = some o → h'.get? a = some o) : Sk P w h' a S n := by
  obtain ⟨o, es, ep, t, h1, r⟩ := x
  exact ⟨o, es, ep, t, k o h1, r⟩
theorem Sk.fresh (P : Program) (w : World) (h : Heap) : Sk P w (h.push { cls := .type "set", dict := none, data := .set #[] 0 (.fresh 0 0 (!w.params.followText "set-order")) }) h.objs.size (fun _ => false) 0 := by
  refine ⟨_, #[], 0, _, Heap.get?_push_size _ rfl, ⟨rfl, rfl, rfl⟩, rfl, fun e he => by simp at he, fun k => by simp, by decide, by rfl, rfl, List.Pairwise.nil, ?_⟩
  show _ ∨ (!w.params.followText "set-order") = true
  cases w.params.followText "set-order" <;> simp
section
variable {P : Program} {w : World} {A : Around} {E : Value → Shared → Prop} {s : Shared} {a : Addr}
theorem quiet2 (b : Bool) {x : String} {s₁ : Shared} {Q : Unit → Shared → Prop} (q : Q () s₁) : wpAny (model P w) A (match b with | true => rule x | false => pure ()) Q E s₁ := by
  cases b
  · exact wpAny_pure q
  · exact wpAny_rule q
/-- what stands behind a new element -/
theorem sk_laid {g : Bool → Sem Unit} (hg : ∀ (b : Bool) (s₁ : Shared) (Q : Unit → Shared → Prop), Q () s₁ → wpAny (model P w) A (g b) Q E s₁) {o : Obj} {es es1 : Array (Int × Value)} {ep n : Nat} {t t2 : SetTable} {S : Key → Bool} {wasDummy : Bool} {R : Option Bool → Shared → Prop}
    (ho : s.heap.get? a = some o) (hex : o.ExactSet) (hd : o.data = .set es ep t) (hel : ElemsOf (mixKind P w) es1.toList) (hm : ∀ k, S k = true ↔ ∃ e ∈ es1.toList, (mixKind P w).is k e.2 = true) (hb : es1.size < scanBound) (hf : t2.fits es1.size = true) (hn : es1.size = n) (hL : Led w t2)
    (k : ∀ h', Heap.SameBut a s.heap h' → Sk P w h' a S n → R (some true) { s with heap := h' }) :
    wpAny (model P w) A (do
        storeSet a es1 t2
        if (!wasDummy && t2.tooFull) = true then do
            g (relayAll t2 es1 (SetTable.grown es1.size)).2.2
            storeSet a (relayAll t2 es1 (SetTable.grown es1.size)).1 (relayAll t2 es1 (SetTable.grown es1.size)).2.1
            pure (some true)
          else pure (some true)) R E s := by
  have at1 := store_at (es' := es1) (t' := t2) ho hd
  have b1 := Heap.SameBut.update s.heap a (Obj.putSet es1 t2)
  refine wpAny_bind (wpAny_storeSet_of ho hd ?_ (fits_of_scanBound hb))
  split
  · have p := relayAll_perm t2 es1 (SetTable.grown es1.size)
    have f := relayAll_fits t2 es1 (SetTable.grown es1.size)
    have r := relayAll_ris t2 es1 (SetTable.grown es1.size)
    have l := relayAll_led t2 es1 (SetTable.grown es1.size)
    cases e : relayAll t2 es1 (SetTable.grown es1.size) with
    | mk es2 z =>
      obtain ⟨t3, gave⟩ := z
      rw [e] at p f r l
      have sz : es2.size = es1.size := by
        have := p.length_eq
        rwa [Array.length_toList, Array.length_toList] at this
      refine wpAny_bind (hg _ _ _ (wpAny_bind (wpAny_storeSet_of at1 rfl ?_ (fits_of_scanBound (by show es2.size < _; rw [sz]; exact hb)))))
      refine wpAny_pure (k _ (b1.trans (Heap.SameBut.update _ a _)) ?_)
      refine ⟨_, es2, _, t3, store_at at1 rfl, hex, rfl, hel.perm p, fun x => (hm x).trans ?_, by rw [sz]; exact hb, f, by rw [sz]; exact hn, r, hL.2.imp id fun q => l.trans q⟩
      exact ⟨fun ⟨y, hy, q⟩ => ⟨y, p.mem_iff.mpr hy, q⟩, fun ⟨y, hy, q⟩ => ⟨y, p.mem_iff.mp hy, q⟩⟩
  · exact wpAny_pure (k _ b1 ⟨_, es1, _, t2, at1, hex, rfl, hel, hm, hb, hf, hn, hL⟩)
theorem sk_add_hashed {S : Key → Bool} {n : Nat} {k : Key} {u : Value} {Q : Bool → Shared → Prop} (hk : (mixKind P w).is k u = true) (hs : u.scannable = true) (x : Sk P w s.heap a S n) (room : n + 1 < scanBound)
    (q : ∀ h', Heap.SameBut a s.heap h' → Sk P w h' a (fun j => S j || decide (j = k)) (if S k = true then n else n + 1) → Q (!S k) { s with heap := h' }) :
    wpAny (model P w) A (setAddHashed a u ((mixKind P w).hash k)) Q E s := by
  obtain ⟨o, es, ep, t, ho, hex, hd, hel, hm, hb, hf, hn, hL⟩ := x
  unfold setAddHashed setAddHashedIn
  refine wpAny_holding (wpAny_bind (wpAny_setState_of ho hd hf ?_))
  dsimp only
  rw [byScan_of hs hb hel]
  simp only [↓reduceIte]
  unfold setAddByScan
  refine wpAny_bind (wpAny_bind (wpAny_rule (wpAny_bind (wpAny_setScan_of hk ho hd hf hel ?_))))
  cases hi : List.findIdx? (fun e => (mixKind P w).is k e.2) es.toList with
  | some j =>
    obtain ⟨hj, pj, _⟩ := List.findIdx?_eq_some_iff_getElem.mp hi
    have inS : S k = true := (hm k).mpr ⟨_, List.getElem_mem hj, pj⟩
    refine wpAny_pure (wpAny_pure ?_)
    have r := q s.heap (Heap.SameBut.refl a s.heap) ⟨o, es, ep, t, ho, hex, hd, hel, fun i => ?_, hb, hf, by rw [if_pos inS]; exact hn, hL⟩
    · rw [inS] at r
      exact r
    · show (S i || decide (i = k)) = true ↔ _
      rw [← hm i]
      by_cases e : i = k
      · rw [e, inS]; simp
      · rw [decide_eq_false e, Bool.or_false]
  | none =>
    have out : ∀ e ∈ es.toList, (mixKind P w).is k e.2 = false := fun e he => by
      have := List.findIdx?_eq_none_iff.mp hi e he
      simpa using this
    have notS : S k = false := by
      cases e : S k with
      | false => rfl
      | true =>
        obtain ⟨y, hy, q⟩ := (hm k).mp e
        rw [out y hy] at q
        cases q
    have p := layNew_perm t es ((mixKind P w).hash k) u
    have f := layNew_fits t es ((mixKind P w).hash k) u
    have r := layNew_ris t es ((mixKind P w).hash k) u hL.1
    have l := layNew_led t es ((mixKind P w).hash k) u
    dsimp only
    generalize layNew t es ((mixKind P w).hash k) u = Z at p f r l ⊢
    obtain ⟨es1, t1, wd, gave⟩ := Z
    dsimp only at p f r l ⊢
    rw [Array.toList_push] at p
    have hel1 : ElemsOf (mixKind P w) es1.toList := (hel.push hk hs).perm p
    have hn1 : es1.size = n + 1 := by
      have := p.length_eq
      rw [List.length_append, List.length_singleton, Array.length_toList, Array.length_toList] at this
      omega
    have hm1 : ∀ i, (S i || decide (i = k)) = true ↔ ∃ e ∈ es1.toList, (mixKind P w).is i e.2 = true := fun i => by
      rw [Bool.or_eq_true, hm i, decide_eq_true_eq]
      constructor
      · rintro (⟨y, hy, z⟩ | e)
        · exact ⟨y, p.mem_iff.mpr (List.mem_append_left _ hy), z⟩
        · rw [e]
          exact ⟨_, p.mem_iff.mpr (List.mem_append_right _ (List.mem_singleton.mpr rfl)), hk⟩
      · rintro ⟨y, hy, z⟩
        rcases List.mem_append.mp (p.mem_iff.mp hy) with hy | hy
        · exact .inl ⟨y, hy, z⟩
        · rw [List.mem_singleton.mp hy] at z
          exact .inr ((mixKind P w).inj _ _ _ z hk)
    have L1 : Led w t1 := ⟨r, hL.2.imp id fun z => l.trans z⟩
    have done : ∀ h', Heap.SameBut a s.heap h' → Sk P w h' a (fun j => S j || decide (j = k)) (n + 1) → Q true { s with heap := h' } := fun h' sb x => by
      have := q h' sb
      rw [notS] at this
      exact this x
    refine wpAny_bind (quiet2 _ ?_)
    split
    · refine wpAny_bind ?_
      rw [hashByValue_scannable 8 hs]
      refine wpAny_pure (sk_laid (fun b s₁ Q' z => by cases b <;> first | exact wpAny_pure z | exact wpAny_rule z) ho hex hd hel1 hm1 (by rw [hn1]; exact room) ?_ hn1 ?_ fun h' sb x => ?_)
      · first | (split <;> first | exact f | exact SetTable.fits_plain_off f) | exact f
      · first | (split <;> exact L1) | exact L1
      · dsimp only; exact wpAny_pure (done h' sb x)
    · refine wpAny_bind (wpAny_pure ?_)
      simp only [↓reduceIte]
      refine sk_laid (fun b s₁ Q' z => by cases b <;> first | exact wpAny_pure z | exact wpAny_rule z) ho hex hd hel1 hm1 (by rw [hn1]; exact room) f hn1 L1 fun h' sb x => ?_
      dsimp only
      exact wpAny_pure (done h' sb x)
end
end Sw
set_option Elab.async false
set_option maxRecDepth 100000
set_option maxHeartbeats 4000000
namespace Sw
open PySem L2 PySem.Spec PyProof.Rows
/-- a set of keys, as a thing of the heap -/
def SkO (P : Program) (w : World) (a : Addr) (S : Key → Bool) (n : Nat) : HO := .ext fun h => Sk P w h a S n
theorem sk_new {P : Program} {w : World} {H : Hp} {h : Heap} {a : Addr} {S : Key → Bool} {n : Nat} (x : Sk P w h a S n) : ObjOk P w H h a (SkO P w a S n) := by
  obtain ⟨o, _, _, _, ho, _⟩ := id x
  exact ⟨x, ⟨o, ho⟩, fun _ _ p k => p.keep k⟩
theorem sk_get {X : Cx} {pins : List (Addr × Obj)} {σ : L2.St} {H : Hp} {s : Shared} {a : Addr} {S : Key → Bool} {n : Nat} (I : Inv X pins σ H s) (ha : H a = some (SkO X.prog X.w a S n)) : Sk X.prog X.w s.heap a S n := (I.hok a _ ha).1
section
variable {X : Cx}
theorem call_add_sk {A : Around} {E : Value → Shared → Prop} {P : Program} {w : World} {s : Shared} {a : Addr} {S : Key → Bool} {n : Nat} {k : Key} {u : Value} {Q : Value → Shared → Prop} (hk : (mixKind P w).is k u = true) (hs : u.scannable = true) (x : Sk P w s.heap a S n) (room : n + 1 < scanBound)
    (q : ∀ h', Heap.SameBut a s.heap h' → Sk P w h' a (fun j => S j || decide (j = k)) (if S k = true then n else n + 1) → Q .none { s with heap := h', toks := s.toks + 1 }) :
    wpAny (model P w) A (call (.builtin "set.add") [.ref a, u]) Q E s := by
  refine wpAny_call_entry F.slot_set_add x.of.typeIs F.entry_set_add ?_ (F.args_set_add_2 _ _)
  unfold Builtin.«set.add» Builtin.Frozenset.oneOther
  simp only [List.isEmpty_nil, bind_assoc]
  unfold Builtin.Frozenset.addrOf setAdd
  refine wpAny_bind (wpAny_pure ?_)
  try dsimp only
  refine wpAny_bind (wpAny_pure ?_)
  try dsimp only
  refine wpAny_bind (wpAny_holding (wpAny_bind ((mixKind P w).pyHash hk ?_)))
  refine sk_add_hashed (s := { s with toks := s.toks + 1 }) hk hs x room fun h' sb y => ?_
  show wpAny _ _ (ret Value.none) _ _ _
  exact wpAny_pure ⟨_, rfl, q h' sb y⟩
def rAddSk (P : Program) (w : World) : V → List V → Hp → VK → Prop := fun x xs H Q => ∃ (a : Addr) (k : Key) (S : Key → Bool) (n : Nat), x = V.ref a ∧ xs = [kV k] ∧ H a = some (SkO P w a S n) ∧ n + 1 < scanBound ∧ Q .non (upd H a (SkO P w a (fun j => S j || decide (j = k)) (if S k = true then n else n + 1)))
theorem mt_addSk : MtR X "set.add" (rAddSk X.prog X.w) := by
  intro pins s σ H x xs v us Q I rx rxs h
  obtain ⟨a, k, S, n, rfl, rfl, ha, room, q⟩ := h
  cases rx
  obtain ⟨u, hu⟩ : ∃ u, us = [u] := by
    cases rxs with
    | cons r t => cases t; exact ⟨_, rfl⟩
  subst hu
  have ru : RelV (kV k) u := by
    cases rxs with
    | cons r t => exact r
  refine call_add_sk (kV_is ru) (key_scan ru) (sk_get I ha) room fun h' sb y => ?_
  obtain ⟨o, _, _, _, ho, _⟩ := id y
  exact ⟨.non, _, I.write (e := a) (t' := s.toks + 1) (by rw [ha]; trivial) (.inl rfl) (fun b u hb hu => (sb.2 b hb).trans hu) ⟨o, ho⟩ (sk_new y), rfl, q⟩
/-! ### len -/
def rLenSk (P : Program) (w : World) : List V → Hp → VK → Prop := fun xs H Q => ∃ (D : Addr) (S : Key → Bool) (n : Nat), xs = [V.ref D] ∧ H D = some (SkO P w D S n) ∧ n ≤ 4095 ∧ Q (.int (n : Int)) H
theorem cr_lenSk : CallR X (.builtin "len") (rLenSk X.prog X.w) := by
  intro pins s σ H xs us Q I r h
  obtain ⟨D, S, n, rfl, hD, hn, q⟩ := h
  cases r with
  | cons r t =>
    cases t
    cases r
    obtain ⟨o, es, ep, t, ho, hex, hd, _, _, _, hf, hz⟩ := (sk_get I hD).of
    exact call_len_set ho hex hd hf (by rw [hz]; omega) ⟨.int (n : Int), H, I.tok _, ⟨_, by rw [hz]⟩, q⟩
end
end Sw
set_option Elab.async false
set_option maxRecDepth 100000
set_option maxHeartbeats 4000000
namespace Sw
open PySem L2 PySem.Spec PyProof.Rows
/-! ### set comprehensions of texts, of one clause and of two -/
/-- a comprehension's turn: M what a kept item does -/
def turnOf (p : Pos) (it : Value) (tg : Expr) (ifs : List Expr) (env : Env) (M : Sem PySem.Fin) (code : Code) : Sem PySem.Fin := do
  standAt p
  match ← pyNext it with
  | none => pure (.done .next)
  | some v =>
    letOwnedTupleGo tg it v
    assign tg env v
    let mut ok := true
    for c in ifs do
      if ok then ok ← isTrue c env (eval c env)
    if ok then M else again code
theorem turn1 (elt tg iter : Expr) (ifs : List Expr) (scope : Scope) (pos : Pos) (it acc : Value) (env : Env) :
    compTurn (.SetComp elt [⟨tg, iter, ifs, 0⟩] scope pos) 0 it acc env = turnOf iter.pos it tg ifs env (do (do let v ← eval elt env; standAt elt.pos; let _ ← call (.builtin "set.add") [acc, v]); again (.compLoop (.SetComp elt [⟨tg, iter, ifs, 0⟩] scope pos) 0 it acc env)) (.compLoop (.SetComp elt [⟨tg, iter, ifs, 0⟩] scope pos) 0 it acc env) := by rfl
theorem turn2o (elt tg iter tg1 iter1 : Expr) (ifs ifs1 : List Expr) (scope : Scope) (pos : Pos) (it acc : Value) (env : Env) :
    compTurn (.SetComp elt [⟨tg, iter, ifs, 0⟩, ⟨tg1, iter1, ifs1, 0⟩] scope pos) 0 it acc env = turnOf iter.pos it tg ifs env (do
      let x ← eval iter1 env
      standAt iter1.pos
      let x ← foldedSetIterable iter1 env x
      let _ ← runOwn (.compStart (.SetComp elt [⟨tg, iter, ifs, 0⟩, ⟨tg1, iter1, ifs1, 0⟩] scope pos) 1 (← holding [x] (pyIter x)) acc env) env
      again (.compLoop (.SetComp elt [⟨tg, iter, ifs, 0⟩, ⟨tg1, iter1, ifs1, 0⟩] scope pos) 0 it acc env)) (.compLoop (.SetComp elt [⟨tg, iter, ifs, 0⟩, ⟨tg1, iter1, ifs1, 0⟩] scope pos) 0 it acc env) := by rfl
theorem turn2i (elt tg iter tg1 iter1 : Expr) (ifs ifs1 : List Expr) (scope : Scope) (pos : Pos) (it acc : Value) (env : Env) :
    compTurn (.SetComp elt [⟨tg, iter, ifs, 0⟩, ⟨tg1, iter1, ifs1, 0⟩] scope pos) 1 it acc env = turnOf iter1.pos it tg1 ifs1 env (do (do let v ← eval elt env; standAt elt.pos; let _ ← call (.builtin "set.add") [acc, v]); again (.compLoop (.SetComp elt [⟨tg, iter, ifs, 0⟩, ⟨tg1, iter1, ifs1, 0⟩] scope pos) 1 it acc env))
      (.compLoop (.SetComp elt [⟨tg, iter, ifs, 0⟩, ⟨tg1, iter1, ifs1, 0⟩] scope pos) 1 it acc env) := by rfl
/-- a walk with a thing done each turn, told by heaps; the block's slots are σ0 at each turn's begin -/
def CWalk (J : It) (g : TG) (tt : TT) (body : L2.St → Hp → (Hp → Prop) → Prop) (σ0 : L2.St) (vs : List Nat) (QT : Hp → Prop) (W : Nat → Nat → Hp → Prop) : Prop := ∀ i m H, W i m H →
  (J.stop i H ∧ QT H) ∨ (J.go i H ∧ ∃ Nx : Hp → Prop, (∀ H', Nx H' → ∃ m', m' < m ∧ W (i + 1) m' H') ∧ ∀ x H', J.yld i H x H' → g x σ0 H' fun σ2 H2 => wipe σ2 vs = σ0 ∧ tt σ2 H2 fun b H3 => if b = true then body σ2 H3 Nx else Nx H3)
/-- what M does in a block: from σ2, H to the wish, the slots those that were known -/
def Does (Y : Cx) (M : Sem PySem.Fin) (code : Code) (body : L2.St → Hp → (Hp → Prop) → Prop) (vs : List Nat) : Prop := ∀ (pins : List (Addr × Obj)) (s : Shared) (σ2 : L2.St) (H : Hp) (Nx : Hp → Prop), Inv Y pins σ2 H s → body σ2 H Nx →
  wpAny (model Y.prog Y.w) Y.A M (fun fin s' => fin = .again code ∧ ∃ σ3 H', Inv Y pins σ3 H' s' ∧ (∀ (j : Nat) v, (wipe σ2 vs)[j]? = some (some v) → σ3[j]? = some (some v)) ∧ Nx H') (fun _ _ => False) s
theorem loop_turns {Y : Cx} {e : Expr} {d : Nat} {it : Addr} {acc : Value} {p : Pos} {tg : Expr} {ifs : List Expr} {M : Sem PySem.Fin} {fp : List Addr} {tn : Nat → Heap → Prop} {J : It} {g : TG} {tt : TT} {body : L2.St → Hp → (Hp → Prop) → Prop} {σ0 : L2.St} {vs : List Nat} {QT : Hp → Prop} {W : Nat → Nat → Hp → Prop} {pins : List (Addr × Obj)} {R : Result → Shared → Prop}
    (hq : (Code.compLoop e d (.ref it) acc Y.env).quiet = true) (hU : Y.A.under (.compLoop e d (.ref it) acc Y.env) = Y.A) (hden : (model Y.prog Y.w).den (.compLoop e d (.ref it) acc Y.env) = (compTurn e d (.ref it) acc Y.env).onRaise (fun x => do noteFrame x Y.env; theTreesLotGoes x))
    (ht : compTurn e d (.ref it) acc Y.env = turnOf p (.ref it) tg ifs Y.env M (.compLoop e d (.ref it) acc Y.env))
    (hc : Y.calm = true) (hx : Y.xe = fun _ _ => False) (hfp : ∀ b ∈ fp, b ≠ Y.env.locals ∧ b ∉ Y.fs ∧ (b ∈ Y.ex ∨ Y.s_0.heap.objs.size ≤ b) ∧ (∀ x c, Y.env.cells.lookup x = some c → c ≠ b) ∧ ∀ p ∈ Y.pn ++ pins, p.1 ≠ b)
    (T : Turn Y.prog Y.w Y.K tg J fp it tn) (hg : PG Y tg g) (htt : PTs Y ifs tt) (hM : Does Y M (.compLoop e d (.ref it) acc Y.env) body vs) (h0 : wipe σ0 vs = σ0) (walk : CWalk J g tt body σ0 vs QT W)
    (hR : ∀ H s', Inv Y pins σ0 H s' → QT H → R (.ok .next) s') :
    ∀ (m : Nat) (s : Shared), (∃ i H, Inv Y pins σ0 H s ∧ tn i s.heap ∧ (∀ b ∈ fp, H b = none) ∧ W i m H) → codeAny (model Y.prog Y.w) Y.A (.compLoop e d (.ref it) acc Y.env) R s := by
  intro m s hI
  refine codeAny_loop hq (fun m s => ∃ i H, Inv Y pins σ0 H s ∧ tn i s.heap ∧ (∀ b ∈ fp, H b = none) ∧ W i m H) (fun n s hI => ?_) m hI
  obtain ⟨i, H, I, st, fr, w0⟩ := hI
  rw [hU, hden]
  refine wpAny_noted ?_
  rw [ht]
  unfold turnOf
  have stat : ∀ {H' : Hp}, (∀ b ∈ fp, H' b = none) → ∀ b ∈ fp, FpOk Y pins H' b := fun {H'} hn b hb => ⟨hn b hb, hfp b hb⟩
  refine wpAny_bind (wpAny_standAt ?_)
  rcases walk i n H w0 with ⟨stop, qt⟩ | ⟨hgo, Nx, hN, step⟩
  · refine wpAny_bind (thnF (T.done Y rfl rfl rfl hc i pins s σ0 H (fun _ _ => False) I (stat fr) st stop) fun r s1 ⟨hr, I1⟩ => ?_)
    subst hr
    exact wpAny_pure (hR H s1 I1 qt)
  · refine wpAny_bind (thnF (T.item Y rfl rfl rfl hc i pins s σ0 H (fun _ _ => False) I (stat fr) st hgo) fun r s1 ⟨u, hr, h1⟩ => ?_)
    subst hr
    refine wpAny_bind (thnF h1 fun _ s2 ⟨x, H2, I2, r2, y2, st2, fr2⟩ => ?_)
    have I2' := I2.pinned (stat fr2) (T.obj _ _ st2)
    have h3 := hg.run _ s2 σ0 H2 x u _ I2' r2 (step x H2 y2)
    rw [hx] at h3
    refine wpAny_bind (thnF h3 fun _ s3 ⟨σ3, H3, I3, w3, q3⟩ => ?_)
    have h4 := htt.run _ s3 σ3 H3 _ I3 q3
    rw [hx] at h4
    refine wpAny_bind (thnF h4 fun ok s4 ⟨H4, I4, q4⟩ => ?_)
    have hl : σ0.length = σ3.length := by rw [← w3, wipe_length]
    have fin : ∀ {s' : Shared} {H' : Hp} {σ' : L2.St}, Inv Y (pins ++ pinsAt fp s2.heap) σ' H' s' → (∀ (j : Nat) v, σ0[j]? = some (some v) → σ'[j]? = some (some v)) → Nx H' → ∃ m', m' < n ∧ ∃ i H, Inv Y pins σ0 H s' ∧ tn i s'.heap ∧ (∀ b ∈ fp, H b = none) ∧ W i m' H := fun {s' H' σ'} I' hs nx => by
      obtain ⟨m', hm, w'⟩ := hN H' nx
      have pin' : ∀ b ∈ fp, ∀ o, s2.heap.get? b = some o → s'.heap.get? b = some o ∧ H' b = none := fun b hb o e =>
        let z := I'.pin (b, o) (List.mem_append_right _ (List.mem_append_right _ (mem_pinsAt hb e)))
        ⟨z.1, z.2.1⟩
      refine ⟨m', hm, i + 1, H', I'.unpinned.weak (by rw [hl, I3.len, I'.len]) hs, T.keep _ _ _ st2 fun b hb o e => (pin' b hb o e).1, fun b hb => ?_, w'⟩
      obtain ⟨o, e, _⟩ := T.obj _ _ st2 b hb
      exact (pin' b hb o e).2
    cases ok with
    | false =>
      rw [if_neg Bool.false_ne_true] at q4
      refine wpAny_pure ⟨rfl, fin I4 (fun j v e => ?_) q4⟩
      rw [← w3] at e
      exact (wipe_some e).1
    | true =>
      rw [if_pos rfl] at q4
      refine thnF (hM _ s4 σ3 H4 Nx I4 q4) fun f s5 ⟨ef, σ5, H5, I5, k5, n5⟩ => ?_
      subst ef
      refine ⟨rfl, fin I5 (fun j v e => ?_) n5⟩
      rw [← w3] at e
      exact k5 j v e
end Sw
set_option Elab.async false
set_option maxRecDepth 100000
set_option maxHeartbeats 4000000
namespace Sw
open PySem L2 PySem.Spec PyProof.Rows PpSet
/-! ### the frame of a set comprehension -/
def tSetAdd (P : Program) (w : World) (D : Addr) (te : TE) : L2.St → Hp → (Hp → Prop) → Prop := fun σ2 H Nx => te σ2 H fun y H4 => ∃ (k : Key) (S : Key → Bool) (n : Nat), y = kV k ∧ H4 D = some (SkO P w D S n) ∧ n + 1 < scanBound ∧ Nx (upd H4 D (SkO P w D (fun j => S j || decide (j = k)) (if S k = true then n else n + 1)))
theorem does_add {Y : Cx} {elt : Expr} {te : TE} {D : Addr} {code : Code} {vs : List Nat} (he : PE Y elt te) (hx : Y.xe = fun _ _ => False) :
    Does Y (do (do let v ← eval elt Y.env; standAt elt.pos; let _ ← call (.builtin "set.add") [.ref D, v]); again code) code (tSetAdd Y.prog Y.w D te) vs := by
  intro pins s σ2 H Nx I q
  have h1 := he.run _ s σ2 H _ I q
  rw [hx] at h1
  refine wpAny_bind (wpAny_bind (thnF h1 fun v s1 ⟨y, H1, I1, r1, k, S, n, ey, hD, hn, nx⟩ => ?_))
  subst ey
  refine wpAny_bind (wpAny_standAt (wpAny_bind ?_))
  have h2 := mt_addSk (X := Y) pins s1 σ2 H1 (.ref D) [kV k] (.ref D) [v] (fun _ H' => Nx H') I1 rfl (.cons r1 .nil) ⟨D, k, S, n, rfl, rfl, hD, hn, nx⟩
  rw [hx] at h2
  refine thnF h2 fun _ s2 ⟨_, H2, I2, _, n2⟩ => ?_
  exact wpAny_pure (wpAny_pure ⟨rfl, σ2, H2, I2, fun j v e => (wipe_some e).1, n2⟩)
section
variable {X : Cx} {tg elt iter : Expr} {ifs : List Expr} {rest : List Comprehension} {scope : Scope} {own : List (Str × Nat)} {pos : Pos} {wi : TI}
/-- the block in which the walk runs, told to who proves the loop -/
structure SBlk (X : Cx) (σ : L2.St) (vs : List Nat) (scope : Scope) (D it : Addr) (fp : List Addr) (Y : Cx) : Prop where
  isB : ∃ s3 H3 C cl, Y = X.blk s3 H3 scope (compEnvC scope cl C X.env) fp
theorem set_frame {pins : List (Addr × Obj)} {s : Shared} {σ : L2.St} {H : Hp} {Q : VK} (hc : X.calm = true) (hN : X.N.Nodup) (I : Inv X pins σ H s) (hi : PI X tg iter wi) (ok : BlkOk X.N X.env.scope scope own) (hs : ∀ x, foldedSetIterable iter X.env x = pure x)
    {R0 : It → Addr → Hp → Prop} (h : wi σ H fun J H1 => ∀ D, H1 D = none → R0 J D (upd H1 D (SkO X.prog X.w D (fun _ => false) 0)))
    (loop : ∀ (Y : Cx) (D it : Addr) (J : It) (fp : List Addr) (tn : Nat → Heap → Prop) (H3 : Hp) (s4 : Shared) (R : Result → Shared → Prop), SBlk X σ (own.map (·.2)) scope D it fp Y → Inv Y [] (wipe σ (own.map (·.2))) H3 s4 → Turn Y.prog Y.w Y.K tg J fp it tn → tn 0 s4.heap → (∀ b ∈ fp, H3 b = none) → R0 J D H3 →
      (∀ b ∈ fp, b ≠ Y.env.locals ∧ b ∉ Y.fs ∧ (b ∈ Y.ex ∨ Y.s_0.heap.objs.size ≤ b) ∧ (∀ x c, Y.env.cells.lookup x = some c → c ≠ b) ∧ ∀ p ∈ Y.pn ++ [], p.1 ≠ b) →
      (∀ H s', Inv Y [] (wipe σ (own.map (·.2))) H s' → Q (.ref D) H → R (.ok .next) s') → codeAny (model Y.prog Y.w) Y.A (.compLoop (.SetComp elt (⟨tg, iter, ifs, 0⟩ :: rest) scope pos) 0 (.ref it) (.ref D) Y.env) R s4) :
    wpAny (model X.prog X.w) X.A (eval (.SetComp elt (⟨tg, iter, ifs, 0⟩ :: rest) scope pos) X.env) (EP X pins σ Q) X.xe s := by
  have hCap : ∀ y ∈ scope.names, y.2 = .free → ∃ c, X.env.cells.lookup y.1 = some c := fun y hy e => by
    rcases ok.free y hy e with k | k
    · exact I.ok.has _ (.inl k)
    · exact I.ok.has _ (.inr k)
  rw [eval_SetComp]
  show wpAny _ _ (comprehension (.SetComp elt (⟨tg, iter, ifs, 0⟩ :: rest) scope pos) scope X.env _ (newSet (.type "set")) false (eval iter X.env)) _ _ s
  refine wpAny_comprehension_free (g := ⟨tg, iter, ifs, 0⟩) (gs := rest) (use := none) rfl hs (closure_ok hCap) ok.kind (fun y hy e => by rw [ok.uniq y hy, e]) (thn (hi.run pins s σ H _ I h) fun xv s1 hx => thn hx fun itv s2 h2 => ?_)
  obtain ⟨it, fp, tn, J, H2, e, I2, T, st2, f2, q⟩ := h2
  subst e
  refine newSet_ok (newEnv_comp ?_)
  generalize hD : s2.heap.objs.size = D
  have hDn : H2 D = none := I2.hok.fresh (Nat.le_of_eq hD)
  have q0 := q D hDn
  generalize hs3 : ({ s2 with heap := s2.heap.push { cls := .type "set", dict := none, data := .set #[] 0 (.fresh 0 0 (!X.w.params.followText "set-order")) } } : Shared) = s3
  have I3 : Inv X pins σ (upd H2 D (SkO X.prog X.w D (fun _ => false) 0)) s3 := by
    rw [← hs3]
    refine I2.laid (t' := s2.toks) (fun b o e => Heap.get?_push_of_some _ e) (Nat.le_of_eq hD) ?_
    rw [← hD]
    exact sk_new (Sk.fresh X.prog X.w s2.heap)
  have h3 : s3.heap = s2.heap.push { cls := .type "set", dict := none, data := .set #[] 0 (.fresh 0 0 (!X.w.params.followText "set-order")) } := by rw [← hs3]
  have sz : ∀ b ∈ fp, b < s2.heap.objs.size := fun b hb => by
    obtain ⟨o, e, _⟩ := T.obj _ _ st2 b hb
    exact Heap.lt_size e
  generalize hH3 : upd H2 D (SkO X.prog X.w D (fun _ => false) 0) = H3 at I3 q0
  have f3 : ∀ b ∈ fp, FpOk X pins H3 b ∧ b < s3.heap.objs.size := fun b hb => by
    have hlt := sz b hb
    refine ⟨⟨?_, (f2 b hb).2⟩, by rw [h3, Heap.size_push]; exact Nat.lt_succ_of_lt hlt⟩
    rw [← hH3, upd_ne (by rw [← hD]; exact Nat.ne_of_lt hlt)]
    exact (f2 b hb).1
  have st3 : tn 0 s3.heap := T.keep _ _ _ st2 fun b _ o e => by rw [h3]; exact Heap.get?_push_of_some _ e
  have I4 := block_start I3 ok hN f3
  have kp4 : ∀ b o, s3.heap.get? b = some o → (pushCells (s3.heap.push { cls := .type "dict", data := .dict #[] }) scope.names).get? b = some o := fun b o e => pushCells_keeps _ _ _ _ (Heap.get?_push_of_some _ e)
  have st4 : tn 0 (pushCells (s3.heap.push { cls := .type "dict", data := .dict #[] }) scope.names) := T.keep _ _ _ st3 fun b _ o e => kp4 b o e
  show codeAny _ _ (.compStart (.SetComp elt (⟨tg, iter, ifs, 0⟩ :: rest) scope pos) 0 (.ref it) (.ref D) (compEnvC scope (cellsFrom (s3.heap.objs.size + 1) scope.names (cloFrom X.env.cells scope.names [])) s3.heap.objs.size X.env)) (compPost (model X.prog X.w) X.A X.xe none (EP X pins σ Q) (.ref D) s3.heap.objs.size) { s3 with heap := pushCells (s3.heap.push { cls := .type "dict", data := .dict #[] }) scope.names }
  have lp := loop _ D it J fp tn H3 _ (compPost (model X.prog X.w) X.A X.xe none (EP X pins σ Q) (.ref D) s3.heap.objs.size) ⟨s3, H3, _, _, rfl⟩ I4 T st4 (fun b hb => (f3 b hb).1.1) q0
    (fun b hb => ⟨(I4.ok.exf b hb).1, I4.ok.exfs b hb, .inl hb, fun x c e => (I4.ok.exf b hb).2 x c e, fun p hp => absurd (show p ∈ ([] : List (Addr × Obj)) ++ [] from hp) (by simp)⟩)
    (fun H' s' I6 qq => by
      have I7 : Inv X pins σ H' s' := I3.call' (ch := fp) I6.os I6.base I6.hok I6.bare fun b hb => ⟨(f3 b hb).1.2.2.2.1, (f3 b hb).1.2.1, (f3 b hb).1.2.2.2.2.1, (f3 b hb).1.2.2.2.2.2⟩
      obtain ⟨m, hn, _⟩ := I6.loc
      refine ⟨m, hn, fun h'' sb => ?_⟩
      obtain ⟨f0, f1, f2, f4, f5, f6⟩ := I3.fpOk (b := s3.heap.objs.size) (Nat.le_refl _) (show H' s3.heap.objs.size = none from I6.free)
      exact ⟨.ref D, H', I7.turned (t' := s'.toks) (fun b o hb e => (sb.2 b hb).trans e) f0 f1 f4 f5 f6, rfl, qq⟩)
  exact codeAny_compStart_set lp (T.self X.A 0 _ _ _ st4 lp)
/-- {elt for tg in iter if ..}, elt a text or a whole number -/
def tSet1 (P : Program) (w : World) (wi : TI) (g : TG) (tt : TT) (te : TE) (vs : List Nat) : TE := fun σ H Q => wi σ H fun J H1 => ∀ D, H1 D = none → ∃ W : Nat → Nat → Hp → Prop, (∃ m, W 0 m (upd H1 D (SkO P w D (fun _ => false) 0))) ∧
  CWalk J g tt (tSetAdd P w D te) (wipe σ vs) vs (fun H => Q (.ref D) H) W
theorem wipeSame (σ : L2.St) (vs : List Nat) : wipe (wipe σ vs) vs = wipe σ vs := wipe2 σ vs
theorem pe_set1 {g : TG} {tt : TT} {te : TE} (hc : X.calm = true) (hN : X.N.Nodup) (hi : PI X tg iter wi) (ok : BlkOk X.N X.env.scope scope own)
    (hg : ∀ (s : Shared) (H : Hp) (C : Addr) (cl : List (Str × Addr)) (fp : List Addr), PG (X.blk s H scope (compEnvC scope cl C X.env) fp) tg g) (ht : ∀ (s : Shared) (H : Hp) (C : Addr) (cl : List (Str × Addr)) (fp : List Addr), PTs (X.blk s H scope (compEnvC scope cl C X.env) fp) ifs tt)
    (he : ∀ (s : Shared) (H : Hp) (C : Addr) (cl : List (Str × Addr)) (fp : List Addr), PE (X.blk s H scope (compEnvC scope cl C X.env) fp) elt te) (hs : ∀ x, foldedSetIterable iter X.env x = pure x := by intro _; rfl) :
    PE X (.SetComp elt [⟨tg, iter, ifs, 0⟩] scope pos) (tSet1 X.prog X.w wi g tt te (own.map (·.2))) := by
  refine ⟨fun pins s σ H Q I h => ?_⟩
  refine set_frame hc hN I hi ok hs (R0 := fun J D H3 => ∃ W : Nat → Nat → Hp → Prop, (∃ m, W 0 m H3) ∧ CWalk J g tt (tSetAdd X.prog X.w D te) (wipe σ (own.map Prod.snd)) (own.map Prod.snd) (fun H => Q (.ref D) H) W) h fun Y D it J fp tn H3 s4 R B I4 T st4 fr q0 hfp hR => ?_
  obtain ⟨s3, H3', C, cl, rfl⟩ := B.isB
  obtain ⟨W, ⟨m0, w0⟩, walk⟩ := q0
  exact loop_turns (Y := X.blk s3 H3' scope (compEnvC scope cl C X.env) fp) rfl rfl rfl (turn1 ..) hc rfl hfp T (hg _ _ _ _ _) (ht _ _ _ _ _) (does_add (he _ _ _ _ _) rfl) (wipe2 σ _) walk hR m0 s4 ⟨0, H3, I4, st4, fr, w0⟩
/-! two clauses -/
variable {tg1 iter1 : Expr} {ifs1 : List Expr}
theorem start1 {prog : Program} {w : World} {A : Around} {R : Result → Shared → Prop} {s : Shared} {it acc : Value} {env : Env} (h0 : codeAny (model prog w) A (.compLoop (.SetComp elt [⟨tg, iter, ifs, 0⟩, ⟨tg1, iter1, ifs1, 0⟩] scope pos) 1 it acc env) R s)
    (h : wpAny (model prog w) A (pyIter it) (fun it' s' => codeAny (model prog w) A (.compLoop (.SetComp elt [⟨tg, iter, ifs, 0⟩, ⟨tg1, iter1, ifs1, 0⟩] scope pos) 1 it' acc env) R s') (notedBy (model prog w) A env fun x s' => R (.error x) s') s) :
    codeAny (model prog w) A (.compStart (.SetComp elt [⟨tg, iter, ifs, 0⟩, ⟨tg1, iter1, ifs1, 0⟩] scope pos) 1 it acc env) R s := by
  refine codeAny_of_tree ?_
  show wpAny _ _ ((compStart (.SetComp elt [⟨tg, iter, ifs, 0⟩, ⟨tg1, iter1, ifs1, 0⟩] scope pos) 1 it acc env).onRaise _) _ _ s
  refine wpAny_notedAt ?_
  unfold compStart
  show wpAny _ _ (ask >>= _) _ _ s
  refine wpAny_bind (wpAny_askSetting (wpAny_ite ?_))
  split
  · first
      | exact wpAny_bind (wpAny_pure (wpAny_pure ⟨rfl, h0⟩))
      | exact wpAny_pure ⟨rfl, h0⟩
  · first
      | exact wpAny_bind (wpAny_rule (wpAny_bind (wpAny_standAt (wpAny_bind (wpAny_mono h (fun it' s' h' => wpAny_pure ⟨rfl, h'⟩) fun _ _ x => x)))))
      | (refine wpAny_bind (wpAny_rule ?_); show wpAny _ _ (standAt iter1.pos >>= _) _ _ s; exact wpAny_bind (wpAny_standAt (wpAny_bind (wpAny_mono h (fun it' s' h' => wpAny_pure ⟨rfl, h'⟩) fun _ _ x => x))))
def tInner (wi1 : TI) (g1 : TG) (tt1 : TT) (add : L2.St → Hp → (Hp → Prop) → Prop) (vs1 : List Nat) : L2.St → Hp → (Hp → Prop) → Prop := fun σ2 H Nx => wi1 σ2 H fun J1 H1 => ∃ W1 : Nat → Nat → Hp → Prop, (∃ m, W1 0 m H1) ∧ CWalk J1 g1 tt1 add (wipe σ2 vs1) vs1 Nx W1
theorem does_inner {Y : Cx} {wi1 : TI} {g1 : TG} {tt1 : TT} {te : TE} {D it : Addr} {vs vs1 : List Nat} (hc : Y.calm = true) (hx : Y.xe = fun _ _ => False) (hv : ∀ i ∈ vs1, i ∈ vs) (hi1 : PI Y tg1 iter1 wi1) (hg1 : PG Y tg1 g1) (ht1 : PTs Y ifs1 tt1) (he : PE Y elt te) (hs1 : ∀ x, foldedSetIterable iter1 Y.env x = pure x) :
    Does Y (do
      let x ← eval iter1 Y.env
      standAt iter1.pos
      let x ← foldedSetIterable iter1 Y.env x
      let _ ← runOwn (.compStart (.SetComp elt [⟨tg, iter, ifs, 0⟩, ⟨tg1, iter1, ifs1, 0⟩] scope pos) 1 (← holding [x] (pyIter x)) (.ref D) Y.env) Y.env
      again (.compLoop (.SetComp elt [⟨tg, iter, ifs, 0⟩, ⟨tg1, iter1, ifs1, 0⟩] scope pos) 0 (.ref it) (.ref D) Y.env))
      (.compLoop (.SetComp elt [⟨tg, iter, ifs, 0⟩, ⟨tg1, iter1, ifs1, 0⟩] scope pos) 0 (.ref it) (.ref D) Y.env) (tInner wi1 g1 tt1 (tSetAdd Y.prog Y.w D te) vs1) vs := by
  intro pins s σ2 H Nx I q
  have h1 := hi1.run pins s σ2 H _ I q
  rw [hx] at h1
  refine wpAny_bind (thnF h1 fun xv s1 hxv => wpAny_bind (wpAny_standAt (wpAny_bind (wpAny_of_eq (hs1 xv) (wpAny_bind (wpAny_holding (thnF hxv fun itv s2 h2 => ?_)))))))
  obtain ⟨it1, fp1, tn1, J1, H1, e1, I1, T1, st1, f1, W1, ⟨m1, w1⟩, walk1⟩ := h2
  subst e1
  refine wpAny_bind (wpAny_runOwn ?_)
  rw [Around.mark_none]
  have lp : codeAny (model Y.prog Y.w) Y.A (.compLoop (.SetComp elt [⟨tg, iter, ifs, 0⟩, ⟨tg1, iter1, ifs1, 0⟩] scope pos) 1 (.ref it1) (.ref D) Y.env)
      (fun r s' => match r with
        | .ok _ => ∃ H', Inv Y pins (wipe σ2 vs1) H' s' ∧ Nx H'
        | .error _ => False) s2 :=
    loop_turns (Y := Y) (pins := pins) rfl rfl rfl (turn2i ..) hc hx (fun b hb => (f1 b hb).2) T1 hg1 ht1 (does_add he hx) (wipe2 σ2 vs1) walk1 (fun H' s' I' nx => ⟨H', I', nx⟩) m1 s2
      ⟨0, H1, I1.weak (wipe_length _ _) (fun i v e => (wipe_some e).1), st1, fun b hb => (f1 b hb).1, w1⟩
  refine codeAny_mono (start1 lp (T1.self Y.A 0 _ _ _ st1 lp)) fun r s' hr => ?_
  cases r with
  | error e => exact hr.elim
  | ok f =>
    obtain ⟨H', I', nx⟩ := hr
    refine wpAny_pure ⟨rfl, wipe σ2 vs1, H', I', fun j v e => ?_, nx⟩
    obtain ⟨e1, e2⟩ := wipe_some e
    rw [wipe_out fun z => e2 (hv j z)]
    exact e1
/-- {elt for tg in iter if .. for tg1 in iter1 if ..} -/
def tSet2 (P : Program) (w : World) (wi : TI) (g : TG) (tt : TT) (wi1 : TI) (g1 : TG) (tt1 : TT) (te : TE) (vs vs1 : List Nat) : TE := fun σ H Q => wi σ H fun J H1 => ∀ D, H1 D = none → ∃ W : Nat → Nat → Hp → Prop, (∃ m, W 0 m (upd H1 D (SkO P w D (fun _ => false) 0))) ∧
  CWalk J g tt (tInner wi1 g1 tt1 (tSetAdd P w D te) vs1) (wipe σ vs) vs (fun H => Q (.ref D) H) W
theorem pe_set2 {wi1 : TI} {g g1 : TG} {tt tt1 : TT} {te : TE} {vs1 : List Nat} (hc : X.calm = true) (hN : X.N.Nodup) (hi : PI X tg iter wi) (ok : BlkOk X.N X.env.scope scope own) (hv : ∀ i ∈ vs1, i ∈ own.map (·.2))
    (hg : ∀ (s : Shared) (H : Hp) (C : Addr) (cl : List (Str × Addr)) (fp : List Addr), PG (X.blk s H scope (compEnvC scope cl C X.env) fp) tg g) (ht : ∀ (s : Shared) (H : Hp) (C : Addr) (cl : List (Str × Addr)) (fp : List Addr), PTs (X.blk s H scope (compEnvC scope cl C X.env) fp) ifs tt)
    (hi1 : ∀ (s : Shared) (H : Hp) (C : Addr) (cl : List (Str × Addr)) (fp : List Addr), PI (X.blk s H scope (compEnvC scope cl C X.env) fp) tg1 iter1 wi1)
    (hg1 : ∀ (s : Shared) (H : Hp) (C : Addr) (cl : List (Str × Addr)) (fp : List Addr), PG (X.blk s H scope (compEnvC scope cl C X.env) fp) tg1 g1) (ht1 : ∀ (s : Shared) (H : Hp) (C : Addr) (cl : List (Str × Addr)) (fp : List Addr), PTs (X.blk s H scope (compEnvC scope cl C X.env) fp) ifs1 tt1)
    (he : ∀ (s : Shared) (H : Hp) (C : Addr) (cl : List (Str × Addr)) (fp : List Addr), PE (X.blk s H scope (compEnvC scope cl C X.env) fp) elt te) (hs : ∀ x, foldedSetIterable iter X.env x = pure x := by intro _; rfl) (hs1 : ∀ env x, foldedSetIterable iter1 env x = pure x := by intro _ _; rfl) :
    PE X (.SetComp elt [⟨tg, iter, ifs, 0⟩, ⟨tg1, iter1, ifs1, 0⟩] scope pos) (tSet2 X.prog X.w wi g tt wi1 g1 tt1 te (own.map (·.2)) vs1) := by
  refine ⟨fun pins s σ H Q I h => ?_⟩
  refine set_frame hc hN I hi ok hs (R0 := fun J D H3 => ∃ W : Nat → Nat → Hp → Prop, (∃ m, W 0 m H3) ∧ CWalk J g tt (tInner wi1 g1 tt1 (tSetAdd X.prog X.w D te) vs1) (wipe σ (own.map Prod.snd)) (own.map Prod.snd) (fun H => Q (.ref D) H) W) h fun Y D it J fp tn H3 s4 R B I4 T st4 fr q0 hfp hR => ?_
  obtain ⟨s3, H3', C, cl, rfl⟩ := B.isB
  obtain ⟨W, ⟨m0, w0⟩, walk⟩ := q0
  exact loop_turns (Y := X.blk s3 H3' scope (compEnvC scope cl C X.env) fp) rfl rfl rfl (turn2o ..) hc rfl hfp T (hg _ _ _ _ _) (ht _ _ _ _ _) (does_inner hc rfl hv (hi1 _ _ _ _ _) (hg1 _ _ _ _ _) (ht1 _ _ _ _ _) (he _ _ _ _ _) (hs1 _)) (wipe2 σ _) walk hR m0 s4 ⟨0, H3, I4, st4, fr, w0⟩
/-- walks over tuples, lists -/
theorem cw_tup {K : PySem.W.Frag} {a : Addr} {xs : List V} {g : TG} {tt : TT} {body : L2.St → Hp → (Hp → Prop) → Prop} {σ0 : L2.St} {vs : List Nat} {QT : Hp → Prop} {H : Hp} (Pv : Nat → Hp → Prop) (h0 : Pv 0 H) (hl : ∀ i H, i ≤ xs.length → Pv i H → SqT K H a xs)
    (hs : ∀ i x H, xs[i]? = some x → Pv i H → g x σ0 H fun σ2 H2 => wipe σ2 vs = σ0 ∧ tt σ2 H2 fun b H3 => if b = true then body σ2 H3 (Pv (i + 1)) else Pv (i + 1) H3) (hd : ∀ H, Pv xs.length H → QT H) :
    ∃ W : Nat → Nat → Hp → Prop, (∃ m, W 0 m H) ∧ CWalk (Itt K a) g tt body σ0 vs QT W := by
  refine ⟨fun i m H => i ≤ xs.length ∧ m = xs.length - i ∧ Pv i H, ⟨xs.length, Nat.zero_le _, by simp, h0⟩, ?_⟩
  rintro i m H ⟨hi, rfl, hp⟩
  have hL := hl i H hi hp
  by_cases e : i = xs.length
  · exact .inl ⟨⟨xs, hL, by omega⟩, hd H (by rw [← e]; exact hp)⟩
  · have hlt : i < xs.length := by omega
    refine .inr ⟨⟨xs, xs[i], hL, List.getElem?_eq_getElem hlt⟩, Pv (i + 1), fun H' hq => ⟨_, by omega, hlt, rfl, hq⟩, fun x H' hy => ?_⟩
    obtain ⟨rfl, hx⟩ := hy
    exact hs i x _ (hx xs hL) hp
theorem cw_list {K : PySem.W.Frag} {a : Addr} {xs : List V} {g : TG} {tt : TT} {body : L2.St → Hp → (Hp → Prop) → Prop} {σ0 : L2.St} {vs : List Nat} {QT : Hp → Prop} {H : Hp} (Pv : Nat → Hp → Prop) (h0 : Pv 0 H) (hl : ∀ i H, i ≤ xs.length → Pv i H → SqL K H a xs)
    (hs : ∀ i x H, xs[i]? = some x → Pv i H → g x σ0 H fun σ2 H2 => wipe σ2 vs = σ0 ∧ tt σ2 H2 fun b H3 => if b = true then body σ2 H3 (Pv (i + 1)) else Pv (i + 1) H3) (hd : ∀ H, Pv xs.length H → QT H) :
    ∃ W : Nat → Nat → Hp → Prop, (∃ m, W 0 m H) ∧ CWalk (Itl K a) g tt body σ0 vs QT W := by
  refine ⟨fun i m H => i ≤ xs.length ∧ m = xs.length - i ∧ Pv i H, ⟨xs.length, Nat.zero_le _, by simp, h0⟩, ?_⟩
  rintro i m H ⟨hi, rfl, hp⟩
  have hL := hl i H hi hp
  by_cases e : i = xs.length
  · exact .inl ⟨⟨xs, hL, by omega⟩, hd H (by rw [← e]; exact hp)⟩
  · have hlt : i < xs.length := by omega
    refine .inr ⟨⟨xs, xs[i], hL, List.getElem?_eq_getElem hlt⟩, Pv (i + 1), fun H' hq => ⟨_, by omega, hlt, rfl, hq⟩, fun x H' hy => ?_⟩
    obtain ⟨rfl, hx⟩ := hy
    exact hs i x _ (hx xs hL) hp
end
end Sw
set_option Elab.async false
set_option maxRecDepth 100000
set_option maxHeartbeats 4000000
namespace Sw
open PySem L2 PySem.Spec PyProof.Rows
section
variable {α : Type} [DecidableEq α]
def addNew (O : List α) (k : α) : List α := if k ∈ O then O else O ++ [k]
def nubL (ks : List α) : List α := ks.foldl addNew []
theorem nubL_snoc (ks : List α) (k : α) : nubL (ks ++ [k]) = addNew (nubL ks) k := by unfold nubL; rw [List.foldl_append]; rfl
theorem addNew_nd {O : List α} {k : α} (h : O.Nodup) : (addNew O k).Nodup := by
  unfold addNew
  by_cases e : k ∈ O
  · rw [if_pos e]; exact h
  · rw [if_neg e, (List.perm_append_singleton k O).nodup_iff, List.nodup_cons]; exact ⟨e, h⟩
theorem addNew_mem {O : List α} {k x : α} : x ∈ addNew O k ↔ x ∈ O ∨ x = k := by
  unfold addNew
  by_cases e : k ∈ O
  · rw [if_pos e]
    exact ⟨.inl, fun h => h.elim id fun q => q ▸ e⟩
  · rw [if_neg e, List.mem_append, List.mem_singleton]
theorem fold_nd : ∀ {ks O : List α}, O.Nodup → (ks.foldl addNew O).Nodup
  | [], _, h => h
  | k :: ks, _, h => by rw [List.foldl_cons]; exact fold_nd (addNew_nd h)
theorem nubL_nd (ks : List α) : (nubL ks).Nodup := fold_nd List.nodup_nil
theorem fold_mem {x : α} : ∀ {ks O : List α}, x ∈ ks.foldl addNew O ↔ x ∈ O ∨ x ∈ ks
  | [], _ => by simp
  | k :: ks, O => by
    rw [List.foldl_cons, fold_mem, addNew_mem, List.mem_cons]
    exact ⟨fun h => h.elim (fun h => h.elim .inl fun h => .inr (.inl h)) fun h => .inr (.inr h), fun h => h.elim (fun h => .inl (.inl h)) fun h => h.elim (fun h => .inl (.inr h)) .inr⟩
theorem nubL_mem {ks : List α} {x : α} : x ∈ nubL ks ↔ x ∈ ks := by unfold nubL; rw [fold_mem]; simp
theorem fold_pre : ∀ {ks O : List α}, ∃ B, ks.foldl addNew O = O ++ B
  | [], O => ⟨[], by simp⟩
  | k :: ks, O => by
    rw [List.foldl_cons]
    obtain ⟨B, hB⟩ := fold_pre (ks := ks) (O := addNew O k)
    rw [hB]
    unfold addNew
    by_cases e : k ∈ O
    · rw [if_pos e]; exact ⟨B, rfl⟩
    · rw [if_neg e]; exact ⟨k :: B, by simp⟩
theorem nd_le : ∀ {l L : List α}, l.Nodup → (∀ x, x ∈ l → x ∈ L) → l.length ≤ L.length
  | [], _, _, _ => Nat.zero_le _
  | x :: l, L, nd, h => by
    rw [List.nodup_cons] at nd
    have hx := h x List.mem_cons_self
    have := nd_le (l := l) (L := L.erase x) nd.2 fun y hy => (List.mem_erase_of_ne (fun e => nd.1 (by rw [← e]; exact hy))).mpr (h y (List.mem_cons_of_mem _ hy))
    rw [List.length_erase_of_mem hx] at this
    have := List.length_pos_of_mem hx
    rw [List.length_cons]
    omega
theorem nub_len_le (ks : List α) : (nubL ks).length ≤ ks.length := nd_le (nubL_nd ks) fun x hx => nubL_mem.mp hx
theorem cover_nd : ∀ {l L : List α}, l.Nodup → (∀ x, x ∈ l → x ∈ L) → L.length ≤ l.length → L.Nodup
  | l, [], _, _, _ => List.nodup_nil
  | l, y :: L, nd, h, hl => by
    rw [List.nodup_cons]
    by_cases hy : y ∈ L
    · exfalso
      have := nd_le (l := l) (L := L) nd fun x hx => by
        rcases List.mem_cons.mp (h x hx) with e | e
        · rw [e]; exact hy
        · exact e
      rw [List.length_cons] at hl
      omega
    · refine ⟨hy, cover_nd (l := l.erase y) (nd.sublist List.erase_sublist) (fun x hx => ?_) ?_⟩
      · have hx' := (nd.mem_erase_iff).mp hx
        rcases List.mem_cons.mp (h x hx'.2) with e | e
        · exact absurd e hx'.1
        · exact e
      · by_cases hy2 : y ∈ l
        · rw [List.length_erase_of_mem hy2]
          rw [List.length_cons] at hl
          omega
        · have := nd_le (l := l) (L := L) nd fun x hx => by
            rcases List.mem_cons.mp (h x hx) with e | e
            · exact absurd (e ▸ hx) hy2
            · exact e
          rw [List.length_cons] at hl
          rw [List.erase_of_not_mem hy2]
          omega
end
theorem nub_add (L : List Str) (t : Str) : (nubL (L ++ [t])).length = if t ∈ L then (nubL L).length else (nubL L).length + 1 := by
  rw [nubL_snoc]
  unfold addNew
  by_cases e : t ∈ L
  · rw [if_pos e, if_pos (nubL_mem.mpr e)]
  · rw [if_neg e, if_neg (fun q => e (nubL_mem.mp q)), List.length_append]
    rfl
/-- the texts of a set -/
def TxK (P : Program) (w : World) (H : Hp) (D : Addr) (L : List Str) : Prop := ∃ S, H D = some (SkO P w D S (nubL L).length) ∧ ∀ k, S k = true ↔ ∃ t, t ∈ L ∧ k = Sum.inr t
theorem TxK.same {P : Program} {w : World} {H H' : Hp} {D : Addr} {L : List Str} (h : TxK P w H D L) (s : Same H H') : TxK P w H' D L := by
  obtain ⟨S, h1, h2⟩ := h
  exact ⟨S, s _ _ h1, h2⟩
theorem TxK.nil {P : Program} {w : World} {H : Hp} {D : Addr} : TxK P w (upd H D (SkO P w D (fun _ => false) 0)) D [] := ⟨_, upd_same, fun k => ⟨fun h => (by cases h), fun ⟨t, ht, _⟩ => (by cases ht)⟩⟩
theorem TxK.add {P : Program} {w : World} {H : Hp} {D : Addr} {L : List Str} (t : Str) (S : Key → Bool) (h : ∀ k, S k = true ↔ ∃ t, t ∈ L ∧ k = Sum.inr t) :
    TxK P w (upd H D (SkO P w D (fun j => S j || decide (j = Sum.inr t)) (if S (Sum.inr t) = true then (nubL L).length else (nubL L).length + 1))) D (L ++ [t]) := by
  have e : (if S (Sum.inr t) = true then (nubL L).length else (nubL L).length + 1) = (nubL (L ++ [t])).length := by
    rw [nub_add]
    by_cases q : t ∈ L
    · rw [if_pos q, if_pos ((h _).mpr ⟨t, q, rfl⟩)]
    · rw [if_neg q, if_neg (fun z => by
        obtain ⟨u, hu, e⟩ := (h _).mp z
        cases e
        exact q hu)]
  rw [e]
  refine ⟨_, upd_same, fun k => ?_⟩
  rw [Bool.or_eq_true, h k]
  constructor
  · rintro (⟨u, hu, e⟩ | e)
    · exact ⟨u, List.mem_append_left _ hu, e⟩
    · exact ⟨t, by simp, of_decide_eq_true e⟩
  · rintro ⟨u, hu, e⟩
    rcases List.mem_append.mp hu with hu | hu
    · exact .inl ⟨u, hu, e⟩
    · rw [List.mem_singleton.mp hu] at e
      exact .inr (decide_eq_true e)
/-! ### sorted of a set of texts -/
theorem strs_of {P : Program} {w : World} {S : Key → Bool} {L : List Str} (hS : ∀ k, S k = true ↔ ∃ t, t ∈ L ∧ k = Sum.inr t) : ∀ vs : List Value, (∀ v ∈ vs, ∃ k, (mixKind P w).is k v = true ∧ S k = true) → ∃ ts : List Str, StrsAre vs ts ∧ ∀ t, t ∈ ts → t ∈ L
  | [], _ => ⟨[], .nil, fun t h => by cases h⟩
  | v :: vs, h => by
    obtain ⟨k, h1, h2⟩ := h v (by simp)
    obtain ⟨t, ht, rfl⟩ := (hS k).mp h2
    obtain ⟨ts, h3, h4⟩ := strs_of hS vs fun u hu => h u (List.mem_cons_of_mem _ hu)
    rw [mixKind_is] at h1
    rcases keyIs_shape h1 with ⟨i, u, e, _⟩ | ⟨x, u, e, rfl⟩
    · cases e
    · have ex : t = x := Sum.inr.inj e
      subst ex
      exact ⟨t :: ts, .cons t u h3, fun y hy => by
        rcases List.mem_cons.mp hy with rfl | hy
        · exact ht
        · exact h4 y hy⟩
theorem strs_has {vs : List Value} {ts : List Str} (h : StrsAre vs ts) {t : Str} {u : Tok} (hm : Value.str t u ∈ vs) : t ∈ ts := by
  induction h with
  | nil => cases hm
  | cons y z _ ih =>
    rcases List.mem_cons.mp hm with e | hm
    · cases e; simp
    · exact List.mem_cons_of_mem _ (ih hm)
theorem sorted_sk {P : Program} {w : World} {A : Around} {E : Value → Shared → Prop} {s : Shared} {a : Addr} {S : Key → Bool} {L : List Str} {Q : Value → Shared → Prop} (x : Sk P w s.heap a S (nubL L).length) (hS : ∀ k, S k = true ↔ ∃ t, t ∈ L ∧ k = Sum.inr t) (hh : A.handled = none) (h64 : (nubL L).length < 64)
    (q : ∀ s' p (out : Array Value) (c : Nat) (ys : List Str), (∀ b o, s.heap.get? b = some o → s'.heap.get? b = some o) → s'.gens = s.gens → s'.os = s.os → s.heap.objs.size ≤ p → s'.heap.get? p = some (seqObj "list" out c) → StrsAre out.toList ys → ys.Perm (nubL L) → sortedS ys = true → Q (.ref p) s') :
    wpAny (model P w) A (call (.builtin "sorted") [.ref a]) Q E s := by
  obtain ⟨o, es, ep, t, ho, hex, hd, hel, hm, hb, hf, hn, hr, hl⟩ := x
  refine Calls.call_function_entry kind_sorted plain_sorted entry_sorted (args_sorted1 _) ?_
  unfold Builtin.«sorted»
  refine wpAny_bind (m := checkCount "sorted" 1 1 _) (wpAny_pure ?_)
  refine wpAny_bind (collect_set (A := A.in1) hh ⟨o, ho, hex.1, hd⟩ hf hb hr hl fun s1 vs k1 hz g1 o1 pm => ?_)
  have hvl : vs.length = (nubL L).length := by rw [pm.length_eq, List.length_map, Array.length_toList]; exact hn
  obtain ⟨ts, hts, htL⟩ := strs_of (P := P) (w := w) hS vs fun v hv => by
    obtain ⟨e, he, ev⟩ := List.mem_map.mp (pm.mem_iff.mp hv)
    obtain ⟨⟨k, h1, _⟩, _⟩ := hel e he
    rw [← ev]
    exact ⟨k, h1, (hm k).mpr ⟨e, he, h1⟩⟩
  have htl : ts.length = vs.length := (StrsAre.len_eq hts).symm
  have hLt : ∀ t, t ∈ nubL L → t ∈ ts := fun t ht => by
    obtain ⟨e, he, h1⟩ := (hm (Sum.inr t)).mp ((hS _).mpr ⟨t, nubL_mem.mp ht, rfl⟩)
    have hv : e.2 ∈ vs := pm.mem_iff.mpr (List.mem_map_of_mem he)
    rw [mixKind_is] at h1
    rcases keyIs_shape h1 with ⟨i, u, e', _⟩ | ⟨y, u, e', ev⟩
    · cases e'
    · rw [Sum.inr.inj e']
      rw [ev] at hv
      exact strs_has hts hv
  have hnd : ts.Nodup := cover_nd (nubL_nd L) hLt (by omega)
  have hperm : ts.Perm (nubL L) := (List.perm_ext_iff_of_nodup hnd (nubL_nd L)).mpr fun t => ⟨fun h => nubL_mem.mpr (htL t h), hLt t⟩
  refine wpAny_bind (wpAny_newList ?_ (by rw [hvl, sizeLine_eq]; omega))
  have hoL : (s1.heap.push (seqObj "list" vs.toArray 0)).get? s1.heap.objs.size = some (seqObj "list" vs.toArray 0) := Heap.get?_push_size _ rfl
  refine wpAny_bind (wpAny_holding (wpAny_call_entry slot_list_sort ⟨_, hoL, rfl⟩ entry_list_sort (list_sort_treeK strKind_oneLt hoL hts.keysOf (fun v₁ v₂ rest e => keyKind_strs (by rw [← e]; exact hts)) (by rw [hvl]; exact h64) fun st' hp hs => ?_) (args_list_sort _)))
  obtain ⟨ys, y1, y2, y3⟩ := sorted_out_str hts hp hs
  obtain ⟨c, hc⟩ := sortedHeap_at (vs := vs) (out := (arrOf st').map (·.2)) hoL
  refine ⟨_, rfl, wpAny_pure ⟨_, rfl, q _ s1.heap.objs.size _ c ys (fun b u e => ?_) g1 o1 hz hc y1 (y2.trans hperm) y3⟩⟩
  have r := k1 b u e
  have hlt := Heap.lt_size r
  show (sortedHeap (s1.heap.push (seqObj "list" vs.toArray 0)) s1.heap.objs.size vs _).get? b = some u
  rw [sortedHeap_old (Nat.ne_of_lt hlt) (by rw [size_push']; exact Nat.lt_succ_of_lt hlt)]
  exact Heap.get?_push_of_some _ r
def rSortSk (P : Program) (w : World) : List V → Hp → VK → Prop := fun xs H Q => ∃ (a : Addr) (L : List Str), xs = [V.ref a] ∧ TxK P w H a L ∧ (nubL L).length < 64 ∧ ∀ (ys : List Str) (p : Addr), ys.Perm (nubL L) → sortedS ys = true → H p = none → Q (.ref p) (upd H p (.lst (ys.map V.str)))
theorem cr_sortSk {X : Cx} (hc : X.calm = true) : CallR X (.builtin "sorted") (rSortSk X.prog X.w) := by
  intro pins s σ H vs us Q I r h
  obtain ⟨a, L, rfl, ⟨S, ha, hS⟩, h64, q⟩ := h
  rw [Vals.ref1 r]
  refine sorted_sk (sk_get I ha) hS (I.ok.hd hc) h64 fun s' p out c ys k g o hp hg hi hpm hs => ?_
  have hlen : (ys.map V.str).length ≤ sizeLine := by rw [List.length_map, hpm.length_eq, sizeLine_eq]; omega
  have hn : H p = none := I.hok.fresh hp
  have J : Inv X pins σ (upd H p (.lst (ys.map V.str))) { s with heap := s'.heap, gens := s'.gens, drawn := s'.drawn, toks := s'.toks } :=
    I.call (ch := []) (Un.laid k hp hn) (I.hok.laid k hp ⟨hlen, out.toList, c, vals_of_strs hi, hg⟩) (by rw [g]; exact I.bare) (fun _ z => nomatch z)
  have e : s' = { s with heap := s'.heap, gens := s'.gens, drawn := s'.drawn, toks := s'.toks } := by
    cases s'
    cases s
    cases o
    rfl
  rw [e]
  exact ⟨.ref p, _, J, rfl, q ys p hpm hs hn⟩
end Sw
set_option Elab.async false
set_option maxRecDepth 100000
set_option maxHeartbeats 4000000
namespace Sw
open PySem L2 PySem.Spec PyProof.Rows
/-! ### set(l) of a list of texts -/
def TxSk (P : Program) (w : World) (h : Heap) (a : Addr) (L : List Str) : Prop := ∃ S, Sk P w h a S (nubL L).length ∧ ∀ k, S k = true ↔ ∃ t, t ∈ L ∧ k = Sum.inr t
theorem TxSk.keep {P : Program} {w : World} {h h' : Heap} {a : Addr} {L : List Str} (x : TxSk P w h a L) (k : ∀ o, h.get? a = some o → h'.get? a = some o) : TxSk P w h' a L := by
  obtain ⟨S, h1, h2⟩ := x
  exact ⟨S, h1.keep k, h2⟩
theorem TxSk.more {P : Program} {w : World} {h : Heap} {a : Addr} {L : List Str} {S : Key → Bool} (t : Str) (hS : ∀ k, S k = true ↔ ∃ t, t ∈ L ∧ k = Sum.inr t) (x : Sk P w h a (fun j => S j || decide (j = Sum.inr t)) (if S (Sum.inr t) = true then (nubL L).length else (nubL L).length + 1)) : TxSk P w h a (L ++ [t]) := by
  have e : (if S (Sum.inr t) = true then (nubL L).length else (nubL L).length + 1) = (nubL (L ++ [t])).length := by
    rw [nub_add]
    by_cases q : t ∈ L
    · rw [if_pos q, if_pos ((hS _).mpr ⟨t, q, rfl⟩)]
    · rw [if_neg q, if_neg (fun z => by
        obtain ⟨u, hu, e⟩ := (hS _).mp z
        cases e
        exact q hu)]
  rw [e] at x
  refine ⟨_, x, fun k => ?_⟩
  rw [Bool.or_eq_true, hS k]
  constructor
  · rintro (⟨u, hu, e⟩ | e)
    · exact ⟨u, List.mem_append_left _ hu, e⟩
    · exact ⟨t, by simp, of_decide_eq_true e⟩
  · rintro ⟨u, hu, e⟩
    rcases List.mem_append.mp hu with hu | hu
    · exact .inl ⟨u, hu, e⟩
    · rw [List.mem_singleton.mp hu] at e
      exact .inr (decide_eq_true e)
section
variable {P : Program} {w : World} {A : Around} {E : Value → Shared → Prop} {s : Shared}
theorem set_grows {I : Addr} {fp wr : List Addr} {G : Array GenState → Array GenState → Prop} {n : Nat} {Pv : Nat → Value → Prop} {St : Nat → Shared → Prop} {R : Result → Shared → Prop} (W : WalksS P w A.in1 I fp wr G n Pv St) (D : Addr) (nD : D ∉ fp) (xs : List Str) (hn : n = xs.length) (hb : xs.length + 1 < scanBound) (hv : ∀ i v, Pv i v → ∃ t u, xs[i]? = some t ∧ v = .str t u) :
    ∀ (m i : Nat) (s : Shared), m = n - i → i ≤ n → St i s → TxSk P w s.heap D (xs.take i) → (∀ s', Moved (D :: wr) G s s' → TxSk P w s'.heap D xs → R (.ok (.ret .none)) s') → codeAny (model P w) A (.builtin "set.update.loop" ⟨[.ref D, .ref I], []⟩) R s := by
  have nW : D ∉ wr := fun z => nD (W.sub _ z)
  have wider : ∀ b ∈ wr, b ∈ D :: wr := fun b z => List.mem_cons_of_mem _ z
  intro m
  induction m with
  | zero =>
    intro i s hm hi st x k
    have ei : i = n := by omega
    subst ei
    refine codeAny_builtin F.entry_set_update_loop ?_
    rw [Around.under_plainId F.plain_set_update_loop _]
    show wpAny _ A.in1 (pyNext (.ref I) >>= _) _ _ s
    refine wpAny_bind (W.done s _ _ st fun s' mv => ?_)
    rw [List.take_of_length_le (by omega)] at x
    exact wpAny_pure (k s' (mv.mono wider) (x.keep fun o e => mv.heap D o nW e))
  | succ m ih =>
    intro i s hm hi st ⟨S, x, hS⟩ k
    refine codeAny_builtin F.entry_set_update_loop ?_
    rw [Around.under_plainId F.plain_set_update_loop _]
    show wpAny _ A.in1 (pyNext (.ref I) >>= _) _ _ s
    refine wpAny_bind (W.item i s _ _ (by omega) st fun v s' pv st' mv => ?_)
    obtain ⟨t, u, ht, rfl⟩ := hv i v pv
    have x' := x.keep (h' := s'.heap) fun o e => mv.heap D o nW e
    show wpAny _ A.in1 (holding [Value.str t u] (setAdd D (.str t u)) >>= _) _ _ s'
    refine wpAny_bind (wpAny_holding ?_)
    unfold setAdd
    have ik : (mixKind P w).is (Sum.inr t) (.str t u) = true := by rw [mixKind_is]; exact keyIs_str t u
    have hle : (nubL (xs.take i)).length ≤ xs.length := Nat.le_trans (nub_len_le _) (by rw [List.length_take]; omega)
    refine wpAny_holding (wpAny_bind ((mixKind P w).pyHash ik ?_))
    refine sk_add_hashed (s := { s' with toks := s'.toks + 1 }) ik rfl x' (by omega) fun h' sb y => ?_
    have y' : TxSk P w h' D (xs.take (i + 1)) := by
      rw [List.take_add_one, ht]
      exact TxSk.more t hS y
    refine wpAny_pure ⟨plainId_quiet F.plain_set_update_loop _, ih (i + 1) _ (by omega) (by omega) (W.frame _ s' _ _ st' (Nat.le_succ _) fun b hb o e => ?_) y' fun s'' mv2 z => ?_⟩
    · exact (sb.2 b fun q => nD (q ▸ hb)).trans e
    · exact k s'' (Moved.trans W.gtrans ((mv.mono wider).then_heap (Nat.le_succ _) fun b o hb e => (sb.2 b fun q => hb (by rw [q]; exact List.mem_cons_self)).trans e) mv2) z
abbrev newSet (w : World) : Obj := { cls := .type "set", dict := none, data := .set #[] 0 (.fresh 0 0 (!w.params.followText "set-order")) }
set_option maxRecDepth 100000 in
set_option maxHeartbeats 3200000 in
theorem call_set_tx {l : Addr} {items : Array Value} (xs : List Str) {Q : Value → Shared → Prop} (hh : A.handled = none) (hl : s.heap.IsList l items) (hx : StrsAre items.toList xs) (hb : xs.length + 1 < scanBound)
    (k : ∀ (h' : Heap) (tk : Nat), TxSk P w h' s.heap.objs.size xs → (∀ b o, s.heap.get? b = some o → h'.get? b = some o) → Q (.ref s.heap.objs.size) { s with heap := h', toks := tk }) :
    wpAny (model P w) A (call (.type "set") [.ref l]) Q E s := by
  have sz : items.size = xs.length := by
    have := StrsAre.len_eq hx
    rwa [Array.length_toList] at this
  obtain ⟨c, tl, hmro⟩ := F.called_set.mro
  have g1 := F.called_set.made
  have g2 := F.called_set.sub
  refine wpAny_call (codeAny_of_tree ?_)
  show wpAny _ _ (callAny (.type "set") _) _ _ _
  refine wpAny_pure ⟨Code.quiet_builtin _ (by decide +kernel), codeAny_builtin F.entry_type_call ?_⟩
  rw [Around.under_plain (weight_type_call_type "set" [.ref l] []) rfl]
  have g3 := F.called_set.notType
  have g4 := F.called_set.canCreate
  have g5 := F.typeCall_set_1 (.ref l)
  repeat (any_goals (first | assumption | wp_step))
  refine codeAny_mono (code_set_led1 (.ref l) (E := E) (Q₁ := fun obj s₁ => obj = .ref s.heap.objs.size ∧ s₁ = { s with heap := s.heap.push (newSet w) }) ⟨rfl, rfl⟩) fun r s₁ hr => ?_
  cases r with
  | error e => exact hr
  | ok fl =>
    cases fl with
    | ret obj =>
      obtain ⟨rfl, rfl⟩ := hr
      have aS : (s.heap.push (newSet w)).get? s.heap.objs.size = some (newSet w) := Heap.get?_push_size _ rfl
      have tS : Shared.TypeIs { s with heap := s.heap.push (newSet w) } (.ref s.heap.objs.size) "set" := ⟨_, aS, rfl⟩
      have g6 := F.called_set.init.lookup
      have g7 := F.called_set.init.bind (.ref s.heap.objs.size)
      repeat (any_goals (first | assumption | wp_step))
      refine codeAny_mono (codeAny_call_builtin (R := wants (fun r s₂ => r = .none ∧ ∃ h' tk, s₂ = { s with heap := h', toks := tk } ∧ TxSk P w h' s.heap.objs.size xs ∧ (∀ b o, s.heap.get? b = some o → h'.get? b = some o)) E) F.called_set.init.plain F.entry_set_init (check_set_init_1 tS ?_)) fun r₂ s₂ hr₂ => ?_
      · obtain ⟨ol, hol, hcl, nl, hdl⟩ := hl
        obtain ⟨ocls, odict, odata, oslots⟩ := ol
        simp only at hcl hdl
        subst hcl
        subst hdl
        have al : (s.heap.push (newSet w)).get? l = some { cls := .type "list", dict := odict, data := .seq items nl, slots := oslots } := Heap.get?_push_of_some _ hol
        have g8 := PySem.F.sub_list_set
        have g9 := PySem.F.sub_list_frozenset
        have g10 : (Value.type "list" == Value.type "dict") = false := by decide
        have isl : (s.heap.push (newSet w)).IsList l items := ⟨_, al, rfl, nl, rfl⟩
        unfold Builtin.«set.__init__» noKeywords Builtin.Frozenset.updateFrom
        generalize hPI : pyIter = PI
        wp_walk
        subst hPI
        refine wpAny_pyIter_list isl ?_
        refine wpAny_bind (wpAny_runValue ?_)
        have lS : l < s.heap.objs.size := Heap.lt_size hol
        have hz : (s.heap.push (newSet w)).objs.size = s.heap.objs.size + 1 := Heap.size_push ..
        have hd3 : A.in1.in1.in1.handled = none := by simp [hh]
        have nI : l ≠ (s.heap.push (newSet w)).objs.size := by rw [hz]; exact Nat.ne_of_lt (Nat.lt_succ_of_lt lS)
        have nF : s.heap.objs.size ∉ [(s.heap.push (newSet w)).objs.size, l] := by
          rw [hz]
          simp only [List.mem_cons, List.not_mem_nil, or_false, not_or]
          exact ⟨Nat.ne_of_lt (Nat.lt_succ_self _), Nat.ne_of_gt lS⟩
        have hval : ∀ (i : Nat) (v : Value), items[i]? = some v → ∃ t u, xs[i]? = some t ∧ v = .str t u := fun i v hv => by
          have hi : i < xs.length := by rw [← sz]; exact (Array.getElem?_eq_some_iff.mp hv).1
          obtain ⟨u, e⟩ := SS.strs_at hx i v (by rw [Array.getElem?_toList]; exact hv)
          refine ⟨xs[i], u, List.getElem?_eq_getElem hi, ?_⟩
          rw [e, List.getD_eq_getElem?_getD, List.getElem?_eq_getElem hi]
          rfl
        refine set_grows ((Walks.list hd3 _ l nI items).toS) s.heap.objs.size nF xs sz hb hval (items.size - 0) 0 _ (by omega) (Nat.zero_le _) ⟨⟨_, Heap.get?_push_size _ rfl, rfl, rfl⟩, (isl.push _)⟩ ?hS0 ?hR
        case hS0 =>
          have f0 := Sk.fresh P w s.heap
          exact ⟨_, f0.keep fun o e => Heap.get?_push_of_some _ e, fun k => ⟨fun z => (by cases z), fun ⟨t, ht, _⟩ => (by simp at ht)⟩⟩
        case hR =>
          intro s' mv y
          obtain ⟨h', g2', d', tk', os'⟩ := s'
          have eg : g2' = s.gens := mv.gens
          have ed : d' = s.drawn := mv.drawn
          have eo : os' = s.os := mv.os
          subst eg
          subst ed
          subst eo
          show wpAny _ _ _ _ _ _
          refine wpAny_pure ?_
          show wpAny _ _ (ret Value.none) _ _ _
          refine wpAny_pure ⟨rfl, h', tk', rfl, y, fun b o e => ?_⟩
          have b0 : b < s.heap.objs.size := Heap.lt_size e
          refine mv.heap b o ?_ (Heap.get?_push_of_some _ (Heap.get?_push_of_some _ e))
          rw [hz]
          simp only [List.mem_cons, List.not_mem_nil, or_false, not_or]
          exact ⟨Nat.ne_of_lt b0, Nat.ne_of_lt (Nat.lt_succ_of_lt b0)⟩
      · cases r₂ with
        | error e => exact hr₂
        | ok fl₂ =>
          cases fl₂ with
          | ret r =>
            obtain ⟨rfl, h', tk, rfl, y, kk⟩ := hr₂
            repeat (any_goals (first | assumption | wp_step))
            exact k _ _ y kk
          | _ => exact hr₂.elim
    | _ => exact hr.elim
end
def rSetTx (P : Program) (w : World) (K : PySem.W.Frag) : List V → Hp → VK → Prop := fun vs H Q => ∃ (a : Addr) (xs : List Str), vs = [V.ref a] ∧ SqL K H a (xs.map V.str) ∧ xs.length ≤ 4000 ∧ ∀ (H' : Hp) (p : Addr), Same H H' → H p = none → TxK P w H' p xs → Q (.ref p) H'
theorem cr_setTx {X : Cx} (hc : X.calm = true) : CallR X (.type "set") (rSetTx X.prog X.w X.K) := by
  intro pins s σ H vs us Q I r h
  obtain ⟨a, xs, rfl, hs, hl, q⟩ := h
  obtain ⟨its, rv, pl, _⟩ := I.list hs
  rw [Vals.ref1 r]
  refine call_set_tx xs (I.ok.hd hc) pl.isList (by simpa using rv.strs) (by unfold scanBound; omega) fun h' tk ⟨S, y, hS⟩ kk => ?_
  have np : H s.heap.objs.size = none := I.hok.fresh (Nat.le_refl _)
  exact ⟨.ref _, upd H s.heap.objs.size (SkO X.prog X.w s.heap.objs.size S (nubL xs).length), I.laid (t' := tk) kk (Nat.le_refl _) (sk_new y), rfl, q _ _ (.new np) np ⟨S, upd_same, hS⟩⟩
end Sw
set_option Elab.async false
set_option maxRecDepth 100000
set_option maxHeartbeats 4000000
namespace Sw
open PySem L2 PySem.Spec PyProof.Rows
theorem szb {n : Nat} (h : n ≤ 16000000) : n < sizeLine := by rw [sizeLine_eq]; omega
theorem szl {n : Nat} (h : n ≤ 16000000) : n ≤ sizeLine := by rw [sizeLine_eq]; omega
/-! ### a thing's type, by its data -/
def tyN : PyData → String
  | .none => "NoneType"
  | .bool _ => "bool"
  | .int _ => "int"
  | .str _ => "str"
  | .list _ => "list"
  | .tuple _ => "tuple"
  | .dict _ => "dict"
theorem tyX {K : PySem.W.Frag} {H : Hp} {v : V} {d : PyData} (h : Dp K H v d) : TyX K H v (.type (tyN d)) := by
  cases h with
  | non => exact .base .non
  | bl b => exact .base (.bl b)
  | int i => exact .base (.int i)
  | str x => exact .base (.str x)
  | lst h1 h2 =>
    rcases h1 with (h1 | ⟨o, h1⟩) | ⟨o, its, n, e, c, _⟩
    · exact .base (.lst h1)
    · exact .base (.frz h1)
    · exact .kList e c
  | tup h1 h2 =>
    rcases h1 with (h1 | ⟨o, h1⟩) | ⟨o, its, n, e, c, _⟩
    · exact .base (.tup h1)
    · exact .fTuple h1
    · exact .kTuple e c
/-- the answer of isinstance for the built-in class T -/
theorem isD (K : PySem.W.Frag) (T : String) (f : PyData → Bool) (h1 : kitB "NoneType" T = some (f .none)) (h2 : ∀ b, kitB "bool" T = some (f (.bool b))) (h3 : ∀ i, kitB "int" T = some (f (.int i))) (h4 : ∀ t, kitB "str" T = some (f (.str t)))
    (h5 : ∀ l, kitB "list" T = some (f (.list l))) (h6 : ∀ l, kitB "tuple" T = some (f (.tuple l))) {H : Hp} {v : V} {d : PyData} (h : Dp K H v d) : PySem.W.kitOne K (.type (tyN d)) (.type T) = some (f d) := by
  cases h with
  | non => exact kit_ty h1
  | bl b => exact kit_ty (h2 b)
  | int i => exact kit_ty (h3 i)
  | str x => exact kit_ty (h4 x)
  | lst _ _ => exact kit_ty (h5 _)
  | tup _ _ => exact kit_ty (h6 _)
def isStrD : PyData → Bool
  | .str _ => true
  | _ => false
def isTupD : PyData → Bool
  | .tuple _ => true
  | _ => false
def isLstD : PyData → Bool
  | .list _ => true
  | _ => false
def isBoolD : PyData → Bool
  | .bool _ => true
  | _ => false
def isIntD : PyData → Bool
  | .int _ => true
  | .bool _ => true
  | _ => false
theorem isStr {K : PySem.W.Frag} {H : Hp} {v : V} {d : PyData} (h : Dp K H v d) : PySem.W.kitOne K (.type (tyN d)) (.type "str") = some (isStrD d) :=
  isD K "str" isStrD (by decide +kernel) (fun _ => (by decide +kernel : kitB "bool" "str" = some false)) (fun _ => (by decide +kernel : kitB "int" "str" = some false)) (fun _ => (by decide +kernel : kitB "str" "str" = some true)) (fun _ => (by decide +kernel : kitB "list" "str" = some false)) (fun _ => (by decide +kernel : kitB "tuple" "str" = some false)) h
theorem isTup {K : PySem.W.Frag} {H : Hp} {v : V} {d : PyData} (h : Dp K H v d) : PySem.W.kitOne K (.type (tyN d)) (.type "tuple") = some (isTupD d) :=
  isD K "tuple" isTupD (by decide +kernel) (fun _ => (by decide +kernel : kitB "bool" "tuple" = some false)) (fun _ => (by decide +kernel : kitB "int" "tuple" = some false)) (fun _ => (by decide +kernel : kitB "str" "tuple" = some false)) (fun _ => (by decide +kernel : kitB "list" "tuple" = some false)) (fun _ => (by decide +kernel : kitB "tuple" "tuple" = some true)) h
theorem isLst {K : PySem.W.Frag} {H : Hp} {v : V} {d : PyData} (h : Dp K H v d) : PySem.W.kitOne K (.type (tyN d)) (.type "list") = some (isLstD d) :=
  isD K "list" isLstD (by decide +kernel) (fun _ => (by decide +kernel : kitB "bool" "list" = some false)) (fun _ => (by decide +kernel : kitB "int" "list" = some false)) (fun _ => (by decide +kernel : kitB "str" "list" = some false)) (fun _ => (by decide +kernel : kitB "list" "list" = some true)) (fun _ => (by decide +kernel : kitB "tuple" "list" = some false)) h
theorem isBool {K : PySem.W.Frag} {H : Hp} {v : V} {d : PyData} (h : Dp K H v d) : PySem.W.kitOne K (.type (tyN d)) (.type "bool") = some (isBoolD d) :=
  isD K "bool" isBoolD (by decide +kernel) (fun _ => (by decide +kernel : kitB "bool" "bool" = some true)) (fun _ => (by decide +kernel : kitB "int" "bool" = some false)) (fun _ => (by decide +kernel : kitB "str" "bool" = some false)) (fun _ => (by decide +kernel : kitB "list" "bool" = some false)) (fun _ => (by decide +kernel : kitB "tuple" "bool" = some false)) h
theorem isInt {K : PySem.W.Frag} {H : Hp} {v : V} {d : PyData} (h : Dp K H v d) : PySem.W.kitOne K (.type (tyN d)) (.type "int") = some (isIntD d) :=
  isD K "int" isIntD (by decide +kernel) (fun _ => (by decide +kernel : kitB "bool" "int" = some true)) (fun _ => (by decide +kernel : kitB "int" "int" = some true)) (fun _ => (by decide +kernel : kitB "str" "int" = some false)) (fun _ => (by decide +kernel : kitB "list" "int" = some false)) (fun _ => (by decide +kernel : kitB "tuple" "int" = some false)) h
/-! ### is, is not of truths -/
section
variable {X : Cx}
def rIsB (n : Bool) : R2 := fun x y H Q => ∃ a b, x = .bl a ∧ y = .bl b ∧ Q (.bl (if n then !decide (a = b) else decide (a = b))) H
theorem bool_beq (a b : Bool) : (Value.bool a == Value.bool b) = decide (a = b) := by cases a <;> cases b <;> rfl
theorem op_isB : OpR X (compareOp .Is) (rIsB false) := by
  intro pins s σ H x y v u Q I rx ry h
  obtain ⟨a, b, rfl, rfl, q⟩ := h
  cases (show v = Value.bool a from rx)
  cases (show u = Value.bool b from ry)
  exact wpAny_is_plain rfl (fin_bl I q (bool_beq a b).symm)
theorem op_notB : OpR X (compareOp .IsNot) (rIsB true) := by
  intro pins s σ H x y v u Q I rx ry h
  obtain ⟨a, b, rfl, rfl, q⟩ := h
  cases (show v = Value.bool a from rx)
  cases (show u = Value.bool b from ry)
  exact wpAny_isNot_plain rfl (fin_bl I q (congrArg not (bool_beq a b).symm))
end
/-! ### walks over a text's signs -/
theorem gw_str {x : Str} {go : Bool} {g : TG} {te : TE} {σ0 : L2.St} {vs : List Nat} {QT QF : Hp → Prop} {H : Hp} (Pv : Nat → Hp → Prop) (h0 : Pv 0 H)
    (hs : ∀ i c H, x.cps.toList[i]? = some c → Pv i H → g (.str ⟨#[c]⟩) σ0 H fun σ2 H2 => wipe σ2 vs = σ0 ∧ te σ2 H2 fun y H3 => ∃ b, y = .bl b ∧ if b = go then Pv (i + 1) H3 else QF H3) (hd : ∀ H, Pv x.cps.toList.length H → QT H) :
    ∃ W : Nat → Nat → Hp → Prop, (∃ m, W 0 m H) ∧ GWalk go (Its x) g te σ0 vs QT QF W := by
  have hl : x.cps.toList.length = x.cps.size := by simp
  refine ⟨fun i m H => i ≤ x.cps.size ∧ m = x.cps.size - i ∧ Pv i H, ⟨_, Nat.zero_le _, rfl, h0⟩, ?_⟩
  rintro i m H ⟨hi, rfl, hp⟩
  by_cases e : i = x.cps.size
  · exact .inl ⟨by show x.cps.size ≤ i; omega, hd H (by rw [hl, ← e]; exact hp)⟩
  · refine .inr ⟨by show i < x.cps.size; omega, Pv (i + 1), fun H' hq => ⟨_, by omega, by omega, rfl, hq⟩, fun v H' hy => ?_⟩
    obtain ⟨rfl, c, hc, rfl⟩ := hy
    exact hs i c _ (by rw [Array.getElem?_toList]; exact hc) hp
theorem lc_str {x : Str} {g : TG} {tt : TT} {te : TE} {vs : List Nat} {σ : L2.St} {H1 : Hp} {D : Addr} {Qd : Hp → Prop} (Pv : Nat → Hp → Prop) (h0 : Pv 0 (upd H1 D (.lst [])))
    (hs : ∀ i c H, x.cps.toList[i]? = some c → Pv i H → g (.str ⟨#[c]⟩) (wipe σ vs) H fun σ2 H2 => wipe σ2 vs = wipe σ vs ∧ tt σ2 H2 fun b H3 => if b = true then te σ2 H3 fun y H4 => ∃ acc, H4 D = some (.lst acc) ∧ acc.length < sizeLine ∧ Pv (i + 1) (upd H4 D (.lst (acc ++ [y]))) else Pv (i + 1) H3)
    (hd : ∀ H, Pv x.cps.toList.length H → Qd H) : ∃ W : Nat → Nat → Hp → Prop, (∃ m, W 0 m (upd H1 D (.lst []))) ∧ ∀ i m H, W i m H →
      ((Its x).stop i H ∧ Qd H) ∨ ((Its x).go i H ∧ ∃ Nx : Hp → Prop, (∀ H', Nx H' → ∃ m', m' < m ∧ W (i + 1) m' H') ∧ ∀ v H', (Its x).yld i H v H' → g v (wipe σ vs) H' fun σ2 H2 => wipe σ2 vs = wipe σ vs ∧ tt σ2 H2 fun b H3 =>
        if b = true then te σ2 H3 fun y H4 => ∃ acc, H4 D = some (.lst acc) ∧ acc.length < sizeLine ∧ Nx (upd H4 D (.lst (acc ++ [y]))) else Nx H3) := by
  have hl : x.cps.toList.length = x.cps.size := by simp
  refine ⟨fun i m H => i ≤ x.cps.size ∧ m = x.cps.size - i ∧ Pv i H, ⟨_, Nat.zero_le _, rfl, h0⟩, ?_⟩
  rintro i m H ⟨hi, rfl, hp⟩
  by_cases e : i = x.cps.size
  · exact .inl ⟨by show x.cps.size ≤ i; omega, hd H (by rw [hl, ← e]; exact hp)⟩
  · refine .inr ⟨by show i < x.cps.size; omega, Pv (i + 1), fun H' hq => ⟨_, by omega, by omega, rfl, hq⟩, fun v H' hy => ?_⟩
    obtain ⟨rfl, c, hc, rfl⟩ := hy
    exact hs i c _ (by rw [Array.getElem?_toList]; exact hc) hp
/-! ### t * k of a tuple, of any tuple -/
theorem tuple_mulOne (l : Addr) (items : Array Value) (n : Nat) (dd : Option Addr) (sl : Array (Option Value)) (x : Int) (u : Tok) (c0 : (decide (x < -(2 ^ 63)) || decide (x ≥ 2 ^ 63)) = false) (c1 : (items.isEmpty || x == 1) = true) :
    Meets (Builtin.«tuple.__mul__» ⟨[.ref l, .int x u], []⟩) (fun _ R s => s.heap.get? l = some { cls := .type "tuple", dict := dd, data := .seq items n, slots := sl } ∧ R (.ok (.ret (Value.ref l))) s) :=
  .of_wp fun prog w A R s h => by
    obtain ⟨hp, g, d, tk, os⟩ := s
    obtain ⟨hl, h⟩ := h
    have f1 := AutoSeq1.idx_int
    wp_walk using wpAny_loadPart' hl
    repeat (first
      | (refine wpAny_ite_false (decide_eq_false (by rw [c0]; exact Bool.false_ne_true)) ?_; wp_walk using wpAny_loadPart' hl)
      | (refine wpAny_ite_true (decide_eq_true c1) ?_; wp_walk using wpAny_loadPart' hl))
    exact ⟨_, rfl, h⟩
def rRepA (K : PySem.W.Frag) : R2 := fun x y H Q => ∃ l k xs, x = .ref l ∧ y = .int k ∧ SqT K H l xs ∧ 1 ≤ k ∧ k ≤ 1000 ∧ xs.length ≤ 1000 ∧ ((xs = [] ∨ k = 1) → Q (.ref l) H) ∧ (∀ p, H p = none → Q (.ref p) (upd H p (.tup (List.replicate k.toNat xs).flatten)))
section
variable {X : Cx}
theorem op_repA : OpR X (binaryOp .Mult) (rRepA X.K) := by
  intro pins s σ H x y v u Q I rx ry h
  obtain ⟨l, k, xs, rfl, rfl, hT, h1, h2, hz, q1, q2⟩ := h
  by_cases hc : xs = [] ∨ k = 1
  · cases rx
    obtain ⟨t, rfl⟩ := ry
    obtain ⟨its, r, ⟨⟨cls, dd, data, sl⟩, ho, hcl, n, hd⟩, hs⟩ := I.tuple hT
    simp only at hcl hd
    subst hcl hd
    have hle : its.length = xs.length := r.length.symm
    have c0 : (decide (k < -(2 ^ 63)) || decide (k ≥ 2 ^ 63)) = false := by
      rw [decide_eq_false (by omega), decide_eq_false (by omega)] <;> rfl
    have c1 : (its.toArray.isEmpty || k == 1) = true := by
      rcases hc with hc | hc
      · rw [hc] at hle
        have e := List.eq_nil_of_length_eq_zero hle
        rw [e]
        rfl
      · rw [hc, Bool.or_eq_true]
        exact .inr rfl
    refine wpAny_binaryOp_repeat_ref (T := "tuple") (U := "int") (by decide) ⟨_, ho, rfl⟩ (fun s' => typeIs_int s' k t) noFill_tuple_mul F.fills_int_mul F.slot_int_rmul repeat_tuple F.slot_int_index.lookup
      (call_meets F.slot_int_rmul (typeIs_int s k t) F.entry_int_rmul (F.args_int_rmul_2 _ _) (int_rmul_tuple k t l its.toArray n dd sl)
        ⟨ho, rfl, ⟨_, ho, rfl⟩, call_meets F.slot_tuple_mul ⟨_, ho, rfl⟩ F.entry_tuple_mul (F.args_tuple_mul_2 _ _) (tuple_mulOne l its.toArray n dd sl k t c0 c1) ⟨ho, ?_⟩⟩)
    exact ⟨.ref l, H, I, rfl, q1 hc⟩
  · exact op_repT pins s σ H _ _ v u Q I rx ry ⟨l, k, xs, rfl, rfl, hT, fun e => hc (.inl e), by omega, h2, hz, q2⟩
end
/-! ### a def that holds generator expressions -/
section
variable {P : Program} {w : World} {K : PySem.W.Frag} {mg : Str → Option Value} {base : Heap}
structure DefTab (K : PySem.W.Frag) (mg : Str → Option Value) (base : Heap) (x : Str) (st : Stmt) (ps : List Str) (T : Addr) : Prop where
  ex : ∃ (f : Addr) (oc : Value) (od : Option Addr) (kV doc pm : Value) (an : Option Addr) (c : Addr) (ct : Value) (osl : Array (Option Value)),
    K.lookup f = some ⟨oc, od, .func (PySem.W.fnOf x x (defArgs st) (defBody st) (defScope st) .none kV doc pm an (.ref c) ct), osl⟩ ∧ PySem.W.codeIn K (.ref c) x = true ∧ PySem.W.keepIn K (.ref f) = true ∧ mg x = some (.ref f) ∧
      Binds K (PySem.W.fnOf x x (defArgs st) (defBody st) (defScope st) .none kV doc pm an (.ref c) ct) ps [] ∧ GxR.TabB base mg c T
theorem DefTab.ok {x : Str} {st : Stmt} {N ps : List Str} {k : Nat} {sp : Sp} {T : Addr} (F : DefTab K mg base x st ps T) (S : FnScope N ps (defScope st)) (len : ∀ vs H Q E, sp vs H Q E → vs.length = ps.length)
    (hbody : ∀ (f c : Addr) (A : Around) (outer : List Env) (s : Shared) (H : Hp) (vs : List V) (Q : VK) (E : XK), GxR.TabB base mg c T → Room k (A.deeper (envOfC x (defScope st) s.heap.objs.size f (.ref c))) → sp vs H Q E →
      ∃ t, PSs (cxOf CX0 P w K mg base N x (defScope st) f (.ref c) A outer s H E).nox (defBody st) t ∧ t { nx := fun _ H' => Q .non H', rt := Q } (start N vs) H) : DefOk P w K mg base x (k + 1) ps sp := by
  obtain ⟨f, oc, od, kV, doc, pm, an, c, ct, osl, lk, hcd, kp, hm, hb, TB⟩ := F.ex
  refine ⟨f, _, fn_of lk hcd S len fun A outer s H vs Q E hr hsp => ?_, hm, kp, hb⟩
  obtain ⟨t, h, q⟩ := hbody f c A outer s H vs Q E TB hr hsp
  exact ⟨t, h.nox, q⟩
end
end Sw
set_option Elab.async false
set_option maxRecDepth 100000
set_option maxHeartbeats 4000000
namespace Sw
open PySem L2 PySem.Spec PyProof.Rows HT
/-! ### t[::-1] of a tuple -/
theorem adjust_rev (n : Nat) : Builtin.Slice.sliceAdjust none none (-1) (n : Int) = ((n : Int) - 1, -1) := by
  have h1 : ((-1 : Int) < 0) := by omega
  unfold Builtin.Slice.sliceAdjust
  simp only [h1, if_true]
theorem places_rev (n : Nat) : Builtin.Slice.slicePlaces ((n : Int) - 1) (-1) (-1) = n := by
  unfold Builtin.Slice.slicePlaces
  have h1 : ¬ ((-1 : Int) > 0) := by omega
  simp only [h1, if_false]
  split
  · have e : ((n : Int) - 1 - -1 - 1) / (- -1) + 1 = n := by
      have : (- -1 : Int) = 1 := by omega
      rw [this, Int.ediv_one]
      omega
    rw [e]
    omega
  · omega
theorem fm_congr {α β : Type} {f g : α → Option β} : ∀ {l : List α}, (∀ x, x ∈ l → f x = g x) → l.filterMap f = l.filterMap g
  | [], _ => rfl
  | a :: l, h => by
    rw [List.filterMap_cons, List.filterMap_cons, h a List.mem_cons_self, fm_congr (l := l) fun x hx => h x (List.mem_cons_of_mem _ hx)]
theorem pick_rev (xs : Array Value) : ((List.range xs.size).filterMap fun (k : Nat) => xs[(((xs.size : Int) - 1) + (k : Int) * (-1)).toNat]?).toArray = xs.toList.reverse.toArray := by
  have e1 : ((List.range xs.size).filterMap fun (k : Nat) => xs[(((xs.size : Int) - 1) + (k : Int) * (-1)).toNat]?) = ((List.range xs.size).map (fun k => xs.size - 1 - k)).filterMap (xs[·]?) := by
    rw [List.filterMap_map]
    refine fm_congr fun k hk => ?_
    have hk' : k < xs.size := List.mem_range.mp hk
    have : ((((xs.size : Int) - 1) + (k : Int) * (-1)).toNat) = xs.size - 1 - k := by omega
    rw [this]
    rfl
  rw [e1, PySem.W.krv_range, List.filterMap_reverse, PySem.W.krv_all]
section
variable {prog : Program} {w : World} {A : Around} {E : Value → Shared → Prop} {s : Shared}
theorem slicePart_neg {v : Value} {o : Option Int} {Q : Option Int → Shared → Prop} (p : IsPart v o) (h : Q o s) : wpAny (model prog w) A (Builtin.Slice.slicePartIndex v) Q E s := slicePart_ p h
theorem sliceApplied_rev {sl : Addr} {vs : Value} {n : Nat} {Q : Int × Int × Nat → Shared → Prop} (hs : s.heap.IsSliceOf sl .none .none vs) (ps : IsPart vs (some (-1)))
    (h : Q (((n : Int) - 1), -1, n) s) : wpAny (model prog w) A (Builtin.Slice.sliceApplied (.ref sl) (pure (n : Int))) Q E s := by
  obtain ⟨os, hos, hcs, hds⟩ := id hs
  unfold Builtin.Slice.sliceApplied Builtin.Slice.sliceFields
  refine wpAny_bind (wpAny_bind (wpAny_field hos hds (x := .none) rfl (wpAny_bind (wpAny_field hos hds (x := .none) rfl (wpAny_bind (wpAny_field hos hds (x := vs) rfl (wpAny_pure ?_)))))))
  refine wpAny_bind (slicePart_ ps ?_)
  show wpAny _ _ (if ((-1 : Int) == 0) = true then _ else _) _ _ s
  rw [if_neg (by decide)]
  refine wpAny_bind (slicePart_ .none (wpAny_bind (slicePart_ .none (wpAny_bind (wpAny_pure ?_)))))
  show wpAny _ _ (match Builtin.Slice.sliceAdjust none none (-1) (n : Int) with | (lo, hi) => pure (lo, (-1 : Int), Builtin.Slice.slicePlaces lo hi (-1))) _ _ s
  rw [adjust_rev n]
  show wpAny _ _ (pure ((n : Int) - 1, (-1 : Int), Builtin.Slice.slicePlaces ((n : Int) - 1) (-1) (-1))) _ _ s
  rw [places_rev]
  exact wpAny_pure h
theorem getItem_tuple_rev {t sl : Addr} {items : Array Value} {vs : Value} {Q : Value → Shared → Prop} (ht : IsTup s.heap t items) (hs : s.heap.IsSliceOf sl .none .none vs) (ps : IsPart vs (some (-1)))
    (h : Q (.ref s.heap.objs.size) { s with heap := s.heap.push { cls := .type "tuple", data := .seq items.toList.reverse.toArray } })
    (hsz : items.size ≤ sizeLine) : wpAny (model prog w) A (getItem (.ref t) (.ref sl)) Q E s := by
  have htake : sizeOk (.seq items.toList.reverse.toArray) := by
    show items.toList.reverse.toArray.size ≤ sizeLine
    rw [List.size_toArray, List.length_reverse, Array.length_toList]
    exact hsz
  obtain ⟨os, hos, hcs, hds⟩ := id hs
  have hTs : s.TypeIs (.ref sl) "slice" := ⟨os, hos, hcs⟩
  unfold getItem
  try with_reducible refine wpAny_holding ?_
  first | refine wpAny_bind (wpAny_pure ?_) | skip
  refine wpAny_bind (wpAny_sequenceKey ht.typeIs (by decide) ?_)
  refine wpAny_bind (wpAny_callSpecial?_slot (name := Str.ofString "__getitem__") ht.typeIs PyProof.Rows.slot_tuple_getitem
    (wpAny_call_entry PyProof.Rows.slot_tuple_getitem ht.typeIs entry_tuple_getitem ?_ (args_tuple_getitem _ _)))
  show wpAny _ _ (Builtin.Tuple.tupleItemsOf (.ref t) >>= _) _ _ s
  refine wpAny_bind (tupleItemsOf_ ht ?_)
  refine wpAny_bind (wpAny_typeOf hTs ?_)
  rw [if_pos (by decide)]
  refine wpAny_bind (sliceApplied_rev hs ps ?_)
  have hno : ¬ ((((items.size : Int) - 1) == 0 && (-1 : Int) == 1 && items.size == items.size) = true) := by
    intro q
    rw [Bool.and_eq_true, Bool.and_eq_true] at q
    exact absurd q.1.2 (by decide)
  show wpAny _ _ (if ((((items.size : Int) - 1) == 0 && (-1 : Int) == 1 && items.size == items.size) = true) then _ else _) _ _ s
  rw [if_neg hno, pick_rev]
  first
    | exact wpAny_bind (m := Builtin.Tuple.tupleExact _) (wpAny_newObj_type (wpAny_pure ⟨_, rfl, wpAny_pure h⟩) htake)
    | exact wpAny_bind (m := Builtin.Tuple.tupleExact _) (wpAny_newObj_type (wpAny_bind (wpAny_pure (wpAny_pure ⟨_, rfl, wpAny_pure h⟩))) htake)
    | exact wpAny_bind (wpAny_bind (m := Builtin.Tuple.tupleExact _) (wpAny_newObj_type (wpAny_pure (wpAny_pure ⟨_, rfl, wpAny_pure h⟩)) htake))
    | exact wpAny_bind (wpAny_bind (m := Builtin.Tuple.tupleExact _) (wpAny_newObj_type (wpAny_pure ⟨_, rfl, wpAny_pure h⟩) htake))
end
section
variable {X : Cx}
/-- t[::-1] of a tuple: a new tuple -/
def tRevT (K : PySem.W.Frag) (te : TE) : TE := fun σ H Q => te σ H fun x H1 => ∃ a xs, x = .ref a ∧ SqT K H1 a xs ∧ ∀ p, H1 p = none → Q (.ref p) (upd H1 p (.tup xs.reverse))
theorem pe_revT {e : Expr} {te : TE} {k : Nat} {p1 p2 p3 pos : Pos} (he : PE X e te) : PE X (.Subscript e (.Slice none none (some (.UnaryOp .USub (.Constant (.int 1) k p1) p2)) p3) pos) (tRevT X.K te) := by
  refine ⟨fun pins s σ H Q I h => ?_⟩
  refine Subscript_ (thn (he.run pins s σ H _ I h) fun v s1 ⟨x, H1, I1, r1, q1⟩ => ?_)
  obtain ⟨a, xs, ex, hx, q⟩ := q1
  subst ex
  cases r1
  have hst : PO X (some (.UnaryOp .USub (.Constant (.int 1) k p1) p2)) (tPart (tUn (rU fun i => .int (-i)) (tC (.int 1)))) := po_some (pe_un un_neg pe_int)
  refine wpAny_Slice (thn (po_none.run pins s1 σ H1 (fun o H2 => o = none ∧ H2 = H1) I1 ⟨rfl, rfl⟩) fun vl s2 ⟨l, H2, I2, pl, el, e2⟩ => ?_)
  subst el e2
  refine thn (po_none.run pins s2 σ H2 (fun o H3 => o = none ∧ H3 = H2) I2 ⟨rfl, rfl⟩) fun vu s3 ⟨u, H3, I3, pu, eu, e3⟩ => ?_
  subst eu e3
  refine thn (hst.run pins s3 σ H3 (fun o H4 => o = some (-1) ∧ H4 = H3) I3 ⟨1, rfl, -1, rfl, rfl, rfl⟩) fun vs s4 ⟨o, H4, I4, ps, eo, e4⟩ => ?_
  subst eo e4
  cases pl
  cases pu
  have I5 : Inv X pins σ H4 { s4 with heap := s4.heap.push { cls := .type "slice", data := .fields #[.none, .none, vs] } } := I4.kept (t' := s4.toks) fun b ob q => Heap.get?_push_of_some _ q
  obtain ⟨its, r, ht, hz⟩ := I5.tuple hx
  have hlen := r.length
  have hz2 : its.length ≤ sizeLine := by first | exact hz | omega
  show wpAny (model X.prog X.w) X.A (subscriptTail e (.Slice none none (some (.UnaryOp .USub (.Constant (.int 1) k p1) p2)) p3) (.ref a) (.ref s4.heap.objs.size)) (EP X pins σ Q) X.xe { s4 with heap := s4.heap.push { cls := .type "slice", data := .fields #[.none, .none, vs] } }
  refine tail_any (ops := [.ref a, .ref s4.heap.objs.size]) ht.typeIs (PyProof.Rows.slot_tuple_getitem.lookup) ?_ (by with_unfolding_all rfl)
  refine getItem_tuple_rev ht (Heap.IsSliceOf.new _ .none .none vs) ps ?_ (by rw [List.size_toArray]; exact hz2)
  refine ⟨.ref _, _, I5.laid (t' := s4.toks) (o := .tup xs.reverse) (fun b ob q => Heap.get?_push_of_some _ q) (Nat.le_refl _) ?_, rfl, q _ (I5.hok.fresh (Nat.le_refl _))⟩
  exact ⟨by rw [List.length_reverse]; omega, _, r.reverse, _, Heap.get?_push_size _ rfl, rfl, 0, rfl⟩
end
end Sw
set_option Elab.async false
set_option maxRecDepth 100000
set_option maxHeartbeats 4000000
namespace Sw
open PySem L2 PySem.Spec PyProof.Rows
/-! ### walks told by an invariant over the turn -/
theorem for_enum {K : PySem.W.Frag} {a : Addr} {xs : List V} {g : TG} {tb : TS} {D : Ends} {σ : L2.St} {H : Hp} (Pv : Nat → L2.St → Hp → Prop) (h0 : Pv 0 σ H) (hl : ∀ i σ H, i ≤ xs.length → Pv i σ H → SqL K H a xs)
    (hs : ∀ i x T σ H, xs[i]? = some x → Pv i σ H → H T = none → g (.ref T) σ (upd H T (.tup [.int (i : Nat), x])) fun σ2 H2 => tb { D with nx := Pv (i + 1), ct := Pv (i + 1), bk := D.nx } σ2 H2) (hd : ∀ σ H, Pv xs.length σ H → D.nx σ H) :
    ∃ W : Nat → Nat → L2.St → Hp → Prop, (∃ m, W 0 m σ H) ∧ ∀ i m σ H, W i m σ H →
      ((Ite K a).stop i H ∧ D.nx σ H) ∨ ((Ite K a).go i H ∧ ∃ N : L2.St → Hp → Prop, (∀ σ' H', N σ' H' → ∃ m', m' < m ∧ W (i + 1) m' σ' H') ∧ ∀ x H', (Ite K a).yld i H x H' → g x σ H' fun σ2 H2 => tb { D with nx := N, ct := N, bk := D.nx } σ2 H2) := by
  refine ⟨fun i m σ H => m = xs.length - i ∧ i ≤ xs.length ∧ Pv i σ H, ⟨xs.length, by simp, Nat.zero_le _, h0⟩, ?_⟩
  rintro i m σ H ⟨rfl, hi, hp⟩
  have hL := hl i σ H hi hp
  by_cases e : i = xs.length
  · exact .inl ⟨⟨xs, hL, by omega⟩, hd σ H (by rw [← e]; exact hp)⟩
  · have hlt : i < xs.length := by omega
    refine .inr ⟨⟨xs, xs[i], hL, List.getElem?_eq_getElem hlt⟩, Pv (i + 1), fun σ' H' hq => ⟨_, by omega, rfl, hlt, hq⟩, fun x H' hy => ?_⟩
    obtain ⟨T, y, rfl, hT, rfl, hx⟩ := hy
    exact hs i y T σ H (hx xs hL) hp hT
theorem lc_enum {K : PySem.W.Frag} {a : Addr} {xs : List V} {g : TG} {tt : TT} {te : TE} {vs : List Nat} {σ : L2.St} {H1 : Hp} {D : Addr} {Qd : Hp → Prop} (Pv : Nat → Hp → Prop) (h0 : Pv 0 (upd H1 D (.lst []))) (hl : ∀ i H, i ≤ xs.length → Pv i H → SqL K H a xs)
    (hs : ∀ i x T H, xs[i]? = some x → Pv i H → H T = none → g (.ref T) (wipe σ vs) (upd H T (.tup [.int (i : Nat), x])) fun σ2 H2 => wipe σ2 vs = wipe σ vs ∧ tt σ2 H2 fun b H3 => if b = true then te σ2 H3 fun y H4 => ∃ acc, H4 D = some (.lst acc) ∧ acc.length < sizeLine ∧ Pv (i + 1) (upd H4 D (.lst (acc ++ [y]))) else Pv (i + 1) H3)
    (hd : ∀ H, Pv xs.length H → Qd H) : ∃ W : Nat → Nat → Hp → Prop, (∃ m, W 0 m (upd H1 D (.lst []))) ∧ ∀ i m H, W i m H →
      ((Ite K a).stop i H ∧ Qd H) ∨ ((Ite K a).go i H ∧ ∃ Nx : Hp → Prop, (∀ H', Nx H' → ∃ m', m' < m ∧ W (i + 1) m' H') ∧ ∀ x H', (Ite K a).yld i H x H' → g x (wipe σ vs) H' fun σ2 H2 => wipe σ2 vs = wipe σ vs ∧ tt σ2 H2 fun b H3 =>
        if b = true then te σ2 H3 fun y H4 => ∃ acc, H4 D = some (.lst acc) ∧ acc.length < sizeLine ∧ Nx (upd H4 D (.lst (acc ++ [y]))) else Nx H3) := by
  refine ⟨fun i m H => m = xs.length - i ∧ i ≤ xs.length ∧ Pv i H, ⟨xs.length, by simp, Nat.zero_le _, h0⟩, ?_⟩
  rintro i m H ⟨rfl, hi, hp⟩
  have hL := hl i H hi hp
  by_cases e : i = xs.length
  · exact .inl ⟨⟨xs, hL, by omega⟩, hd H (by rw [← e]; exact hp)⟩
  · have hlt : i < xs.length := by omega
    refine .inr ⟨⟨xs, xs[i], hL, List.getElem?_eq_getElem hlt⟩, Pv (i + 1), fun H' hq => ⟨_, by omega, rfl, hlt, hq⟩, fun x H' hy => ?_⟩
    obtain ⟨T, y, rfl, hT, rfl, hx⟩ := hy
    exact hs i y T H (hx xs hL) hp hT
/-- a dict's entries, the dict locked meanwhile -/
theorem for_items {d : Addr} {od : Obj} {kvs : List (Key × V)} {g : TG} {tb : TS} {D : Ends} {σ : L2.St} {H : Hp} (Pv : Nat → L2.St → Hp → Prop) (h0 : Pv 0 σ H) (hl : ∀ i σ H, i ≤ kvs.length → Pv i σ H → H d = some (.frz od (.dK kvs)))
    (hs : ∀ i k v T σ H, kvs[i]? = some (k, v) → Pv i σ H → H T = none → g (.ref T) σ (upd H T (.tup [kV k, v])) fun σ2 H2 => tb { D with nx := Pv (i + 1), ct := Pv (i + 1), bk := D.nx } σ2 H2) (hd : ∀ σ H, Pv kvs.length σ H → D.nx σ H) :
    ∃ W : Nat → Nat → L2.St → Hp → Prop, (∃ m, W 0 m σ H) ∧ ∀ i m σ H, W i m σ H →
      ((Iti d od kvs).stop i H ∧ D.nx σ H) ∨ ((Iti d od kvs).go i H ∧ ∃ N : L2.St → Hp → Prop, (∀ σ' H', N σ' H' → ∃ m', m' < m ∧ W (i + 1) m' σ' H') ∧ ∀ x H', (Iti d od kvs).yld i H x H' → g x σ H' fun σ2 H2 => tb { D with nx := N, ct := N, bk := D.nx } σ2 H2) := by
  refine ⟨fun i m σ H => m = kvs.length - i ∧ i ≤ kvs.length ∧ Pv i σ H, ⟨kvs.length, by simp, Nat.zero_le _, h0⟩, ?_⟩
  rintro i m σ H ⟨rfl, hi, hp⟩
  have hL := hl i σ H hi hp
  by_cases e : i = kvs.length
  · exact .inl ⟨⟨hL, by omega⟩, hd σ H (by rw [← e]; exact hp)⟩
  · have hlt : i < kvs.length := by omega
    refine .inr ⟨⟨hL, hlt⟩, Pv (i + 1), fun σ' H' hq => ⟨_, by omega, rfl, hlt, hq⟩, fun x H' hy => ?_⟩
    obtain ⟨T, k, v, hk, rfl, hT, rfl⟩ := hy
    exact hs i k v T σ H hk hp hT
/-! ### max(xs, default=d) of whole numbers -/
def rMaxD (K : PySem.W.Frag) : List V → List V → Hp → VK → Prop := fun vs zs H Q => ∃ (a : Addr) (ns : List Int) (d m : Int), vs = [V.ref a] ∧ zs = [V.int d] ∧ SqL K H a (ns.map V.int) ∧ (ns = [] → m = d) ∧ (∀ n r, ns = n :: r → m = r.foldl max n) ∧ Q (.int m) H
theorem depthInts : ∀ ns : List Int, PyData.depthAll (ns.map PyData.int) = 0
  | [] => by simp [PyData.depthAll]
  | n :: r => by simp [PyData.depthAll, PyData.depth, depthInts r]
theorem dpInts {K : PySem.W.Frag} {H : Hp} : ∀ ns : List Int, DpAll K H (ns.map V.int) (ns.map PyData.int)
  | [] => .nil
  | n :: r => .cons (.int n) (dpInts r)
theorem cr_maxD {X : Cx} (hc : X.calm = true) (hu : X.A.units + 64 < cLine) : CallRK X (.builtin "max") [Str.ofString "default"] (rMaxD X.K) := by
  intro pins s σ H vs zs us ws Q I r1 r2 h
  obtain ⟨a, ns, d, m, rfl, rfl, hs, q0, q1, q⟩ := h
  obtain ⟨its, rv, hl, _⟩ := I.list hs
  cases r1 with
  | cons x1 x2 =>
    cases x1
    cases x2
    cases r2 with
    | cons y1 y2 =>
      obtain ⟨td, rfl⟩ := y1
      cases y2
      obtain ⟨as, hr⟩ := Dp.readsAll I (ns.map PyData.int) (ns.map V.int) its (dpInts ns) rv
      have hal : PySem.W.AlikeAll (ns.map PyData.int) := ⟨fun x hx y hy => by
        obtain ⟨i, _, rfl⟩ := List.mem_map.mp hx
        obtain ⟨j, _, rfl⟩ := List.mem_map.mp hy
        rfl, fun x hx => by
        obtain ⟨i, _, rfl⟩ := List.mem_map.mp hx
        intro z
        cases z⟩
      have hun : X.A.units + 1 + PyData.depthAll (ns.map PyData.int) < cLine := by
        rw [depthInts]
        omega
      refine PySem.W.max_list_default (vs := its.toArray) (I.ok.hd hc) hl.isList (by simpa using hr) hal hun (fun e h' tk hk => ?_) (fun y ys i v h' tk bs e hv hrd hk => ?_)
      · have : ns = [] := by simpa using e
        exact ⟨.int d, H, I.kept hk, ⟨_, rfl⟩, by rw [← q0 this]; exact q⟩
      · cases ns with
        | nil => cases e
        | cons n r =>
          rw [List.map_cons] at e
          injection e with e1 e2
          subst e1 e2
          rw [PySem.W.maxD_ints] at hrd
          cases hrd
          exact ⟨.int _, H, I.kept hk, ⟨_, rfl⟩, by rw [← q1 n r rfl]; exact q⟩
end Sw
set_option Elab.async false
set_option maxRecDepth 100000
set_option maxHeartbeats 4000000
namespace PySem
open Sem (wp)
open AutoSeq1 (wpAny_loadPart')
/-! ### enumerate of a tuple, at the library's level -/
theorem meets_enumerate_newT (l : Addr) (items : Array Value) (n : Nat) (dct : Option Addr) (sl : Array (Option Value)) :
    Meets (Builtin.«enumerate.__new__» ⟨[.type "enumerate", .ref l], []⟩) (fun _ R s => s.heap.get? l = some { cls := .type "tuple", dict := dct, data := .seq items n, slots := sl } ∧
      R (.ok (.ret (.ref (s.heap.push { cls := .type "tuple_iterator", data := .fields #[.ref l, .int 0 0] }).objs.size)))
        { s with heap := (s.heap.push { cls := .type "tuple_iterator", data := .fields #[.ref l, .int 0 0] }).push { cls := .type "enumerate", data := .fields #[.none, .bool false, .ref s.heap.objs.size, rawInt 0, .none, .none] } }) :=
  .of_wp fun prog w A R s h => by
    obtain ⟨hp, g, d, tk, os⟩ := s; obtain ⟨hl, h⟩ := h
    have hsub := sub_enumerate
    have hL : Heap.IsTuple (Shared.heap ⟨hp, g, d, tk, os⟩) l items := ⟨_, hl, rfl, n, rfl⟩
    wp_walk using wpAny_loadPart' hl
    refine wpAny_stack_any fun st => wpAny_pure ?_
    split
    · rename_i c _ _ _ _ _
      cases (c == Value.type "enumerate")
      · wp_walk using wpAny_loadPart' hl, wpAny_pyIter_tuple hL
        exact ⟨_, rfl, h⟩
      · wp_walk using wpAny_loadPart' hl, wpAny_pyIter_tuple hL
        exact ⟨_, rfl, h⟩
    · wp_walk using wpAny_loadPart' hl, wpAny_pyIter_tuple hL
      exact ⟨_, rfl, h⟩
section
variable {prog : Program} {w : World} {A : Around} {E : Value → Shared → Prop} {s : Shared}
theorem call_enumerate_tuple {l : Addr} {items : Array Value} {Q : Value → Shared → Prop} (hL : s.heap.IsTuple l items)
    (h : ∀ h', IsEnum h' (s.heap.objs.size + 1) s.heap.objs.size 0 .none → h'.IsTupleIter s.heap.objs.size l 0 → h'.objs.size = s.heap.objs.size + 2 →
      (∀ b o, s.heap.get? b = some o → h'.get? b = some o) → Q (.ref (s.heap.objs.size + 1)) { s with heap := h' }) :
    wpAny (model prog w) A (call (.type "enumerate") [.ref l]) Q E s := by
  obtain ⟨⟨c, dct, dt, sl⟩, hl, hc, n, hd⟩ := hL
  replace hc : c = .type "tuple" := hc
  replace hd : dt = .seq items n := hd
  subst hc hd
  refine callType_new F.called_enumerate (by decide) (F.typeCall_enumerate_1 _) (F.newCall_enumerate_1 _) (fun obj => F.args_object_init_2 obj _) F.entry_enumerate_new
    (meets_enumerate_newT l items n dct sl) ⟨hl, ?_⟩
  have hz : (s.heap.push { cls := .type "tuple_iterator", data := .fields #[.ref l, .int 0 0] }).objs.size = s.heap.objs.size + 1 := Heap.size_push ..
  show _ ∧ _
  rw [hz]
  have he : IsEnum ((s.heap.push { cls := .type "tuple_iterator", data := .fields #[.ref l, .int 0 0] }).push
      { cls := .type "enumerate", data := .fields #[.none, .bool false, .ref s.heap.objs.size, rawInt 0, .none, .none] }) (s.heap.objs.size + 1) s.heap.objs.size 0 .none := by
    have := Heap.get?_push_size (s.heap.push { cls := .type "tuple_iterator", data := .fields #[.ref l, .int 0 0] })
      (o := { cls := .type "enumerate", data := .fields #[.none, .bool false, .ref s.heap.objs.size, rawInt 0, .none, .none] }) rfl
    rw [hz] at this; exact this
  refine ⟨⟨_, he, rfl⟩, h _ he ⟨_, Heap.get?_push_of_some _ (Heap.get?_push_size _ rfl), rfl, rfl⟩ (by rw [Heap.size_push, hz]) fun b o x => Heap.get?_push_of_some _ (Heap.get?_push_of_some _ x)⟩
end
end PySem
namespace Sw
open PySem L2 PySem.Spec PyProof.Rows HT
/-- the tuple at a, each item in a new pair -/
def IteT (K : PySem.W.Frag) (a : Addr) : It :=
  ⟨fun i H => ∃ (xs : List V) (x : V), SqT K H a xs ∧ xs[i]? = some x, fun i H v H' => ∃ T x, v = .ref T ∧ H T = none ∧ H' = upd H T (.tup [.int (i : Nat), x]) ∧ ∀ xs, SqT K H a xs → xs[i]? = some x, fun i H => ∃ xs : List V, SqT K H a xs ∧ xs.length ≤ i⟩
theorem turn_enumT {P : Program} {w : World} {K : PySem.W.Frag} {elts : List Expr} {kk : Nat} {tpos : Pos} (a e it : Addr) :
    Turn P w K (.Tuple elts kk tpos) (IteT K a) [e, it] e (fun i h => (∃ old, IsEnum h e it ((i : Nat) : Int) old) ∧ h.IsTupleIter it a i ∧ e ≠ it ∧ a ≠ it ∧ a ≠ e) where
  mem := by simp
  obj := fun i h st b hb => by
    obtain ⟨⟨old, he⟩, ⟨o, ho, hc, hd⟩, _⟩ := st
    have e' : b = e ∨ b = it := by simpa using hb
    rcases e' with z | z
    · rw [z]; exact ⟨_, he, fun v q => nomatch q⟩
    · rw [z]; exact ⟨o, ho, fun v q => by rw [hd] at q; cases q⟩
  keep := fun i h h' st k => let ⟨⟨old, he⟩, hi, hne⟩ := st; ⟨⟨old, k e (by simp) _ he⟩, hi.at fun o q => k it (by simp) o q, hne⟩
  item := by
    intro X hP hw hK hc i pins s σ H E I hf st hg
    subst hP hw hK
    obtain ⟨⟨old, he⟩, hit, hne, hai, hae⟩ := st
    obtain ⟨xs, x, hq, hx⟩ := hg
    obtain ⟨its, rv, p, hz⟩ := I.tuple hq
    obtain ⟨u, hu, ru⟩ := rv.get hx
    have hel : e < s.heap.objs.size := Heap.lt_size he
    have hil : it < s.heap.objs.size := by obtain ⟨_, q, _⟩ := hit; exact Heap.lt_size q
    have hlt : i < its.toArray.size := by
      have : its[i]? = some u := by simpa using hu
      obtain ⟨q, _⟩ := List.getElem?_eq_some_iff.mp this
      simpa using q
    have D := PySem.Draws.tuple (prog := X.prog) (w := X.w) (A := X.A.in1) (I.ok.hd hc) it a hai its.toArray
    refine wpAny_pyNext_enum_itemD D he ⟨hit, p⟩ hlt hne (by simp [hne, hae.symm]) fun y h' tk hy ho hst' hT hsz hk => ?_
    obtain ⟨hit', hp'⟩ := hst'
    have ey : y = u := by
      have : its.toArray[i]? = some u := by simpa using hu
      rw [this] at hy
      exact (Option.some.inj hy).symm
    subst ey
    refine ⟨_, rfl, wpAny_letOwnedTupleGo_enum (s := { s with heap := h', toks := tk + 1 }) ho fun h'' he' sb => ?_⟩
    have hT2 : h''.get? s.heap.objs.size = some { cls := .type "tuple", data := .seq #[.int i tk, y] } := (sb.2 _ (Nat.ne_of_gt hel)).trans hT
    have new : ObjOk X.prog X.w (upd H s.heap.objs.size (.tup [.int (i : Nat), x])) h'' s.heap.objs.size (.tup [.int (i : Nat), x]) :=
      ⟨by show 2 ≤ sizeLine; decide, [.int i tk, y], .cons ⟨_, rfl⟩ (.cons ru .nil), ⟨_, hT2, rfl, _, rfl⟩⟩
    have I1 : Inv X pins σ (upd H s.heap.objs.size (.tup [.int (i : Nat), x])) { s with heap := h'', toks := tk + 1 } :=
      I.turnedNew (ch := [e, it]) (fun b ob hb q => (sb.2 b (fun z => hb (by simp [z]))).trans (hk b ob (fun z => hb (by simp [z])) (fun z => hb (by simp [z])) q)) hf (Nat.le_refl _) new
    refine ⟨.ref s.heap.objs.size, _, I1, rfl, ⟨_, x, rfl, I.hok.fresh (Nat.le_refl _), rfl, fun ys hy => by rw [I.tuple_inj hy hq]; exact hx⟩, ⟨⟨y, ?_⟩, hit'.at fun o q => (sb.2 it (Ne.symm hne)).trans q, hne, hai, hae⟩, fun b hb => ?_⟩
    · have e1 : ((i + 1 : Nat) : Int) = (i : Int) + 1 := by omega
      rw [e1]; exact he'
    · have hb' : b < s.heap.objs.size := by
        have e' : b = e ∨ b = it := by simpa using hb
        rcases e' with z | z
        · rw [z]; exact hel
        · rw [z]; exact hil
      rw [upd_ne (Nat.ne_of_lt hb')]
      exact (hf b hb).1
  done := by
    intro X hP hw hK hc i pins s σ H E I hf st hg
    subst hP hw hK
    obtain ⟨⟨old, he⟩, hit, hne, hai, hae⟩ := st
    obtain ⟨xs, hq, hx⟩ := hg
    obtain ⟨its, rv, p, hz⟩ := I.tuple hq
    obtain ⟨f0, f1, f2, f3, f4, f5⟩ := hf it (by simp)
    have hl := rv.length
    have hle : xs.length ≤ i := hx
    have D := PySem.Draws.tuple (prog := X.prog) (w := X.w) (A := X.A.in1) (I.ok.hd hc) it a hai its.toArray
    have hT : s.TypeIs (.ref e) "enumerate" := ⟨_, he, rfl⟩
    unfold pyNext
    refine wpAny_bind (wpAny_attempt (wpAny_callSpecial?_slot (name := Str.ofString "__next__") hT F.slot_enumerate_next
      (wpAny_call_entry F.slot_enumerate_next hT F.entry_enumerate_next ?_ (F.args_enumerate_next_1 _))))
    show wpAny _ _ (field (.ref e) 2 >>= _) _ _ _
    refine wpAny_bind (wpAny_field he rfl (x := .ref it) rfl ?_)
    refine wpAny_bind (wpAny_nextOf_tuple_end (I.ok.hd hc) hit p (by simp; omega) fun h' x eb hx' => ?_)
    obtain ⟨o, ho, hc'⟩ := hx'
    refine wpAny_bind (wpAny_isInstance (T := "StopIteration") (b := true) ⟨o, ho, hc'⟩ isSubtype_stop ?_)
    exact wpAny_pure ⟨rfl, I.turned (t' := s.toks) (fun b o hb q => eb b o hb q) f0 f1 f3 f4 f5⟩
  self := fun A i s Q E st h => let ⟨⟨_, he⟩, _⟩ := st; wpAny_pyIter_enum he h
def iEnumT (K : PySem.W.Frag) (ta : TA) : TI := fun σ H R => ta σ H fun vs H1 => ∃ a xs, vs = [.ref a] ∧ SqT K H1 a xs ∧ R (IteT K a) H1
theorem pi_enumT {X : Cx} {e : Expr} {ta : TA} {p pos tpos : Pos} {elts : List Expr} {kk : Nat} (hg : Gl X "enumerate") (hm : X.mg "enumerate" = none) (ha : PA X [e] ta) (hs : starEach [e] X.env = [(false, eval e X.env)] := by rfl) :
    PI X (.Tuple elts kk tpos) (.Call (.Name "enumerate" p) [e] [] pos) (iEnumT X.K ta) := by
  refine ⟨fun pins s σ H R I h => ?_⟩
  refine Call_ (ld_blt I hg hm boot_enumerate (PyProof.Rows.callWith_type1 (thn (ha.run pos pins s σ H _ I h) fun us s1 ⟨vs, H1, I1, r1, q1⟩ => ?_) hs rfl))
  obtain ⟨a, xs, ex, hq, q⟩ := q1
  subst ex
  cases r1 with
  | cons r rr =>
    cases rr
    cases r
    obtain ⟨its, rv, p', hz⟩ := I1.tuple hq
    have hal : a < s1.heap.objs.size := by
      obtain ⟨o, ho, _⟩ := p'
      exact Heap.lt_size ho
    refine call_enumerate_tuple p' fun h' he hit hsz hk => wpAny_pyIter_enum he ?_
    have I2 : Inv X pins σ H1 { s1 with heap := h' } := I1.kept (t' := s1.toks) hk
    refine ⟨s1.heap.objs.size + 1, [s1.heap.objs.size + 1, s1.heap.objs.size], _, _, H1, rfl, I2, turn_enumT a (s1.heap.objs.size + 1) s1.heap.objs.size, ⟨⟨.none, he⟩, hit, Nat.succ_ne_self _, Nat.ne_of_lt hal, Nat.ne_of_lt (Nat.lt_succ_of_lt hal)⟩, fun b hb => ?_, q⟩
    have e' : b = s1.heap.objs.size + 1 ∨ b = s1.heap.objs.size := by simpa using hb
    have hle : s1.heap.objs.size ≤ b := by
      rcases e' with z | z
      · rw [z]; exact Nat.le_add_right _ _
      · rw [z]; exact Nat.le_refl _
    exact I1.fpOk hle (I1.hok.fresh hle)
theorem for_enumT {K : PySem.W.Frag} {a : Addr} {xs : List V} {g : TG} {tb : TS} {D : Ends} {σ : L2.St} {H : Hp} (Pv : Nat → L2.St → Hp → Prop) (h0 : Pv 0 σ H) (hl : ∀ i σ H, i ≤ xs.length → Pv i σ H → SqT K H a xs)
    (hs : ∀ i x T σ H, xs[i]? = some x → Pv i σ H → H T = none → g (.ref T) σ (upd H T (.tup [.int (i : Nat), x])) fun σ2 H2 => tb { D with nx := Pv (i + 1), ct := Pv (i + 1), bk := D.nx } σ2 H2) (hd : ∀ σ H, Pv xs.length σ H → D.nx σ H) :
    ∃ W : Nat → Nat → L2.St → Hp → Prop, (∃ m, W 0 m σ H) ∧ ∀ i m σ H, W i m σ H →
      ((IteT K a).stop i H ∧ D.nx σ H) ∨ ((IteT K a).go i H ∧ ∃ N : L2.St → Hp → Prop, (∀ σ' H', N σ' H' → ∃ m', m' < m ∧ W (i + 1) m' σ' H') ∧ ∀ x H', (IteT K a).yld i H x H' → g x σ H' fun σ2 H2 => tb { D with nx := N, ct := N, bk := D.nx } σ2 H2) := by
  refine ⟨fun i m σ H => m = xs.length - i ∧ i ≤ xs.length ∧ Pv i σ H, ⟨xs.length, by simp, Nat.zero_le _, h0⟩, ?_⟩
  rintro i m σ H ⟨rfl, hi, hp⟩
  have hL := hl i σ H hi hp
  by_cases e : i = xs.length
  · exact .inl ⟨⟨xs, hL, by omega⟩, hd σ H (by rw [← e]; exact hp)⟩
  · have hlt : i < xs.length := by omega
    refine .inr ⟨⟨xs, xs[i], hL, List.getElem?_eq_getElem hlt⟩, Pv (i + 1), fun σ' H' hq => ⟨_, by omega, rfl, hlt, hq⟩, fun x H' hy => ?_⟩
    obtain ⟨T, y, rfl, hT, rfl, hx⟩ := hy
    exact hs i y T σ H (hx xs hL) hp hT
end Sw
set_option Elab.async false
set_option maxRecDepth 100000
set_option maxHeartbeats 4000000
namespace Sw
open PySem L2 PySem.Spec PyProof.Rows
/-! ### repr of any data, where no repr goes on around it -/
def rReprD (K : PySem.W.Frag) : List V → Hp → VK → Prop := fun xs H Q => ∃ v d, xs = [v] ∧ Dp K H v d ∧ d.showable = true ∧ d.hasDict = false ∧ d.depth ≤ 40 ∧ d.shown.length ≤ sizeLine ∧ Q (.str d.shown) H
theorem shown_leaf : (PyData.none).shown = ("None" : Str) ∧ (∀ b, (PyData.bool b).shown = (if b then "True" else "False" : Str)) ∧ (∀ i, (PyData.int i).shown = ((toString i : String) : Str)) ∧ (∀ x, (PyData.str x).shown = reprText x) :=
  ⟨by simp only [PyData.shown], fun b => by simp only [PyData.shown], fun i => by simp only [PyData.shown], fun x => by simp only [PyData.shown]⟩
section
variable {X : Cx}
theorem cr_reprD (hg : X.A.guards = some []) (hu : X.A.units + 64 < cLine) : CallR X (.builtin "repr") (rReprD X.K) := by
  intro pins s σ H xs us Q I r h
  obtain ⟨v, d, rfl, hd, hsh, hnd, hdp, hsz, q⟩ := h
  obtain ⟨u, rfl, ru⟩ := vals1 r
  obtain ⟨l1, l2, l3, l4⟩ := shown_leaf
  have hsm : ∀ as : List Addr, d.hasDict = true → sysModules ∉ as := fun as z => by rw [hnd] at z; cases z
  have far : ∀ a : Addr, u = .ref a → wpAny (model X.prog X.w) X.A (call (.builtin "repr") [u]) (EP X pins σ Q) X.xe s := fun a e => by
    obtain ⟨as, hr⟩ := Dp.reads I d v u hd ru
    subst e
    refine repr_of_reads' (h₀ := s.heap) hr hsh (hsm as) hg (by omega) (fun b o e => e) (fun h' t tk keep => ?_) hsz
    exact ⟨.str d.shown, H, I.kept (t' := tk) keep, ⟨_, rfl⟩, q⟩
  cases hd with
  | non =>
    obtain rfl : u = Value.none := ru
    rw [l1] at q
    exact PySem.P.repr_of_none ⟨.str _, H, I.tok _, ⟨_, rfl⟩, q⟩
  | bl b =>
    obtain rfl : u = Value.bool b := ru
    rw [l2] at q
    exact PySem.P.repr_of_bool ⟨.str _, H, I.tok _, ⟨_, rfl⟩, q⟩
  | int i =>
    obtain ⟨t, rfl⟩ : ∃ t, u = Value.int i t := ru
    rw [l3] at q
    exact PySem.P.repr_of_int (by simpa [PyData.showable] using hsh) ⟨.str _, H, I.tok _, ⟨_, rfl⟩, q⟩
  | str x =>
    obtain ⟨t, rfl⟩ : ∃ t, u = Value.str x t := ru
    rw [l4] at q hsz
    exact PySem.P.repr_of_str ⟨.str _, H, I.tok _, ⟨_, rfl⟩, q⟩ hsz
  | lst h1 h2 => exact far _ ru
  | tup h1 h2 => exact far _ ru
end
/-! ### defs that are called where no repr goes on around them -/
section
variable {P : Program} {w : World} {K : PySem.W.Frag} {mg : Str → Option Value} {base : Heap}
structure FnG (P : Program) (w : World) (K : PySem.W.Frag) (mg : Str → Option Value) (base : Heap) (k : Nat) (f : Addr) (fd : FuncData) (ps : List Str) (sp : Sp) : Prop where
  size : ∀ vs H Q E, sp vs H Q E → vs.length = ps.length
  goes : ∀ {A : Around} {outer : List Env} {s : Shared} {H : Hp} {args : Args} {us : List Value} {vs : List V} {Q : VK} {E : XK}, A.guards = some [] → Room k A → Env0 P w K mg base A outer s H → BindsTo s fd args (ps.zip us) → Vals vs us → sp vs H Q E →
    codeAny (model P w) A (.call (.ref f) args) (CR CX0 outer P w H s Q E) s
theorem FnG.of {k : Nat} {f : Addr} {fd : FuncData} {ps : List Str} {sp : Sp} (F : FnOk P w K mg base CX0 k f fd ps sp) : FnG P w K mg base k f fd ps sp :=
  ⟨F.len, fun {A outer s H args us vs Q E} _ r e b v q => F.run A outer s H args us vs Q E r e b v q⟩
/-- its body, where no repr goes on around it -/
theorem fn_g {k : Nat} {f : Addr} {x : Str} {pa : Arguments} {body : List Stmt} {sc : Scope} {dV kV doc pm cdv ct oc : Value} {an od : Option Addr} {osl : Array (Option Value)} {N ps : List Str} {sp : Sp}
    (lk : K.lookup f = some ⟨oc, od, .func (PySem.W.fnOf x x pa body sc dV kV doc pm an cdv ct), osl⟩) (hcd : PySem.W.codeIn K cdv x = true) (S : FnScope N ps sc) (size : ∀ vs H Q E, sp vs H Q E → vs.length = ps.length)
    (walk : ∀ (A : Around) (outer : List Env) (s : Shared) (H : Hp) (vs : List V) (Q : VK) (E : XK), (A.deeper (envOfC x sc s.heap.objs.size f cdv)).guards = some [] → Room k (A.deeper (envOfC x sc s.heap.objs.size f cdv)) → sp vs H Q E →
      ∃ t, PSs (cxOf CX0 P w K mg base N x sc f cdv A outer s H E) body t ∧ t { nx := fun _ H' => Q .non H', rt := Q } (start N vs) H) :
    FnG P w K mg base (k + 1) f (PySem.W.fnOf x x pa body sc dV kV doc pm an cdv ct) ps sp := by
  refine ⟨size, fun {A outer s H args us vs Q E} hg hr e0 hb r hsp => ?_⟩
  have old : ∀ b o, base.get? b = some o → s.heap.get? b = some o := fun b o e => (e0.bs b o e).1
  have KX := e0.mod.kin.keeps old
  have names : ∀ y ∈ ps.zip us, sc.names.lookup y.1 = some .local ∨ (sc.names.lookup y.1 = some .cell ∧ ((cellsFrom (s.heap.objs.size + 1) sc.names []).lookup y.1).isSome = true) := by
    rintro ⟨n, v⟩ hy
    have hn := S.par n (List.of_mem_zip hy).1
    exact hn.imp id fun q => ⟨q, PySem.W.cellsFrom_some _ _ _ (.inl q)⟩
  refine codeAny_call_function hr.depth (KX _ _ lk) rfl S.co S.gen rfl (PySem.W.codeRec_of KX hcd) (hb _ _ _ _ (wpAny_newFunctionEnv_cells S.kind names fun env he s1 y => ?_))
  subst he
  refine ⟨(e0.mod.nolimit.keeps old).keeps y.toInCall.keep, codeAny_func ?_⟩
  obtain ⟨t, ht, hq⟩ := walk A outer s H vs Q E hg (hr.deeper _) hsp
  have J := inv_start (P := P) (w := w) (mg := mg) (CX := CX0) (E := E) S hr.hd e0 (size _ _ _ _ hsp) r y
  refine wpAny_mono (ht.run [] s1 (start N vs) H _ J hq) (fun fl s' z => ?_) fun e s' z => z
  match fl, z with
  | .ret u, ⟨v, σ', H', J2, rv, q⟩ => exact ⟨v, H', J2.os, J2.bare, J2.base, J2.hok, rv, q⟩
  | .next, ⟨σ', H', J2, q⟩ => exact ⟨V.non, H', J2.os, J2.bare, J2.base, J2.hok, rfl, q⟩
  | .brk, ⟨_, _, _, q⟩ => exact q.elim
  | .cont, ⟨_, _, _, q⟩ => exact q.elim
theorem Fun.okG {x : Str} {st : Stmt} {f : Addr} {fd : FuncData} {N ps : List Str} {k : Nat} {sp : Sp} (F : Fun K x x st f fd) (S : FnScope N ps (defScope st)) (size : ∀ vs H Q E, sp vs H Q E → vs.length = ps.length)
    (walk : ∀ (cdv : Value) (A : Around) (outer : List Env) (s : Shared) (H : Hp) (vs : List V) (Q : VK) (E : XK), (A.deeper (envOfC x (defScope st) s.heap.objs.size f cdv)).guards = some [] → Room k (A.deeper (envOfC x (defScope st) s.heap.objs.size f cdv)) → sp vs H Q E →
      ∃ t, PSs (cxOf CX0 P w K mg base N x (defScope st) f cdv A outer s H E).nox (defBody st) t ∧ t { nx := fun _ H' => Q .non H', rt := Q } (start N vs) H) : FnG P w K mg base (k + 1) f fd ps sp := by
  obtain ⟨oc, od, kV, doc, pm, an, cdv, ct, osl, rfl, lk, hcd⟩ := F.ex
  refine fn_g lk hcd S size fun A outer s H vs Q E hg hr hsp => ?_
  obtain ⟨t, h, q⟩ := walk cdv A outer s H vs Q E hg hr hsp
  exact ⟨t, h.nox, q⟩
/-- a def of the top that is called where no repr goes on around it -/
structure DefG (P : Program) (w : World) (K : PySem.W.Frag) (mg : Str → Option Value) (base : Heap) (x : Str) (k : Nat) (ps : List Str) (sp : Sp) : Prop where
  ex : ∃ f fd, FnG P w K mg base k f fd ps sp ∧ mg x = some (.ref f) ∧ PySem.W.keepIn K (.ref f) = true ∧ Binds K fd ps []
theorem DefAt.okG {x : Str} {st : Stmt} {N ps : List Str} {k : Nat} {sp : Sp} (F : DefAt K mg x st ps) (S : FnScope N ps (defScope st)) (size : ∀ vs H Q E, sp vs H Q E → vs.length = ps.length)
    (walk : ∀ (f : Addr) (cdv : Value) (A : Around) (outer : List Env) (s : Shared) (H : Hp) (vs : List V) (Q : VK) (E : XK), (A.deeper (envOfC x (defScope st) s.heap.objs.size f cdv)).guards = some [] → Room k (A.deeper (envOfC x (defScope st) s.heap.objs.size f cdv)) → sp vs H Q E →
      ∃ t, PSs (cxOf CX0 P w K mg base N x (defScope st) f cdv A outer s H E).nox (defBody st) t ∧ t { nx := fun _ H' => Q .non H', rt := Q } (start N vs) H) : DefG P w K mg base x (k + 1) ps sp := by
  obtain ⟨f, fd, h1, h2, h3⟩ := F.ex
  exact ⟨f, fd, Fun.okG h1 S size (fun cdv A outer s H vs Q E hg hr hs => walk f cdv A outer s H vs Q E hg hr hs), h2, h1.kp, h3⟩
end
section
variable {X : Cx} {x : Str} {k : Nat} {ps : List Str} {sp : Sp} {e : Expr} {es : List Expr} {t : TA} {p pos : Pos}
theorem pe_callG (F : DefG X.prog X.w X.K X.mg X.base x k ps sp) (hgu : X.A.guards = some []) (hr : Room k X.A) (hg : Gl X x) (ha : PA X (e :: es) t) (hdb : (x == ("__debug__" : Str)) = false := by decide)
    (he : starEach (e :: es) X.env = (false, eval e X.env) :: starEach es X.env := by rfl) (hpl : (backTo pos (starEach es X.env)).any (·.1) = false := by rfl) : PE X (.Call (.Name x p) (e :: es) [] pos) (tCall sp [] E0 t) := by
  obtain ⟨f, fd, G, hm, hk, hb⟩ := F.ex
  refine ⟨fun pins s σ H Q I h => wpAny_Call_Name_kw (ld_glob I hg hm ?_ hdb)⟩
  refine PySem.W.callWith_K (h₀ := X.base) I.ok.mod.kin hk (thn (ha.run pos pins s σ H _ I h) fun us s1 ⟨vs, H1, I1, r, q⟩ => ⟨I1.kIn, ?_⟩) he hpl
  have q : sp (vs ++ []) H1 Q E0 := q
  have hl := G.size _ _ _ _ q
  rw [List.append_nil] at hl q
  have hz : (us ++ ([] : List Value)).length = ps.length := by rw [List.append_nil, ← r.length]; exact hl
  have b1 := hb s1 us I1.kIn hz
  rw [List.append_nil] at b1
  refine wpAny_call (codeAny_mono (G.goes hgu hr I1.env0 b1 r q) fun z s' hq => ?_)
  match z, hq with
  | .ok (.ret u), hq => exact I1.after hq
  | .ok .next, hq => exact hq.elim
  | .ok .brk, hq => exact hq.elim
  | .ok .cont, hq => exact hq.elim
  | .error e, hq => exact hq.elim
end
end Sw
set_option Elab.async false
set_option maxRecDepth 100000
set_option maxHeartbeats 4000000
namespace Sw
open PySem L2 PySem.Spec PyProof.Rows GenW
/-! ### the end of a law whose own def asks for reprs -/
theorem law_callG {P : Program} {w : World} {K : PySem.W.Frag} {mg mb : Str → Option Value} {k : Nat} {fa a : Addr} {cs : List (Addr × Addr)} {fd : FuncData} {x : Str} {sp : Sp} {s₁ : Shared} {vs : List Value} {ns : List Int}
    (KX : K.In s₁.heap) (hns : s₁.heap.Ns mainGlobals mg) (hb : s₁.heap.Ns builtinsNs mb) (hbb : ∀ x : Str, x ≠ "__name__" → mb x = bootBuiltins x) (hlim : s₁.heap.NoLimit) (hg : s₁.gens = #[])
    (hT : ∀ p ∈ cs, s₁.heap.get? p.2 = some { cls := .none, data := .fields #[] }) (nT : ∀ p ∈ cs, K.lookup p.2 = none) (C : ∀ p ∈ cs, PySem.W.CodeHd s₁.heap p.1 p.2)
    (hbm : ∃ (bm : Addr) (ob : Obj), mg "__builtins__" = some (.ref bm) ∧ bm ≠ builtinsNs ∧ s₁.heap.get? bm = some ob ∧ ob.cls = .type "module" ∧ ob.dict = some builtinsNs ∧ ob.data = .plain)
    (ha : s₁.heap.get? a = some { cls := .type "list", data := .seq vs.toArray }) (hi : IntsAre vs ns) (hl : ns.length ≤ sizeLine) (hr : Room k callerA)
    (F : ∀ base : Heap, K.In base → base.Ns mainGlobals mg → (∀ p ∈ cs, GxR.TabB base mg p.1 p.2) → FnG P w K mg base k fa fd [x] sp) (hbind : ∀ (s : Shared) (u : Value), BindsTo s fd ⟨[u], []⟩ [(x, u)])
    (hsp : ∀ H : Hp, Tabs cs H → SqL K H a (ns.map V.int) → sp [.ref a] H (fun v H' => v = .bl true ∧ Tabs cs H') fun _ _ _ => False) :
    codeAny (model P w) callerA (.call (.ref fa) ⟨[.ref a], []⟩) (fun r s' => r = .ok (.ret (.bool true)) ∧ OldK s₁.heap s'.heap ∧ s'.os = s₁.os ∧ AllBare s'.gens) s₁ := by
  have rv := vals_ints hi
  have lenV := hi.length
  have isT : ∀ b : Addr, b ∈ cs.map (·.2) → s₁.heap.get? b = some { cls := .none, data := .fields #[] } := fun b hb => by
    obtain ⟨p, hp, e⟩ := List.mem_map.mp hb
    rw [← e]
    exact hT p hp
  have aT : a ∉ cs.map (·.2) := fun z => by
    have q := isT a z
    rw [ha] at q
    have z' : Data.seq vs.toArray _ = Data.fields #[] := congrArg Obj.data (Option.some.inj q)
    cases z'
  have memT : ∀ p ∈ cs, p.2 ∈ cs.map (·.2) := fun p hp => List.mem_map.mpr ⟨p, hp, rfl⟩
  have core : ∀ H : Hp, Tabs cs H → (∀ b, H b = none ∨ b ∈ cs.map (·.2) ∨ ∃ o xs, H b = some (.frz o (.lst xs))) → SqL K H a (ns.map V.int) → HOk P w H s₁.heap → (∀ b, H b ≠ none → b = a ∨ b ∈ cs.map (·.2)) → (H a ≠ none → K.lookup a = none) →
      codeAny (model P w) callerA (.call (.ref fa) ⟨[.ref a], []⟩) (fun r s' => r = .ok (.ret (.bool true)) ∧ OldK s₁.heap s'.heap ∧ s'.os = s₁.os ∧ AllBare s'.gens) s₁ := by
    intro H hH hO hS hok hA hK
    have base_of : ∀ {b : Addr} {o : Obj}, s₁.heap.get? b = some o → H b = none → (hidT s₁.heap H).get? b = some o := fun e n => hidT_get e n
    have noD : ∀ {b : Addr} {o : Obj}, s₁.heap.get? b = some o → (∀ vs n, o.data ≠ .seq vs n) → o.data ≠ .fields #[] → H b = none := fun {b o} e h1 h2 => by
      cases q : H b with
      | none => rfl
      | some u =>
        rcases hA b (by rw [q]; simp) with e' | e'
        · rw [e', ha] at e
          cases e
          exact (h1 _ _ rfl).elim
        · rw [isT b e'] at e
          cases e
          exact (h2 rfl).elim
    have noA : ∀ {b : Addr} {o : Obj} {es : Array DictEntry} {ep : Nat}, s₁.heap.get? b = some o → o.data = .dict es ep → H b = none := fun {b o es ep} e d => by
      refine noD e (fun vs n z => ?_) fun z => ?_
      · rw [d] at z
        cases z
      · rw [d] at z
        cases z
    have nsK : ∀ {b : Addr} {m : Str → Option Value}, s₁.heap.Ns b m → (hidT s₁.heap H).Ns b m := fun {b m} ⟨o, es, ep, e, d, r⟩ => ⟨o, es, ep, base_of e (noA e d), d, r⟩
    have hKb : K.In (hidT s₁.heap H) := fun b o e => base_of (KX b o e) (by
      cases q : H b with
      | none => rfl
      | some u =>
        rcases hA b (by rw [q]; simp) with e' | e'
        · rw [e'] at e q
          rw [hK (by rw [q]; simp)] at e
          cases e
        · obtain ⟨p, hp, ep⟩ := List.mem_map.mp e'
          rw [← ep, nT p hp] at e
          cases e)
    have hM : L2.Mod K mg (hidT s₁.heap H) := ⟨hKb, nsK hns, ⟨mb, nsK hb, hbb⟩, let ⟨mc, h1, h2⟩ := hlim; ⟨mc, nsK h1, h2⟩⟩
    have TB : ∀ p ∈ cs, GxR.TabB (hidT s₁.heap H) mg p.1 p.2 := fun p hp => by
      have hTp := hT p hp
      refine ⟨?_, ?_, fun z => ?_⟩
      · obtain ⟨o, us, file, tf, flags, tg, inF, text, tt, e1, r1, r2, r3, r4, r5, r6, r7, r8, hne⟩ := C p hp
        refine ⟨o, us, file, tf, flags, tg, inF, text, tt, base_of e1 (noD e1 (fun vs n z => ?_) fun z => ?_), r1, r2, r3, r4, r5, r6, r7, r8, hne⟩
        · rw [r2] at z
          cases z
        · rw [r2] at z
          cases z
          simp at r3
      · obtain ⟨bm, ob, b1, b2, b3, b4, b5, b6⟩ := hbm
        have nG : bm ≠ mainGlobals := fun q => by
          obtain ⟨o, es, ep, e, hd, _⟩ := hns
          rw [q, e] at b3
          cases b3
          rw [hd] at b6
          cases b6
        have nP : bm ≠ p.2 := fun q => by
          rw [q, hTp] at b3
          cases b3
          cases b6
        refine ⟨bm, ob, b1, b2, nG, nP, base_of b3 (noD b3 (fun vs n z => ?_) fun z => ?_), b4, b5, b6⟩
        · rw [b6] at z
          cases z
        · rw [b6] at z
          cases z
      · obtain ⟨o, es, ep, e, hd, _⟩ := hns
        rw [z, hTp] at e
        cases e
        cases hd
    have e0 : Env0 P w K mg (hidT s₁.heap H) callerA [] s₁ H := ⟨rfl, hM, fun b o e => of_hidT e, Nat.le_of_eq (hidT_size _ _), trivial, fun b hb => absurd (show b ∈ ([] : List Addr) from hb) (by simp), hok, .of_eq hg⟩
    refine codeAny_mono ((F _ hKb (nsK hns) TB).goes (A := callerA) (args := ⟨[.ref a], []⟩) (us := [.ref a]) (vs := [.ref a]) rfl hr e0 (hbind s₁ (.ref a)) (.cons rfl .nil) (hsp H hH hS)) fun r s' h => ?_
    cases r with
    | error e => exact False.elim h
    | ok fl =>
      cases fl with
      | next => exact False.elim h
      | brk => exact False.elim h
      | cont => exact False.elim h
      | ret u =>
        obtain ⟨v, H', os, bare, un, hok', r', q⟩ := h
        obtain ⟨qv, qT⟩ := q
        subst qv
        obtain rfl : u = Value.bool true := r'
        have stays : ∀ b o, b ∉ cs.map (·.2) → s₁.heap.get? b = some o → s'.heap.get? b = some o := fun b o nb e => by
          cases q : H b with
          | none => exact un.keep b o e q (by intro z; exact absurd (show b ∈ ([] : List Addr) from z) (by simp)) (by simp)
          | some u =>
            rcases hO b with z | z | ⟨ob, xs, z⟩
            · rw [q] at z; cases z
            · exact absurd z nb
            · obtain ⟨e1, _⟩ := hok b _ z
              obtain ⟨e2, _⟩ := hok' b _ (un.frzs b ob _ z)
              rw [e] at e1; cases e1
              exact e2
        have grew : ∀ p ∈ cs, ∃ more : Array Value, s'.heap.get? p.2 = some { cls := .none, data := .fields more } := fun p hp => by
          obtain ⟨⟨ps, z, _⟩, _⟩ := hok' p.2 _ (qT p hp)
          exact ⟨ps, z⟩
        refine ⟨rfl, ⟨fun b o e => ?_, fun b o e => ?_⟩, os, bare⟩
        · by_cases hb : b ∈ cs.map (·.2)
          · obtain ⟨p, hp, ep⟩ := List.mem_map.mp hb
            obtain ⟨more, hm⟩ := grew p hp
            rw [← ep] at e ⊢
            rw [hT p hp] at e
            cases e
            exact .inr (.inl ⟨((C p hp).tab (hT p hp)).isCodeTable, rfl, #[], more, rfl, by rw [Array.empty_append]; exact hm⟩)
          · exact .inl (stays b o hb e)
        · by_cases hb : b ∈ cs.map (·.2)
          · obtain ⟨p, hp, ep⟩ := List.mem_map.mp hb
            obtain ⟨more, hm⟩ := grew p hp
            rw [← ep]
            exact ⟨_, hm⟩
          · exact ⟨o, stays b o hb e⟩
  have tOk : ∀ {H : Hp} {b : Addr}, b ∈ cs.map (·.2) → ObjOk P w H s₁.heap b (TabE b) := fun hb => tabE_ok (isT _ hb) (by trivial)
  cases hk : K.lookup a with
  | some o =>
    have e := KX a o hk
    rw [ha] at e
    cases e
    refine core (fun b => if b ∈ cs.map (·.2) then some (TabE b) else none) (fun p hp => if_pos (memT p hp)) (fun b => ?_) (.inr ⟨_, vs.toArray, _, hk, rfl, rfl, rfl, by rw [List.size_toArray, lenV]; exact hl, by simpa using rv⟩) (fun b u z => ?_) (fun b z => ?_) fun z => absurd (show (if a ∈ cs.map (·.2) then some (TabE a) else none) = none from if_neg aT) z
    · by_cases hb : b ∈ cs.map (·.2)
      · exact .inr (.inl hb)
      · exact .inl (if_neg hb)
    · by_cases hb : b ∈ cs.map (·.2)
      · have z' := (if_pos hb).symm.trans z
        cases z'
        exact tOk hb
      · have z' := (if_neg hb).symm.trans z
        cases z'
    · by_cases hb : b ∈ cs.map (·.2)
      · exact .inr hb
      · exact absurd (if_neg hb) z
  | none =>
    refine core (fun b => if b = a then some (.frz { cls := .type "list", data := .seq vs.toArray } (.lst (ns.map V.int))) else if b ∈ cs.map (·.2) then some (TabE b) else none) (fun p hp => (if_neg (show ¬ p.2 = a from fun z => aT (by rw [← z]; exact memT p hp))).trans (if_pos (memT p hp))) (fun b => ?_)
      (.inl (.inr ⟨{ cls := .type "list", data := .seq vs.toArray }, if_pos rfl⟩)) (fun b u z => ?_) (fun b z => ?_) fun _ => hk
    · by_cases hb : b = a
      · exact .inr (.inr ⟨_, _, if_pos hb⟩)
      · by_cases hb2 : b ∈ cs.map (·.2)
        · exact .inr (.inl hb2)
        · exact .inl ((if_neg hb).trans (if_neg hb2))
    · by_cases hb : b = a
      · have z' := (if_pos hb).symm.trans z
        cases z'
        rw [hb]
        exact ⟨ha, by rw [List.length_map]; exact hl, vs, _, rv, ha⟩
      · have z1 := (if_neg hb).symm.trans z
        by_cases hb2 : b ∈ cs.map (·.2)
        · have z' := (if_pos hb2).symm.trans z1
          cases z'
          exact tOk hb2
        · have z' := (if_neg hb2).symm.trans z1
          cases z'
    · by_cases hb : b = a
      · exact .inl hb
      · by_cases hb2 : b ∈ cs.map (·.2)
        · exact .inr hb2
        · exact absurd ((if_neg hb).trans (if_neg hb2)) z
theorem walk_ofG {l : PySem.W.OpenLaw} {n k : Nat} {q : Program} {loose : List Str} {XP : (Str → Option Value) → Heap → Prop} {YP : World → Heap → Prop} {d : DefRec} {K : Params → PySem.W.Frag} {x : Str}
    (hn : l.most = some n) (hn2 : n ≤ sizeLine) (hdf : d.params.defaults = []) (hr : Room k callerA) (hY : ∀ (w : World) (h : Heap), YP w h → (K w.params).In h)
    (F : ∀ (w : World) (mg : Str → Option Value) (fa : Addr) (h : Heap), (K w.params).In h → h.Ns mainGlobals mg → mg d.name = some (.ref fa) → (∀ x c P, ((recsOf q).any fun e => e.name == x) = true → OwnT (K w.params) h x c P) →
      ∃ (fd : FuncData) (cs : List (Addr × Addr)) (sp : Sp), (∀ p ∈ cs, h.get? p.2 = some { cls := .none, data := .fields #[] }) ∧ (∀ p ∈ cs, (K w.params).lookup p.2 = none) ∧ (∀ p ∈ cs, PySem.W.CodeHd h p.1 p.2) ∧ (∀ (s : Shared) (u : Value), BindsTo s fd ⟨[u], []⟩ [(x, u)]) ∧
        (∀ (H : Hp) (a : Addr) (ns : List Int), ns.length ≤ n → (∀ z ∈ ns, Builtin.Int.intBits z ≤ 1048576) → Tabs cs H → SqL (K w.params) H a (ns.map V.int) → sp [.ref a] H (fun v H' => v = .bl true ∧ Tabs cs H') fun _ _ _ => False) ∧
        ∀ base : Heap, (K w.params).In base → base.Ns mainGlobals mg → (∀ p ∈ cs, GxR.TabB base mg p.1 p.2) → FnG l.prog w (K w.params) mg base k fa fd [x] sp) :
    PySem.W.WalkO q loose XP YP l.row.toRowW d [] (fun f vs => PySem.call f vs) := by
  refine Att.attach_callB hn hdf fun w s₀ s₁ mg mb fa o pm cd doc a vs ns G Y ho hd hcd hmg hobj hints hlen hbits hg => ?_
  have KX := hY w _ Y
  obtain ⟨fd, cs, sp, hT, nT, C, hb, hsp, hF⟩ := F w mg fa _ KX G.T.g hmg fun x c P hrec f o1 fd1 e dd vs1 sl k0 k1 k2 k3 k4 k5 => by
    obtain ⟨dL, hm, hn1⟩ := List.any_eq_true.mp hrec
    have hn2 : dL.name = x := beq_iff_eq.mp hn1
    obtain ⟨a', o', fd', c', P', h1, h2, h3, h4, h5, h6⟩ := G.T.tab dL hm
    have q0 := PySem.W.mg_of KX G.T.g k0
    rw [hn2, q0] at h1
    cases h1
    have g1 := KX _ _ k1
    rw [g1] at h2
    cases h2
    rw [k2] at h3
    cases h3
    rw [k3] at h4
    cases h4
    have h6' := h6
    obtain ⟨⟨oc, vc, e1, _, e3, e4⟩, hP⟩ := h6
    have g2 := KX _ _ k4
    rw [g2] at e1
    cases e1
    cases e3
    rw [k5] at e4
    cases e4
    exact ⟨hP, PySem.W.CodeHd.of h5 h6'⟩
  exact law_callG KX G.T.g G.T.b G.T.builtins G.T.nolimit hg hT nT C G.T.bmain hobj hints (Nat.le_trans hlen hn2) hr hF hb (fun H hH hS => hsp H a ns hlen hbits hH hS)
end Sw
set_option Elab.async false
set_option maxRecDepth 100000
set_option maxHeartbeats 4000000
namespace Sw
open PySem L2 PySem.Spec PyProof.Rows
/-! ### expressions that make data: what they tell where Pre holds of what is known of the heap -/
/-- what is known (G) of the heap (H) grows by new things alone -/
structure Grow (G H G' H' : Hp) : Prop where
  gg : Same G G'
  hh : Same H H'
  gh : Same G' H'
  fr : ∀ a o, H a = some o → G a = none → G' a = none
theorem Grow.rfl' {G H : Hp} (s : Same G H) : Grow G H G H := ⟨Same.refl _, Same.refl _, s, fun _ _ _ h => h⟩
theorem Grow.trans {G H G1 H1 G2 H2 : Hp} (a : Grow G H G1 H1) (b : Grow G1 H1 G2 H2) : Grow G H G2 H2 := ⟨a.gg.trans b.gg, a.hh.trans b.hh, b.gh, fun x o h1 h2 => b.fr x o (a.hh x o h1) (a.fr x o h1 h2)⟩
theorem Grow.new {G H : Hp} {p : Addr} {o : HO} (s : Same G H) (np : H p = none) : Grow G H (upd G p o) (upd H p o) := by
  refine ⟨.new (s.free np), .new np, fun b u e => ?_, fun a u h1 h2 => ?_⟩
  · by_cases q : b = p
    · subst q
      rw [upd_same] at e ⊢
      exact e
    · rw [upd_ne q] at e ⊢
      exact s b u e
  · rw [upd_ne (ne_of_none h1 np)]
    exact h2
section
variable {K : PySem.W.Frag} {σ : L2.St} {Pre : Hp → Prop}
/-- stays while nothing is changed -/
def Stay (Pre : Hp → Prop) : Prop := ∀ {H H' : Hp}, Pre H → Same H H' → Pre H'
def MkD (K : PySem.W.Frag) (σ : L2.St) (Pre : Hp → Prop) (t : TE) (d : PyData) : Prop := ∀ (G H : Hp) (Q : VK), Same G H → Pre G → (∀ G' H' v, Grow G H G' H' → Dp K G' v d → Q v H') → t σ H Q
def MkDs (K : PySem.W.Frag) (σ : L2.St) (Pre : Hp → Prop) (t : TA) (ds : List PyData) : Prop := ∀ (G H : Hp) (Q : List V → Hp → Prop), Same G H → Pre G → (∀ G' H' vs, Grow G H G' H' → DpAll K G' vs ds → Q vs H') → t σ H Q
/-- a list of its own -/
def MkL (K : PySem.W.Frag) (σ : L2.St) (Pre : Hp → Prop) (t : TE) (ds : List PyData) : Prop := ∀ (G H : Hp) (Q : VK), Same G H → Pre G → (∀ G' H' p vs, Grow G H G' H' → H p = none → G' p = none → H' p = some (.lst vs) → DpAll K G' vs ds → Q (.ref p) H') → t σ H Q
/-- a list that stands there -/
def MkR (K : PySem.W.Frag) (σ : L2.St) (Pre : Hp → Prop) (t : TE) (ds : List PyData) : Prop := ∀ (G H : Hp) (Q : VK), Same G H → Pre G → (∀ G' H' p vs, Grow G H G' H' → G' p = some (.lst vs) → DpAll K G' vs ds → Q (.ref p) H') → t σ H Q
theorem MkD.use {t : TE} {d : PyData} (h : MkD K σ Pre t d) {H : Hp} {Q : VK} (hp : Pre H) (k : ∀ H' v, Same H H' → Dp K H' v d → Q v H') : t σ H Q := h H H Q (Same.refl _) hp fun _ H' v g hd => k H' v g.hh (dpS g.gh hd)
theorem MkL.use {t : TE} {ds : List PyData} (h : MkL K σ Pre t ds) {H : Hp} {Q : VK} (hp : Pre H) (k : ∀ H' p vs, Same H H' → H p = none → H' p = some (.lst vs) → DpAll K H' vs ds → Q (.ref p) H') : t σ H Q := h H H Q (Same.refl _) hp fun _ H' p vs g np _ hl hd => k H' p vs g.hh np hl (dpsS g.gh hd)
/-- the list's things are none of the list -/
theorem MkL.useN {t : TE} {ds : List PyData} (h : MkL K σ Pre t ds) {H : Hp} {Q : VK} (hp : Pre H) (k : ∀ G H' p vs, Same H G → Same G H' → H p = none → G p = none → H' p = some (.lst vs) → DpAll K G vs ds → Q (.ref p) H') : t σ H Q := h H H Q (Same.refl _) hp fun G H' p vs g np ng hl hd => k G H' p vs g.gg g.gh np ng hl hd
theorem mk_str {s : Str} : MkD K σ Pre (tC (.str s)) (.str s) := fun G H Q s _ k => k G H _ (.rfl' s) (.str _)
theorem mk_int {i : Int} : MkD K σ Pre (tC (.int i)) (.int i) := fun G H Q s _ k => k G H _ (.rfl' s) (.int _)
theorem mk_non : MkD K σ Pre (tC .non) .none := fun G H Q s _ k => k G H _ (.rfl' s) .non
theorem mk_bl {b : Bool} : MkD K σ Pre (tC (.bl b)) (.bool b) := fun G H Q s _ k => k G H _ (.rfl' s) (.bl _)
theorem mk_neg {t : TE} {i : Int} (h : MkD K σ Pre t (.int i)) : MkD K σ Pre (tUn (rU fun i => .int (-i)) t) (.int (-i)) := fun G H Q s hp k => h G H _ s hp fun G' H' v g hd => by
  cases hd
  exact ⟨i, rfl, k G' H' _ g (.int _)⟩
theorem mk_var {i : Nat} {v : V} {d : PyData} (hv : σ[i]? = some (some v)) (h : ∀ H, Pre H → Dp K H v d) : MkD K σ Pre (tVar i) d := fun G H Q s hp k => ⟨v, hv, k G H v (.rfl' s) (h G hp)⟩
theorem mk_nil : MkDs K σ Pre tNil [] := fun G H Q s _ k => k G H [] (.rfl' s) .nil
theorem mk_cons {t : TE} {ts : TA} {d : PyData} {ds : List PyData} (S : Stay Pre) (a : MkD K σ Pre t d) (b : MkDs K σ Pre ts ds) : MkDs K σ Pre (tCons t ts) (d :: ds) := fun G H Q s hp k =>
  a G H _ s hp fun G1 H1 v g1 hv => b G1 H1 _ g1.gh (S hp g1.gg) fun G2 H2 vs g2 hvs => k G2 H2 (v :: vs) (g1.trans g2) (.cons (dpS g2.gg hv) hvs)
theorem mk_tup {ts : TA} {ds : List PyData} (h : ds.length ≤ 1000) (a : MkDs K σ Pre ts ds) : MkD K σ Pre (tTup ts) (.tuple ds) := fun G H Q s hp k =>
  a G H _ s hp fun G1 H1 vs g1 hvs => ⟨szl (by have := dpsLen hvs; omega), fun p np => k (upd G1 p (.tup vs)) _ _ (g1.trans (.new g1.gh np)) (.tup (sT upd_same) (dpsS (.new (g1.gh.free np)) hvs))⟩
theorem mkl_lst {ts : TA} {ds : List PyData} (h : ds.length ≤ 1000) (a : MkDs K σ Pre ts ds) : MkL K σ Pre (tLst ts) ds := fun G H Q s hp k =>
  a G H _ s hp fun G1 H1 vs g1 hvs => ⟨szl (by have := dpsLen hvs; omega), fun p np => k G1 _ p vs ⟨g1.gg, g1.hh.trans (.new np), g1.gh.trans (.new np), g1.fr⟩ (g1.hh.free np) (g1.gh.free np) upd_same hvs⟩
theorem Grow.put {G H G' H' : Hp} {p : Addr} {o : HO} (g : Grow G H G' H') (np : H p = none) (ng : G' p = none) (hl : H' p = some o) : Grow G H (upd G' p o) H' := by
  refine ⟨g.gg.trans (.new ng), g.hh, fun b u e => ?_, fun a u h1 h2 => ?_⟩
  · by_cases q : b = p
    · subst q
      rw [upd_same] at e
      rw [← e]
      exact hl
    · rw [upd_ne q] at e
      exact g.gh b u e
  · rw [upd_ne (ne_of_none h1 np)]
    exact g.fr a u h1 h2
theorem MkL.r {t : TE} {ds : List PyData} (h : MkL K σ Pre t ds) : MkR K σ Pre t ds := fun G H Q s hp k => h G H Q s hp fun G' H' p vs g np ng hl hd => k (upd G' p (.lst vs)) H' p vs (g.put np ng hl) upd_same (dpsS (.new ng) hd)
theorem MkR.d {t : TE} {ds : List PyData} (h : MkR K σ Pre t ds) : MkD K σ Pre t (.list ds) := fun G H Q s hp k => h G H Q s hp fun G' H' p vs g hl hd => k G' H' _ g (.lst (sL hl) hd)
theorem mk_lst {ts : TA} {ds : List PyData} (h : ds.length ≤ 1000) (a : MkDs K σ Pre ts ds) : MkD K σ Pre (tLst ts) (.list ds) := (mkl_lst h a).r.d
theorem mkr_var {i : Nat} {p : Addr} {ds : List PyData} (hv : σ[i]? = some (some (.ref p))) (h : ∀ H, Pre H → ∃ vs, H p = some (.lst vs) ∧ DpAll K H vs ds) : MkR K σ Pre (tVar i) ds := fun G H Q s hp k =>
  let ⟨vs, h1, h2⟩ := h G hp
  ⟨_, hv, k G H p vs (.rfl' s) h1 h2⟩
/-- xs + ys of lists -/
theorem mkl_cat {t u : TE} {ds es : List PyData} (S : Stay Pre) (hl : ds.length + es.length ≤ 1000) (a : MkR K σ Pre t ds) (b : MkR K σ Pre u es) : MkL K σ Pre (tOp rCat t u) (ds ++ es) := fun G H Q s hp k =>
  a G H _ s hp fun G1 H1 p vs g1 h1 d1 => b G1 H1 _ g1.gh (S hp g1.gg) fun G2 H2 q us g2 h2 d2 => by
    have e1 := dpsLen d1
    have e2 := dpsLen d2
    refine ⟨p, q, vs, us, rfl, rfl, g2.gh _ _ (g2.gg _ _ h1), g2.gh _ _ h2, szl (by omega), fun z nz => ?_⟩
    have ng := g2.gh.free nz
    have g12 := g1.trans g2
    exact k G2 _ z _ ⟨g12.gg, g12.hh.trans (.new nz), g12.gh.trans (.new nz), g12.fr⟩ (g12.hh.free nz) ng upd_same (dpsApp (dpsS g2.gg d1) d2)
/-- t + u of tuples -/
theorem mk_catT {t u : TE} {ds es : List PyData} (S : Stay Pre) (hl : ds.length + es.length ≤ 1000) (a : MkD K σ Pre t (.tuple ds)) (b : MkD K σ Pre u (.tuple es)) : MkD K σ Pre (tOp (rCatA K) t u) (.tuple (ds ++ es)) := fun G H Q s hp k =>
  a G H _ s hp fun G1 H1 v g1 d1 => b G1 H1 _ g1.gh (S hp g1.gg) fun G2 H2 w g2 d2 => by
    obtain ⟨p, vs, rfl, h1, d1⟩ := dpTup d1
    obtain ⟨q, us, rfl, h2, d2⟩ := dpTup d2
    have e1 := dpsLen d1
    have e2 := dpsLen d2
    have d1' := dpsS g2.gg d1
    refine ⟨p, q, vs, us, rfl, rfl, g2.gh.sqT (g2.gg.sqT h1), g2.gh.sqT h2, szl (by omega), fun e => ?_, fun _ e => ?_, fun _ _ z nz => ?_⟩
    · subst e
      cases d1'
      exact k G2 H2 _ (g1.trans g2) (.tup h2 d2)
    · subst e
      cases d2
      exact k G2 H2 _ (g1.trans g2) (by rw [List.append_nil]; exact .tup (g2.gg.sqT h1) d1')
    · have ng := g2.gh.free nz
      exact k (upd G2 z (.tup (vs ++ us))) _ _ (g1.trans (g2.trans (.new g2.gh nz))) (.tup (sT upd_same) (dpsApp (dpsS (.new ng) d1') (dpsS (.new ng) d2)))
/-- t[lo:] of a tuple, lo written, not above the length and not 0 -/
theorem mk_fromT {t : TE} {ds : List PyData} {n : Nat} (h0 : 0 < n) (hn : n ≤ ds.length) (a : MkD K σ Pre t (.tuple ds)) : MkD K σ Pre (tSl (rSlA K) t (tPart (tC (.int (n : Int)))) tNoPart) (.tuple (ds.drop n)) := fun G H Q s hp k =>
  a G H _ s hp fun G1 H1 v g1 d1 => by
    obtain ⟨p, vs, rfl, h1, d1⟩ := dpTup d1
    have e1 := dpsLen d1
    refine ⟨_, rfl, p, vs, rfl, g1.gh.sqT h1, fun e => ?_, fun _ z nz => ?_⟩
    · have e := e.1
      rw [HT.sIx_nat] at e
      omega
    · have ec : cutV vs (some (n : Int)) none = vs.drop n := by
        unfold cutV
        rw [HT.sIx_nat, HT.sIx_none, Nat.min_eq_left (by omega), List.take_of_length_le (by rw [List.length_drop]; exact Nat.le_refl _)]
      refine k (upd G1 z (.tup (cutV vs (some (n : Int)) none))) _ _ (g1.trans (.new g1.gh nz)) (.tup (sT upd_same) ?_)
      rw [ec]
      have dr : ∀ (m : Nat) {ws : List V} {es : List PyData}, DpAll K (upd G1 z (.tup (vs.drop n))) ws es → DpAll K (upd G1 z (.tup (vs.drop n))) (ws.drop m) (es.drop m) := by
        intro m
        induction m with
        | zero => intro ws es h; exact h
        | succ m ih =>
          intro ws es h
          cases h with
          | nil => rw [List.drop_nil, List.drop_nil]; exact .nil
          | cons a b => exact ih b
      exact dr n (dpsS (.new (g1.gh.free nz)) d1)
/-- a pick out of a list -/
theorem mk_ixL {t u : TE} {ds : List PyData} {i : Int} {j : Nat} {d : PyData} (S : Stay Pre) (a : MkR K σ Pre t ds) (b : MkD K σ Pre u (.int i)) (e : i = (j : Int)) (hd : ds[j]? = some d) : MkD K σ Pre (tOp (rIxL K) t u) d := fun G H Q s hp k =>
  a G H _ s hp fun G1 H1 p vs g1 h1 d1 => b G1 H1 _ g1.gh (S hp g1.gg) fun G2 H2 w g2 d2 => by
    cases d2
    obtain ⟨v, hv, hvd⟩ := dpsAt d1 hd
    exact ⟨p, vs, i, v, rfl, rfl, sL (g2.gh _ _ (g2.gg _ _ h1)), at_of e hv, k G2 H2 v (g1.trans g2) (dpS g2.gg hvd)⟩
theorem mk_ixT {t u : TE} {ds : List PyData} {i : Int} {j : Nat} {d : PyData} (S : Stay Pre) (a : MkD K σ Pre t (.tuple ds)) (b : MkD K σ Pre u (.int i)) (e : i = (j : Int)) (hd : ds[j]? = some d) : MkD K σ Pre (tOp (rIxT K) t u) d := fun G H Q s hp k =>
  a G H _ s hp fun G1 H1 p g1 d1 => b G1 H1 _ g1.gh (S hp g1.gg) fun G2 H2 w g2 d2 => by
    cases d2
    obtain ⟨q, vs, rfl, h1, d1⟩ := dpTup d1
    obtain ⟨v, hv, hvd⟩ := dpsAt d1 hd
    exact ⟨q, vs, i, v, rfl, rfl, g2.gh.sqT (g2.gg.sqT h1), at_of e hv, k G2 H2 v (g1.trans g2) (dpS g2.gg hvd)⟩
/-- numbers -/
theorem mk_i0 {t u : TE} {a b : Int} {g : Int → Int → Int} (S : Stay Pre) (ha : MkD K σ Pre t (.int a)) (hb : MkD K σ Pre u (.int b)) : MkD K σ Pre (tOp (rI0 fun i j => .int (g i j)) t u) (.int (g a b)) := fun G H Q s hp k =>
  ha G H _ s hp fun G1 H1 v g1 d1 => hb G1 H1 _ g1.gh (S hp g1.gg) fun G2 H2 w g2 d2 => by
    cases d1
    cases d2
    exact ⟨a, b, rfl, rfl, k G2 H2 _ (g1.trans g2) (.int _)⟩
theorem mk_iC {t u : TE} {a b : Int} {C : Int → Int → Prop} {g : Int → Int → Int} (S : Stay Pre) (ha : MkD K σ Pre t (.int a)) (hb : MkD K σ Pre u (.int b)) (hC : C a b) : MkD K σ Pre (tOp (rI C fun i j => .int (g i j)) t u) (.int (g a b)) := fun G H Q s hp k =>
  ha G H _ s hp fun G1 H1 v g1 d1 => hb G1 H1 _ g1.gh (S hp g1.gg) fun G2 H2 w g2 d2 => by
    cases d1
    cases d2
    exact ⟨a, b, rfl, rfl, hC, k G2 H2 _ (g1.trans g2) (.int _)⟩
/-- [e for x in xs], x in slot i: J is the walk's own reading -/
theorem mkl_walk {te : TE} {i : Nat} {own : List Nat} {es : List PyData} {F : PyData → PyData} {G1 H1 : Hp} {vs : List V} {D : Addr} {Qd : Hp → Prop} (S : Stay Pre) (hl : es.length ≤ 1000) (hw : ∀ x : V, wipe ((wipe σ own).set i (some x)) own = wipe σ own)
    (he : ∀ (x : V) (d : PyData), d ∈ es → MkD K ((wipe σ own).set i (some x)) (fun H => Pre H ∧ Dp K H x d) te (F d)) (s1 : Same G1 H1) (hp : Pre G1) (d1 : DpAll K G1 vs es) (nD : H1 D = none)
    (k : ∀ G' H' us, Grow G1 H1 G' H' → G' D = none → H' D = some (.lst us) → DpAll K G' us (es.map F) → Qd H') :
    ∃ Pv : Nat → Hp → Prop, Pv 0 (upd H1 D (.lst [])) ∧ (∀ j H', Pv j H' → Same H1 H') ∧ (∀ j x H', vs[j]? = some x → Pv j H' → gName i x (wipe σ own) H' fun σ2 H2 => wipe σ2 own = wipe σ own ∧ tYes σ2 H2 fun b H3 => if b = true then te σ2 H3 fun y H4 => ∃ acc, H4 D = some (.lst acc) ∧ acc.length < sizeLine ∧ Pv (j + 1) (upd H4 D (.lst (acc ++ [y]))) else Pv (j + 1) H3) ∧ (∀ H', Pv vs.length H' → Qd H') := by
  have hlen := dpsLen d1
  have nG := s1.free nD
  refine ⟨fun j H' => ∃ us G', Same G1 G' ∧ Same H1 H' ∧ Same G' H' ∧ G' D = none ∧ (∀ a o, H1 a = some o → G1 a = none → G' a = none) ∧ H' D = some (.lst us) ∧ DpAll K G' us ((es.take j).map F),
    ⟨[], G1, Same.refl _, .new nD, s1.mut nG, nG, fun _ _ _ h => h, upd_same, .nil⟩, fun j H' ⟨us, G', _, h, _⟩ => h, ?_, ?_⟩
  · rintro j x H2 hx ⟨us, G2, gg, hh, gh, nD2, fr, hD, hus⟩
    obtain ⟨d, hd, hxd⟩ := dpsAtV d1 hx
    refine ⟨hw x, ?_⟩
    refine he x d (List.mem_of_getElem? hd) G2 H2 _ gh ⟨S hp gg, dpS gg hxd⟩ fun G3 H3 y g3 hy => ?_
    have hD3 := g3.hh _ _ hD
    have nD3 : G3 D = none := g3.fr D _ hD nD2
    have hul := dpsLen hus
    rw [List.length_map, List.length_take] at hul
    refine ⟨us, hD3, szb (by omega), us ++ [y], G3, gg.trans g3.gg, (hh.trans g3.hh).mut nD, g3.gh.mut nD3, nD3, fun a o h1 h2 => g3.fr a o (hh a o h1) (fr a o h1 h2), upd_same, ?_⟩
    rw [List.take_add_one, hd, Option.toList_some, List.map_append]
    exact dpsApp (dpsS g3.gg hus) (.cons hy .nil)
  · rintro H2 ⟨us, G2, gg, hh, gh, nD2, fr, hD, hus⟩
    rw [hlen, List.take_length] at hus
    exact k G2 H2 us ⟨gg, hh, gh, fr⟩ nD2 hD hus
theorem mkl_comp {tl te : TE} {i : Nat} {own : List Nat} {es : List PyData} {F : PyData → PyData} (S : Stay Pre) (hl : es.length ≤ 1000) (a : MkR K σ Pre tl es) (hw : ∀ x : V, wipe ((wipe σ own).set i (some x)) own = wipe σ own)
    (he : ∀ (x : V) (d : PyData), d ∈ es → MkD K ((wipe σ own).set i (some x)) (fun H => Pre H ∧ Dp K H x d) te (F d)) : MkL K σ Pre (tLc (iList K tl) (gName i) tYes te own) (es.map F) := fun G H Q s hp k =>
  a G H _ s hp fun G1 H1 p vs g1 h1 d1 => by
    refine ⟨p, rfl, ⟨vs, sL (g1.gh _ _ h1)⟩, fun D nD => ?_⟩
    obtain ⟨Pv, p0, ps, pt, pd⟩ := mkl_walk (Qd := fun H' => Q (.ref D) H') S hl hw he g1.gh (S hp g1.gg) d1 nD fun G' H' us g ng hD hd => k G' H' D us (g1.trans g) (g1.hh.free nD) ng hD hd
    exact lc_list (K := K) (a := p) (xs := vs) Pv p0 (fun j H' _ h => sL (ps j H' h _ _ (g1.gh _ _ h1))) pt pd
theorem mkl_compT {tl te : TE} {i : Nat} {own : List Nat} {es : List PyData} {F : PyData → PyData} (S : Stay Pre) (hl : es.length ≤ 1000) (a : MkD K σ Pre tl (.tuple es)) (hw : ∀ x : V, wipe ((wipe σ own).set i (some x)) own = wipe σ own)
    (he : ∀ (x : V) (d : PyData), d ∈ es → MkD K ((wipe σ own).set i (some x)) (fun H => Pre H ∧ Dp K H x d) te (F d)) : MkL K σ Pre (tLc (iTup K tl) (gName i) tYes te own) (es.map F) := fun G H Q s hp k =>
  a G H _ s hp fun G1 H1 v g1 d0 => by
    obtain ⟨p, vs, rfl, h1, d1⟩ := dpTup d0
    refine ⟨p, rfl, ⟨vs, g1.gh.sqT h1⟩, fun D nD => ?_⟩
    obtain ⟨Pv, p0, ps, pt, pd⟩ := mkl_walk (Qd := fun H' => Q (.ref D) H') S hl hw he g1.gh (S hp g1.gg) d1 nD fun G' H' us g ng hD hd => k G' H' D us (g1.trans g) (g1.hh.free nD) ng hD hd
    exact lc_tup (K := K) (a := p) (xs := vs) Pv p0 (fun j H' _ h => (ps j H' h).sqT (g1.gh.sqT h1)) pt pd
/-- list(t) of a tuple -/
theorem mkl_listOf {t : TE} {ds : List PyData} (a : MkD K σ Pre t (.tuple ds)) : MkL K σ Pre (tCB (fun xs H Q => ∃ p ys, xs = [V.ref p] ∧ (SqL K H p ys ∨ SqT K H p ys) ∧ ∀ l, H l = none → Q (V.ref l) (upd H l (HO.lst ys))) (tCons t tNil)) ds := fun G H Q s hp k =>
  a G H _ s hp fun G1 H1 v g1 d1 => by
    obtain ⟨p, vs, rfl, h1, d1⟩ := dpTup d1
    exact ⟨p, vs, rfl, .inr (g1.gh.sqT h1), fun l nl => k G1 _ l vs ⟨g1.gg, g1.hh.trans (.new nl), g1.gh.trans (.new nl), g1.fr⟩ (g1.hh.free nl) (g1.gh.free nl) upd_same d1⟩
/-- t[:-1] of a tuple, not empty -/
theorem dps_take {H : Hp} : ∀ (m : Nat) {ws : List V} {es : List PyData}, DpAll K H ws es → DpAll K H (ws.take m) (es.take m)
  | 0, _, _, _ => .nil
  | m + 1, _, _, .nil => by rw [List.take_nil, List.take_nil]; exact .nil
  | m + 1, _, _, .cons a b => .cons a (dps_take m b)
theorem mk_butLastT {t : TE} {ds : List PyData} (h0 : 0 < ds.length) (a : MkD K σ Pre t (.tuple ds)) : MkD K σ Pre (tSl (rSlA K) t tNoPart (tPart (tUn (rU fun i => .int (-i)) (tC (.int 1))))) (.tuple (ds.take (ds.length - 1))) := fun G H Q s hp k =>
  a G H _ s hp fun G1 H1 v g1 d1 => by
    obtain ⟨p, vs, rfl, h1, d1⟩ := dpTup d1
    have e1 := dpsLen d1
    have es : HT.sIx vs.length vs.length (some (-1)) = vs.length - 1 := by
      unfold HT.sIx
      first | (simp; omega) | (simp only []; split <;> omega) | omega
    refine ⟨_, rfl, _, rfl, p, vs, rfl, g1.gh.sqT h1, fun e => ?_, fun _ z nz => ?_⟩
    · have e := e.2
      rw [es] at e
      omega
    · have ec : cutV vs none (some (-1)) = vs.take (vs.length - 1) := by
        unfold cutV
        rw [es, HT.sIx_none, List.drop_zero, Nat.sub_zero]
      refine k (upd G1 z (.tup (cutV vs none (some (-1))))) _ _ (g1.trans (.new g1.gh nz)) (.tup (sT upd_same) ?_)
      rw [ec, e1]
      exact dps_take _ (dpsS (.new (g1.gh.free nz)) d1)
/-! ### statements that store what is made -/
theorem sq_mk {te : TE} {d : PyData} {i : Nat} {r : TS} {D : Ends} {H : Hp} (m : MkD K σ Pre te d) (hp : Pre H) (k : ∀ H1 v, Same H H1 → Dp K H1 v d → r D (σ.set i (some v)) H1) : tSeq (tAsg te (gName i)) r D σ H := m.use hp k
theorem sq_mkl {te : TE} {ds : List PyData} {i : Nat} {r : TS} {D : Ends} {H : Hp} (m : MkL K σ Pre te ds) (hp : Pre H) (k : ∀ G H1 p vs, Same H G → Same G H1 → H p = none → G p = none → H1 p = some (.lst vs) → DpAll K G vs ds → r D (σ.set i (some (.ref p))) H1) : tSeq (tAsg te (gName i)) r D σ H := m.useN hp k
theorem rt_mk {te : TE} {d : PyData} {D : Ends} {H : Hp} (m : MkD K σ Pre te d) (hp : Pre H) (k : ∀ H1 v, Same H H1 → Dp K H1 v d → D.rt v H1) : tRet te D σ H := m.use hp k
theorem stay_dp {v : V} {d : PyData} : Stay fun H => Dp K H v d := fun h s => dpS s h
theorem stay_ls {p : Addr} {ds : List PyData} : Stay fun H => ∃ vs, H p = some (.lst vs) ∧ DpAll K H vs ds := fun ⟨vs, h1, h2⟩ s => ⟨vs, s _ _ h1, dpsS s h2⟩
theorem stay_and {A B : Hp → Prop} (a : Stay A) (b : Stay B) : Stay fun H => A H ∧ B H := fun h s => ⟨a h.1 s, b h.2 s⟩
theorem stay_true : Stay fun _ => True := fun _ _ => trivial
end
end Sw
set_option Elab.async false
set_option maxRecDepth 100000
set_option maxHeartbeats 4000000
namespace Sw
open PySem L2 PySem.Spec PyProof.Rows
def top (i : Nat) : Stmt := PySem.Challenge.pw_soleway_k10_is_it_a_reading.main.body.getD i (.Pass ⟨0, 0, 0, 0⟩)
abbrev s_parts_of : Stmt := top 1
abbrev s_laid : Stmt := top 2
abbrev s_emptiness : Stmt := top 3
abbrev s_may_be_empty : Stmt := top 4
abbrev s_fewest_rounds : Stmt := top 5
abbrev s_is_whole : Stmt := top 7
abbrev s_may_nothing : Stmt := top 8
abbrev s_is_reading : Stmt := top 10
abbrev s_fits : Stmt := top 11
abbrev s_are_pairs : Stmt := top 12
abbrev s_is_number : Stmt := top 13
abbrev s_inner : Stmt := top 14
abbrev s_leaves_read : Stmt := top 15
abbrev s_law_cell : Stmt := top 17
abbrev s_law_sign : Stmt := top 18
abbrev s_law_times : Stmt := top 19
abbrev s_law_form : Stmt := top 20
abbrev s_law_nothing : Stmt := top 21
abbrev s_law_bent_row : Stmt := top 22
abbrev s_law_read : Stmt := top 23
abbrev s_law_often : Stmt := top 24
abbrev s_law_least : Stmt := top 25
abbrev s_law_odd : Stmt := top 26
abbrev s_law_bent : Stmt := top 27
abbrev s_law_taken : Stmt := top 28
abbrev s_law_row_taken : Stmt := top 29
abbrev s_law_put : Stmt := top 30
abbrev s_law_due : Stmt := top 31
abbrev s_law : Stmt := top 32
end Sw
set_option Elab.async false
set_option maxRecDepth 100000
set_option maxHeartbeats 4000000
namespace Sw
open PySem L2 PySem.Spec PyProof.Rows
section
variable {P : Program} {w : World} {K : PySem.W.Frag} {mg : Str → Option Value} {base : Heap}
abbrev n_parts_of : List Str := ["form"]
theorem sc_parts_of : FnScope n_parts_of ["form"] (defScope s_parts_of) := ⟨rfl, rfl, rfl, by decide +kernel, rfl, by decide +kernel, by decide +kernel⟩
def spParts (K : PySem.W.Frag) : Sp := fun vs H Q _ => ∃ v f, vs = [v] ∧ FmAt K H v f ∧ ∀ H' a ws, Same H H' → SqT K H' a ws → FmsAt K H' ws f.parts → Q (.ref a) H'
theorem kindNe {f : Fm} {x y : Str} (h : f.kind = x) (n : ¬ x = y) : decide (V.str f.kind = V.str y) = false := decide_eq_false fun e => n (by rw [← h]; exact V.str.inj e)
theorem ok_parts_of (F : DefAt K mg "parts_of" s_parts_of ["form"]) : DefOk P w K mg base "parts_of" 1 ["form"] (spParts K) := by
  refine F.ok sc_parts_of (fun vs H Q E h => ?_) (fun f cdv A outer s H vs Q E hr h => ?_)
  · obtain ⟨v, f, rfl, _⟩ := h
    rfl
  obtain ⟨v, f, rfl, hf, k⟩ := h
  refine ⟨_, (pss_cons (ps_if (pt_cmpR op_eq (pe_ix ix_tup (pv 0) pe_int (fun _ _ => rfl)) pe_str (nomark _)) (pss_one (ps_ret (pe_tup pa_nil))) pss_nil)
    (pss_cons (ps_if (pt_cmpR op_eq (pe_ix ix_tup (pv 0) pe_int (fun _ _ => rfl)) pe_str (nomark _)) (pss_one (ps_ret (pe_tup (pa_cons (pe_ix ix_tup (pv 0) pe_int (fun _ _ => rfl)) pa_nil)))) pss_nil)
    (pss_one (ps_ret (pe_ix ix_tup (pv 0) pe_int (fun _ _ => rfl)))))), ?_⟩
  cases f with
  | sign s =>
    obtain ⟨a, rfl, ht⟩ := fmSign hf
    refine ⟨_, rfl, a, _, 0, _, rfl, rfl, ht, atI_nat (j := 0) rfl, rfl, _, rfl, ?_⟩
    refine iteT ?_
    refine ⟨(by show 0 ≤ sizeLine; decide), fun p hp => ?_⟩
    exact k _ p [] (.new hp) (sT upd_same) .nil
  | row ps =>
    obtain ⟨a, b, vs, rfl, ht, hb, hv⟩ := fmRow hf
    refine ⟨_, rfl, a, _, 0, _, rfl, rfl, ht, atI_nat (j := 0) rfl, rfl, _, rfl, ?_⟩
    refine iteF ?_
    refine ⟨_, rfl, a, _, 0, _, rfl, rfl, ht, atI_nat (j := 0) rfl, rfl, _, rfl, ?_⟩
    refine iteF ?_
    refine ⟨_, rfl, a, _, 1, _, rfl, rfl, ht, atI_nat (j := 1) rfl, ?_⟩
    exact k _ b vs (Same.refl _) hb hv
  | pick ps =>
    obtain ⟨a, b, vs, rfl, ht, hb, hv⟩ := fmPick hf
    refine ⟨_, rfl, a, _, 0, _, rfl, rfl, ht, atI_nat (j := 0) rfl, rfl, _, rfl, ?_⟩
    refine iteF ?_
    refine ⟨_, rfl, a, _, 0, _, rfl, rfl, ht, atI_nat (j := 0) rfl, rfl, _, rfl, ?_⟩
    refine iteF ?_
    refine ⟨_, rfl, a, _, 1, _, rfl, rfl, ht, atI_nat (j := 1) rfl, ?_⟩
    exact k _ b vs (Same.refl _) hb hv
  | times p low high =>
    obtain ⟨a, u, rfl, ht, hp⟩ := fmTimes hf
    refine ⟨_, rfl, a, _, 0, _, rfl, rfl, ht, atI_nat (j := 0) rfl, rfl, _, rfl, ?_⟩
    refine iteF ?_
    refine ⟨_, rfl, a, _, 0, _, rfl, rfl, ht, atI_nat (j := 0) rfl, rfl, _, rfl, ?_⟩
    refine iteT ?_
    refine ⟨_, rfl, a, _, 1, _, rfl, rfl, ht, atI_nat (j := 1) rfl, (by show 1 ≤ sizeLine; decide), fun q hq => ?_⟩
    exact k _ q [u] (.new hq) (sT upd_same) (.cons (dpS (.new hq) hp) .nil)
end
end Sw
set_option Elab.async false
set_option maxRecDepth 100000
set_option maxHeartbeats 4000000
namespace Sw
open PySem L2 PySem.Spec PyProof.Rows
/-! ### the pieces of a form, laid -/
mutual
def Fm.size : Fm → Nat
  | .sign _ => 1
  | .row ps => 1 + Fm.sizes ps
  | .pick ps => 1 + Fm.sizes ps
  | .times p _ _ => 1 + p.size
def Fm.sizes : List Fm → Nat
  | [] => 0
  | p :: ps => p.size + Fm.sizes ps
end
theorem Fm.size_eq (f : Fm) : f.size = 1 + Fm.sizes f.parts := by
  cases f <;> simp [Fm.size, Fm.parts, Fm.sizes]
theorem Fm.size_pos (f : Fm) : 0 < f.size := by rw [Fm.size_eq]; omega
def starts : List Fm → Nat → List Nat
  | [], _ => []
  | p :: ps, n => n :: starts ps (n + p.size)
mutual
def laidF : Fm → Nat → List (Fm × List Nat)
  | .sign s, _ => [(.sign s, [])]
  | .row ps, n => (.row ps, starts ps (n + 1)) :: laidFs ps (n + 1)
  | .pick ps, n => (.pick ps, starts ps (n + 1)) :: laidFs ps (n + 1)
  | .times p l h, n => (.times p l h, [n + 1]) :: laidF p (n + 1)
def laidFs : List Fm → Nat → List (Fm × List Nat)
  | [], _ => []
  | p :: ps, n => laidF p n ++ laidFs ps (n + p.size)
end
theorem laidF_eq (f : Fm) (n : Nat) : laidF f n = (f, starts f.parts (n + 1)) :: laidFs f.parts (n + 1) := by
  cases f <;> simp [laidF, Fm.parts, starts, laidFs]
mutual
theorem laidF_length : ∀ (f : Fm) (n : Nat), (laidF f n).length = f.size
  | .sign s, n => by simp [laidF, Fm.size]
  | .row ps, n => by simp [laidF, Fm.size, laidFs_length ps]; omega
  | .pick ps, n => by simp [laidF, Fm.size, laidFs_length ps]; omega
  | .times p l h, n => by simp [laidF, Fm.size, laidF_length p]; omega
theorem laidFs_length : ∀ (ps : List Fm) (n : Nat), (laidFs ps n).length = Fm.sizes ps
  | [], n => by simp [laidFs, Fm.sizes]
  | p :: ps, n => by simp [laidFs, Fm.sizes, laidF_length p, laidFs_length ps]
end
abbrev Lay := List (Fm × List Nat)
def addk (n : Nat) (t : Fm × List Nat) : Fm × List Nat := (t.1, t.2 ++ [n])
/-- what comes of the pieces told and the pieces ahead -/
def comp : Lay → List (Fm × Nat) → Lay
  | T, [] => T
  | T, (p, ar) :: S => comp (T.modify ar (addk T.length) ++ laidF p T.length) S
theorem modify_mid {α : Type} (A B : List α) (x : α) (f : α → α) : (A ++ x :: B).modify A.length f = A ++ f x :: B := by
  induction A with
  | nil => rfl
  | cons a A ih => simp [List.modify_succ_cons, ih]
theorem comp_parts (p : Fm) (n : Nat) (T0 : Lay) (h0 : T0.length = n) : ∀ (ps : List Fm) (ks : List Nat) (R : Lay) (S : List (Fm × Nat)),
    comp (T0 ++ (p, ks) :: R) (ps.map (fun q => (q, n)) ++ S) = comp (T0 ++ (p, ks ++ starts ps (n + 1 + R.length)) :: (R ++ laidFs ps (n + 1 + R.length))) S
  | [], ks, R, S => by simp [starts, laidFs]
  | q :: qs, ks, R, S => by
    have hl : (T0 ++ (p, ks) :: R).length = n + 1 + R.length := by simp [h0]; omega
    show comp ((T0 ++ (p, ks) :: R).modify n (addk (T0 ++ (p, ks) :: R).length) ++ laidF q (T0 ++ (p, ks) :: R).length) (qs.map (fun q => (q, n)) ++ S) = _
    have e : (T0 ++ (p, ks) :: R).modify n (addk (n + 1 + R.length)) = T0 ++ (p, ks ++ [n + 1 + R.length]) :: R := by
      rw [← h0, modify_mid]
      rfl
    rw [hl, e, List.append_assoc, List.cons_append, comp_parts p n T0 h0 qs]
    have l2 : n + 1 + (R ++ laidF q (n + 1 + R.length)).length = n + 1 + R.length + q.size := by rw [List.length_append, laidF_length]; omega
    rw [l2]
    simp [starts, laidFs, List.append_assoc]
theorem comp_step (T : Lay) (p : Fm) (ar : Nat) (S : List (Fm × Nat)) : comp T ((p, ar) :: S) = comp (T.modify ar (addk T.length) ++ [(p, [])]) (p.parts.map (fun q => (q, T.length)) ++ S) := by
  have h := comp_parts p T.length (T.modify ar (addk T.length)) (by simp) p.parts [] [] S
  rw [h]
  show comp (T.modify ar (addk T.length) ++ laidF p T.length) S = _
  rw [laidF_eq]
  simp
theorem comp_length : ∀ (T : Lay) (S : List (Fm × Nat)), (comp T S).length = T.length + Fm.sizes (S.map (·.1))
  | T, [] => by simp [comp, Fm.sizes]
  | T, (p, ar) :: S => by
    rw [comp, comp_length _ S]
    simp [laidF_length, Fm.sizes]
    omega
theorem sizes_append : ∀ (a b : List Fm), Fm.sizes (a ++ b) = Fm.sizes a + Fm.sizes b
  | [], b => by simp [Fm.sizes]
  | p :: a, b => by simp [Fm.sizes, sizes_append a b]; omega

/-! ### the same in the heap -/
theorem fmsMap {K : PySem.W.Frag} {H H' : Hp} (s : ∀ a xs, Rd H a (.tup xs) → Rd H' a (.tup xs)) : (∀ (f : Fm) (v : V), FmAt K H v f → FmAt K H' v f) := by
  have key : ∀ (a : Addr) (xs : List V), SqT K H a xs → SqT K H' a xs := fun a xs h => by
    rcases h with h | h
    · exact .inl (s _ _ h)
    · exact .inr h
  intro f
  induction f using Fm.rec (motive_2 := fun fs => ∀ vs, FmsAt K H vs fs → FmsAt K H' vs fs) with
  | sign x => intro v h; obtain ⟨a, rfl, h1⟩ := fmSign h; exact .tup (key _ _ h1) (.cons (.str _) (.cons (.str _) .nil))
  | row ps ih => intro v h; obtain ⟨a, b, vs, rfl, h1, h2, h3⟩ := fmRow h; exact .tup (key _ _ h1) (.cons (.str _) (.cons (.tup (key _ _ h2) (ih _ h3)) .nil))
  | pick ps ih => intro v h; obtain ⟨a, b, vs, rfl, h1, h2, h3⟩ := fmPick h; exact .tup (key _ _ h1) (.cons (.str _) (.cons (.tup (key _ _ h2) (ih _ h3)) .nil))
  | times p l u ih => intro v h; obtain ⟨a, w, rfl, h1, h2⟩ := fmTimes h; exact .tup (key _ _ h1) (.cons (.str _) (.cons (ih _ h2) (.cons (.int _) (.cons (highDp u) .nil))))
  | nil => rename_i h; cases dpNil h; exact .nil
  | cons p ps ih1 ih2 => rename_i h; obtain ⟨v, us, rfl, h1, h2⟩ := dpCons h; exact .cons (ih1 _ h1) (ih2 _ h2)
theorem fmsAll {K : PySem.W.Frag} {H H' : Hp} (s : ∀ a xs, Rd H a (.tup xs) → Rd H' a (.tup xs)) : ∀ (fs : List Fm) (vs : List V), FmsAt K H vs fs → FmsAt K H' vs fs
  | [], _, h => by cases dpNil h; exact .nil
  | f :: fs, _, h => by
    obtain ⟨v, us, rfl, h1, h2⟩ := dpCons h
    exact .cons (fmsMap s f v h1) (fmsAll s fs us h2)
theorem keepTup {H : Hp} {p : Addr} {xs : List V} {o : HO} (h : H p = some (.lst xs)) : ∀ a ys, Rd H a (.tup ys) → Rd (upd H p o) a (.tup ys) := fun a ys r => by
  have n : a ≠ p := by
    rintro rfl
    rcases r with r | ⟨o, r⟩ <;> (rw [h] at r; cases r)
  rcases r with r | ⟨o, r⟩
  · exact .inl (by rw [upd_ne n]; exact r)
  · exact .inr ⟨o, by rw [upd_ne n]; exact r⟩
theorem sqTW {K : PySem.W.Frag} {H : Hp} {p a : Addr} {xs ys : List V} {o : HO} (h : H p = some (.lst xs)) (t : SqT K H a ys) : SqT K (upd H p o) a ys := by
  rcases t with t | t
  · exact .inl (keepTup h _ _ t)
  · exact .inr t
/-- a list may be written: forms stay -/
theorem fmW {K : PySem.W.Frag} {H : Hp} {p : Addr} {xs : List V} {o : HO} (h : H p = some (.lst xs)) {f : Fm} {v : V} (hf : FmAt K H v f) : FmAt K (upd H p o) v f := by
  refine fmsMap (fun a ys r => ?_) f v hf
  have n : a ≠ p := by
    rintro rfl
    rcases r with r | ⟨o, r⟩ <;> (rw [h] at r; cases r)
  rcases r with r | ⟨o, r⟩
  · exact .inl (by rw [upd_ne n]; exact r)
  · exact .inr ⟨o, by rw [upd_ne n]; exact r⟩
abbrev Row := Addr × V × Addr
def kidsV (ks : List Nat) : List V := ks.map fun (n : Nat) => V.int (n : Int)
structure RowsAt (K : PySem.W.Frag) (H : Hp) (rs : List Row) (T : Lay) : Prop where
  len : rs.length = T.length
  at_ : ∀ (i : Nat) (r : Row) (t : Fm × List Nat), rs[i]? = some r → T[i]? = some t → H r.1 = some (.tup [r.2.1, .ref r.2.2]) ∧ FmAt K H r.2.1 t.1 ∧ H r.2.2 = some (.lst (kidsV t.2))
theorem RowsAt.same {K : PySem.W.Frag} {H H' : Hp} {rs : List Row} {T : Lay} (R : RowsAt K H rs T) (s : Same H H') : RowsAt K H' rs T :=
  ⟨R.len, fun i r t h1 h2 => by obtain ⟨a, b, c⟩ := R.at_ i r t h1 h2; exact ⟨s _ _ a, dpS s b, s _ _ c⟩⟩
/-- another list is written -/
theorem RowsAt.other {K : PySem.W.Frag} {H : Hp} {rs : List Row} {T : Lay} {p : Addr} {xs : List V} {o : HO} (R : RowsAt K H rs T) (hp : H p = some (.lst xs)) (n : ∀ r, r ∈ rs → r.2.2 ≠ p) : RowsAt K (upd H p o) rs T :=
  ⟨R.len, fun i r t h1 h2 => by
    obtain ⟨a, b, c⟩ := R.at_ i r t h1 h2
    exact ⟨by rw [upd_ne (ne_of a hp (by intro z; cases z))]; exact a, fmW hp b, by rw [upd_ne (n r (List.mem_of_getElem? h1))]; exact c⟩⟩
theorem kidsV_app (ks : List Nat) (n : Nat) : kidsV (ks ++ [n]) = kidsV ks ++ [V.int (n : Int)] := by simp [kidsV]
/-- the list of one piece's numbers grows -/
theorem RowsAt.grow {K : PySem.W.Frag} {H : Hp} {rs : List Row} {T : Lay} {ar n : Nat} {r : Row} {t : Fm × List Nat} (R : RowsAt K H rs T) (h1 : rs[ar]? = some r) (h2 : T[ar]? = some t) (nd : (rs.map (·.2.2)).Nodup) :
    RowsAt K (upd H r.2.2 (.lst (kidsV t.2 ++ [V.int (n : Int)]))) rs (T.modify ar (addk n)) := by
  refine ⟨by rw [List.length_modify]; exact R.len, fun i r' t' g1 g2 => ?_⟩
  obtain ⟨a, b, c⟩ := R.at_ ar r t h1 h2
  rw [List.getElem?_modify] at g2
  obtain ⟨t0, g3, g4⟩ : ∃ t0, T[i]? = some t0 ∧ (if ar = i then addk n t0 else t0) = t' := by
    cases e : T[i]? with
    | none => rw [e] at g2; cases g2
    | some t0 => rw [e] at g2; exact ⟨t0, rfl, by simpa using g2⟩
  obtain ⟨a', b', c'⟩ := R.at_ i r' t0 g1 g3
  have hb : FmAt K (upd H r.2.2 (.lst (kidsV t.2 ++ [V.int (n : Int)]))) r'.2.1 t0.1 := fmW c b'
  have ha : upd H r.2.2 (.lst (kidsV t.2 ++ [V.int (n : Int)])) r'.1 = some (.tup [r'.2.1, .ref r'.2.2]) := by rw [upd_ne (ne_of a' c (by intro z; cases z))]; exact a'
  by_cases hi : ar = i
  · subst hi
    rw [if_pos rfl] at g4
    subst g4
    cases h1.symm.trans g1
    cases h2.symm.trans g3
    refine ⟨ha, hb, ?_⟩
    rw [upd_same]
    show some (HO.lst _) = some (HO.lst (kidsV (t.2 ++ [n])))
    rw [kidsV_app]
  · rw [if_neg hi] at g4
    subst g4
    have ne : r'.2.2 ≠ r.2.2 := fun q => hi (nd_ix nd (by rw [List.getElem?_map, h1]; rfl) (by rw [List.getElem?_map, g1]; exact congrArg some q))
    exact ⟨ha, hb, by rw [upd_ne ne]; exact c'⟩
/-- one more piece -/
theorem RowsAt.snoc {K : PySem.W.Frag} {H : Hp} {rs : List Row} {T : Lay} {r : Row} {t : Fm × List Nat} (R : RowsAt K H rs T) (a : H r.1 = some (.tup [r.2.1, .ref r.2.2])) (b : FmAt K H r.2.1 t.1) (c : H r.2.2 = some (.lst (kidsV t.2))) : RowsAt K H (rs ++ [r]) (T ++ [t]) := by
  refine ⟨by rw [List.length_append, List.length_append, R.len]; rfl, fun i r' t' g1 g2 => ?_⟩
  by_cases hi : i < rs.length
  · rw [List.getElem?_append_left hi] at g1
    rw [List.getElem?_append_left (by rw [← R.len]; exact hi)] at g2
    exact R.at_ i r' t' g1 g2
  · rw [List.getElem?_append_right (by omega)] at g1
    rw [List.getElem?_append_right (by rw [← R.len]; omega), ← R.len] at g2
    have h0 : i - rs.length = 0 := by
      cases e : i - rs.length with
      | zero => rfl
      | succ j => rw [e] at g1; simp at g1
    rw [h0] at g1 g2
    cases g1
    cases g2
    exact ⟨a, b, c⟩
/-- the pieces ahead: pairs of a form and the number of the piece around it -/
abbrev StkAt (K : PySem.W.Frag) (H : Hp) (as : List Addr) (S : List (Fm × Nat)) : Prop := Paired (fun a s => ∃ u, H a = some (.tup [u, .int (s.2 : Int)]) ∧ FmAt K H u s.1) as S
theorem pairedMap {α β : Type} {F G : α → β → Prop} : ∀ {l₁ : List α} {l₂ : List β}, Paired F l₁ l₂ → (∀ a b, F a b → G a b) → Paired G l₁ l₂
  | _, _, .nil, _ => .nil
  | _, _, .cons r t, f => .cons (f _ _ r) (pairedMap t f)
theorem pairedApp {α β : Type} {F : α → β → Prop} : ∀ {a₁ : List α} {b₁ : List β} {a₂ : List α} {b₂ : List β}, Paired F a₁ b₁ → Paired F a₂ b₂ → Paired F (a₁ ++ a₂) (b₁ ++ b₂)
  | _, _, _, _, .nil, g => g
  | _, _, _, _, .cons r t, g => .cons r (pairedApp t g)
theorem StkAt.same {K : PySem.W.Frag} {H H' : Hp} {as : List Addr} {S : List (Fm × Nat)} (R : StkAt K H as S) (s : Same H H') : StkAt K H' as S := pairedMap R fun a b ⟨u, h1, h2⟩ => ⟨u, s _ _ h1, dpS s h2⟩
theorem StkAt.w {K : PySem.W.Frag} {H : Hp} {as : List Addr} {S : List (Fm × Nat)} {p : Addr} {xs : List V} {o : HO} (R : StkAt K H as S) (hp : H p = some (.lst xs)) : StkAt K (upd H p o) as S :=
  pairedMap R fun a b ⟨u, h1, h2⟩ => ⟨u, by rw [upd_ne (ne_of h1 hp (by intro z; cases z))]; exact h1, fmW hp h2⟩
/-- what laid tells: a list of pairs -/
def LaidAt (K : PySem.W.Frag) (H : Hp) (a : Addr) (T : Lay) : Prop := ∃ rs : List Row, H a = some (.lst (rs.map fun r => V.ref r.1)) ∧ RowsAt K H rs T
theorem LaidAt.same {K : PySem.W.Frag} {H H' : Hp} {a : Addr} {T : Lay} (h : LaidAt K H a T) (s : Same H H') : LaidAt K H' a T := by
  obtain ⟨rs, h1, h2⟩ := h
  exact ⟨rs, s _ _ h1, h2.same s⟩
end Sw
set_option Elab.async false
set_option maxRecDepth 100000
set_option maxHeartbeats 4000000
namespace Sw
open PySem L2 PySem.Spec PyProof.Rows
section
variable {P : Program} {w : World} {K : PySem.W.Frag} {mg : Str → Option Value} {base : Heap}
abbrev n_laid : List Str := ["form", "told", "ahead", "piece", "around", "number", "part"]
theorem sc_laid : FnScope n_laid ["form"] (defScope s_laid) := ⟨rfl, rfl, rfl, by decide +kernel, rfl, by decide +kernel, by decide +kernel⟩
def spLaid (K : PySem.W.Frag) : Sp := fun vs H Q _ => ∃ v f, vs = [v] ∧ FmAt K H v f ∧ f.size ≤ 1000000 ∧ ∀ H' a, Same H H' → H a = none → LaidAt K H' a (laidF f 0) → Q (.ref a) H'
theorem len_sizes : ∀ ps : List Fm, ps.length ≤ Fm.sizes ps
  | [] => Nat.le_refl 0
  | x :: xs => by
    have := len_sizes xs
    have := x.size_pos
    simp [Fm.sizes]
    omega
/-- the parts are put ahead, the first one last -/
theorem laid_push {D : Ends} {v0 vt ov : Option V} {aA : Addr} {n : Nat} {o6 : Option V} {H : Hp} {p : Fm} {uu : V} {base0 : List V} (hu : FmAt K H uu p) (ha : H aA = some (.lst base0)) (hz : base0.length + p.parts.length ≤ 16000000)
    (hd : ∀ H' as o6', But aA H H' → H' aA = some (.lst (base0 ++ (as.map V.ref).reverse)) → StkAt K H' as (p.parts.map fun q => (q, n)) → D.nx [v0, vt, some (.ref aA), some uu, ov, some (.int (n : Int)), o6'] H') :
    tFor (iTup K (tRevT K (tCall (spParts K) [] E0 (tCons (tVar 3) tNil)))) (gName 6) (tDrop (tBM K "list" rAppend (tVar 2) (tCons (tTup (tCons (tVar 6) (tCons (tVar 5) tNil))) tNil))) D [v0, vt, some (.ref aA), some uu, ov, some (.int (n : Int)), o6] H := by
  refine ⟨_, rfl, uu, p, rfl, hu, fun H1 a ws s1 ht hw => ⟨a, ws, rfl, ht, fun q hq => ⟨q, rfl, ⟨_, sT upd_same⟩, ?_⟩⟩⟩
  have s2 : Same H1 (upd H1 q (.tup ws.reverse)) := .new hq
  have hl := dpsLen hw
  rw [Fm.dats_map, List.length_map] at hl
  refine for_tup (K := K) (a := q) (xs := ws.reverse) (fun i σ H' => ∃ as o6', σ = [v0, vt, some (.ref aA), some uu, ov, some (.int (n : Int)), o6'] ∧ But aA H H' ∧ SqT K H' q ws.reverse ∧ FmsAt K H' ws p.parts ∧ H' aA = some (.lst (base0 ++ (as.map V.ref).reverse)) ∧ StkAt K H' as ((p.parts.map fun x => (x, n)).drop (ws.length - i)))
    ⟨[], o6, rfl, .of (s1.trans s2), sT upd_same, dpsS s2 hw, ?_, ?_⟩ (fun i σ H' _ ⟨_, _, _, _, h, _⟩ => h) ?_ ?_
  · have := s2 _ _ (s1 _ _ ha)
    simpa using this
  · rw [List.drop_eq_nil_of_le (by simp [hl])]
    exact .nil
  · rintro i x σ H' hx ⟨as, o6', rfl, b1, hq', hw', ha', hs'⟩
    have hi : i < ws.length := by
      have := (List.getElem?_eq_some_iff.mp hx).1
      simpa using this
    have hx2 : ws[ws.length - 1 - i]? = some x := by rw [List.getElem?_reverse hi] at hx; exact hx
    obtain ⟨d, hd1, hd2⟩ := dpsAtV hw' hx2
    rw [Fm.dats_map, List.getElem?_map] at hd1
    obtain ⟨y, hy1, hy2⟩ : ∃ y, p.parts[ws.length - 1 - i]? = some y ∧ y.dat = d := by
      cases e : p.parts[ws.length - 1 - i]? with
      | none => rw [e] at hd1; cases hd1
      | some y => rw [e] at hd1; exact ⟨y, rfl, Option.some.inj hd1⟩
    subst hy2
    have hlas : as.length ≤ p.parts.length := by
      have e1 : as.length = ((p.parts.map fun x => (x, n)).drop (ws.length - i)).length := Paired.length hs'
      rw [e1, List.length_drop, List.length_map]
      omega
    -- ahead.append((part, number))
    refine ⟨_, rfl, .inl ⟨rfl, _, sL ha'⟩, _, rfl, _, rfl, (by show 2 ≤ sizeLine; decide), fun t ht => ?_⟩
    have s3 : Same H' (upd H' t (.tup [x, .int (n : Int)])) := .new ht
    refine ⟨aA, _, _, rfl, rfl, s3 _ _ ha', szb (by simp; omega), ?_⟩
    have hta : aA ≠ t := ne_of_none ha' ht
    have hb : But aA H (upd (upd H' t (.tup [x, .int (n : Int)])) aA (.lst (base0 ++ (as.map V.ref).reverse ++ [.ref t]))) := .upd (b1.trans (.of s3))
    refine ⟨t :: as, some x, rfl, hb, ?_, ?_, ?_, ?_⟩
    · exact sqTW (s3 _ _ ha') (s3.sqT hq')
    · exact fmsAll (keepTup (s3 _ _ ha')) _ _ (dpsS s3 hw')
    · rw [upd_same]
      simp
    · have e : (p.parts.map fun x => (x, n)).drop (ws.length - (i + 1)) = (y, n) :: (p.parts.map fun x => (x, n)).drop (ws.length - i) := by
        have h1 : ws.length - (i + 1) < (p.parts.map fun x => (x, n)).length := by rw [List.length_map]; omega
        rw [List.drop_eq_getElem_cons h1]
        have h2 : ws.length - (i + 1) + 1 = ws.length - i := by omega
        rw [h2]
        congr 1
        have h3 : (p.parts.map fun x => (x, n))[ws.length - (i + 1)]? = some (y, n) := by
          rw [List.getElem?_map, show ws.length - (i + 1) = ws.length - 1 - i by omega, hy1]
          rfl
        exact Option.some.inj ((List.getElem?_eq_getElem h1).symm.trans h3)
      rw [e]
      refine .cons ⟨x, ?_, ?_⟩ ?_
      · rw [upd_ne hta.symm, upd_same]
      · exact fmW (s3 _ _ ha') (dpS s3 hd2)
      · exact StkAt.w (StkAt.same hs' s3) (s3 _ _ ha')
  · rintro σ H' ⟨as, o6', rfl, b1, _, _, ha', hs'⟩
    refine hd H' as o6' b1 ha' ?_
    have e : ws.length - ws.reverse.length = 0 := by simp
    rw [e] at hs'
    exact hs'
theorem ok_laid (F : DefAt K mg "laid" s_laid ["form"]) (d_parts_of : DefOk P w K mg base "parts_of" 1 ["form"] (spParts K)) (b_len : mg "len" = none) : DefOk P w K mg base "laid" 2 ["form"] (spLaid K) := by
  refine F.ok sc_laid (fun vs H Q E h => ?_) (fun f cdv A outer s H vs Q E hr h => ?_)
  · obtain ⟨v, f, rfl, _⟩ := h
    rfl
  obtain ⟨v, f, rfl, hf, hsz, k⟩ := h
  refine ⟨_, (pss_cons (ps_set (i := 1) sc_laid.nd rfl (Or.inl rfl) (pe_lst pa_nil))
    (pss_cons (ps_set (i := 2) sc_laid.nd rfl (Or.inl rfl) (pe_lst (pa_cons (pe_tup (pa_cons (pv 0) (pa_cons pe_int pa_nil))) pa_nil)))
    (pss_cons (ps_while PassesOwn.never (pt_truth (pv 2) (by intro _; rfl)) (pss_cons (ps_asg (pe_bm0 PySem.F.plainAttrs_list PySem.F.slot_list_pop PySem.F.type_list_pop mt_pop (pv 2)) (pg_tup rfl (pgs_cons (pg_name (i := 3) sc_laid.nd rfl (Or.inl rfl)) (pgs_cons (pg_name (i := 4) sc_laid.nd rfl (Or.inl rfl)) pgs_nil))))
    (pss_cons (ps_set (i := 5) sc_laid.nd rfl (Or.inl rfl) (pe_callB call_len_seq (by rfl) b_len PySem.boot_len (pa_cons (pv 1) pa_nil)))
    (pss_cons (ps_expr (pe_bm PySem.F.plainAttrs_list PySem.F.slot_list_append PySem.F.type_list_append mt_append (pv 1) (pa_cons (pe_tup (pa_cons (pv 3) (pa_cons (pe_lst pa_nil) pa_nil))) pa_nil)))
    (pss_cons (ps_if (pt_cmpR op_gt (pv 5) pe_int (nomark _)) (pss_one (ps_expr (pe_bm PySem.F.plainAttrs_list PySem.F.slot_list_append PySem.F.type_list_append mt_append (pe_ix ix_tup (pe_ix ix_list (pv 1) (pv 4) (fun _ _ => rfl)) pe_int (fun _ _ => rfl)) (pa_cons (pv 5) pa_nil)))) pss_nil)
    (pss_one (ps_for PassesOwn.never rfl (pi_tup (pe_revT (pe_callD d_parts_of hr rfl (pa_cons (pv 3) pa_nil)))) (pg_name (i := 6) sc_laid.nd rfl (Or.inl rfl))
      (pss_one (ps_expr (pe_bm PySem.F.plainAttrs_list PySem.F.slot_list_append PySem.F.type_list_append mt_append (pv 2) (pa_cons (pe_tup (pa_cons (pv 6) (pa_cons (pv 5) pa_nil))) pa_nil)))))))))))
    (pss_one (ps_ret (pv 1)))))), ?_⟩
  refine ⟨(by show 0 ≤ sizeLine; decide), fun tA htA => ?_⟩
  have s1 : Same H (upd H tA (.lst [])) := .new htA
  refine ⟨_, rfl, (by show 2 ≤ sizeLine; decide), fun q0 hq0 => ⟨(by show 1 ≤ sizeLine; decide), fun aA haA => ?_⟩⟩
  have s2 : Same (upd H tA (.lst [])) (upd (upd H tA (.lst [])) q0 (.tup [v, .int 0])) := .new hq0
  have s3 : Same (upd (upd H tA (.lst [])) q0 (.tup [v, .int 0])) (upd (upd (upd H tA (.lst [])) q0 (.tup [v, .int 0])) aA (.lst [.ref q0])) := .new haA
  have hA0 : H aA = none := s1.free (s2.free haA)
  refine ⟨fun m σ H1 => ∃ (T : Lay) (S : List (Fm × Nat)) (rs : List Row) (as : List Addr) (o3 o4 o5 o6 : Option V), σ = [some v, some (.ref tA), some (.ref aA), o3, o4, o5, o6] ∧ m = Fm.sizes (S.map (·.1)) ∧ Same H H1 ∧ comp T S = laidF f 0 ∧
      H1 tA = some (.lst (rs.map fun r => V.ref r.1)) ∧ RowsAt K H1 rs T ∧ (rs.map (·.2.2)).Nodup ∧ (∀ r, r ∈ rs → H r.2.2 = none ∧ r.2.2 ≠ tA ∧ r.2.2 ≠ aA) ∧ H1 aA = some (.lst (as.map V.ref).reverse) ∧ StkAt K H1 as S ∧ (∀ s, s ∈ S → s.2 < T.length ∨ s.2 = 0) ∧ (∀ t, t ∈ T → t.2.length ≤ T.length),
    ⟨_, [], [(f, 0)], [], [q0], none, none, none, none, rfl, rfl, s1.trans (s2.trans s3), ?_, ?_, ⟨rfl, fun i r t h => by simp at h⟩, List.nodup_nil, (fun r h => by simp at h), ?_, ?_, ?_, (fun t h => by simp at h)⟩, ?_⟩
  · simp [comp]
  · exact s3 _ _ (s2 _ _ upd_same)
  · rw [upd_same]
    rfl
  · refine .cons ⟨v, s3 _ _ upd_same, ?_⟩ .nil
    exact dpS (s1.trans (s2.trans s3)) hf
  · intro s hs
    simp at hs
    subst hs
    exact .inr rfl
  rintro m σ H1 ⟨T, S, rs, as, o3, o4, o5, o6, rfl, hm, g1, hc, hT, hR, nd, hfr, hA, hS, hlt, hkl⟩
  have hcl := congrArg List.length hc
  rw [comp_length, laidF_length] at hcl
  have htne : tA ≠ aA := fun e => by
    have z := s3 _ _ (s2 _ _ (upd_same (H := H) (a := tA) (o := .lst [])))
    rw [e] at z
    rw [upd_same] at z
    cases z
  cases hS with
  | nil =>
    refine ⟨_, rfl, false, .inl ⟨_, sL hA, rfl⟩, ?_⟩
    refine iteF ?_
    refine ⟨_, rfl, ?_⟩
    have e : T = laidF f 0 := hc
    subst e
    exact k H1 tA g1 htA ⟨rs, hT, hR⟩
  | cons hd hS' =>
    rename_i a sp as' S'
    obtain ⟨p, ar⟩ := sp
    obtain ⟨u, ha, hu⟩ := hd
    have eA : (List.map V.ref (a :: as')).reverse = (as'.map V.ref).reverse ++ [.ref a] := by simp
    rw [eA] at hA
    refine ⟨_, rfl, true, .inl ⟨_, sL hA, by simp⟩, ?_⟩
    refine iteT ?_
    refine ⟨fun σ' H' => ∃ m', m' < m ∧ ∃ (T : Lay) (S : List (Fm × Nat)) (rs : List Row) (as : List Addr) (o3 o4 o5 o6 : Option V), σ' = [some v, some (.ref tA), some (.ref aA), o3, o4, o5, o6] ∧ m' = Fm.sizes (S.map (·.1)) ∧ Same H H' ∧ comp T S = laidF f 0 ∧
      H' tA = some (.lst (rs.map fun r => V.ref r.1)) ∧ RowsAt K H' rs T ∧ (rs.map (·.2.2)).Nodup ∧ (∀ r, r ∈ rs → H r.2.2 = none ∧ r.2.2 ≠ tA ∧ r.2.2 ≠ aA) ∧ H' aA = some (.lst (as.map V.ref).reverse) ∧ StkAt K H' as S ∧ (∀ s, s ∈ S → s.2 < T.length ∨ s.2 = 0) ∧ (∀ t, t ∈ T → t.2.length ≤ T.length),
      fun σ' H' h => h, ?_⟩
    -- piece, around = ahead.pop()
    have eL : ((as'.map V.ref).reverse ++ [V.ref a])[((as'.map V.ref).reverse ++ [V.ref a]).length - 1]? = some (V.ref a) := by simp
    have eD : ((as'.map V.ref).reverse ++ [V.ref a]).dropLast = (as'.map V.ref).reverse := by simp
    refine ⟨_, rfl, .inl ⟨rfl, _, sL hA⟩, aA, _, _, rfl, rfl, hA, eL, ?_⟩
    rw [eD]
    have ha2 : (upd H1 aA (.lst (as'.map V.ref).reverse)) a = some (.tup [u, .int (ar : Int)]) := by rw [upd_ne (ne_of ha hA (by intro z; cases z))]; exact ha
    have hT2 : (upd H1 aA (.lst (as'.map V.ref).reverse)) tA = some (.lst (rs.map fun r => V.ref r.1)) := by rw [upd_ne htne]; exact hT
    have hR2 : RowsAt K (upd H1 aA (.lst (as'.map V.ref).reverse)) rs T := hR.other hA fun r hr => (hfr r hr).2.2
    have hS2 : StkAt K (upd H1 aA (.lst (as'.map V.ref).reverse)) as' S' := StkAt.w hS' hA
    have hu2 : FmAt K (upd H1 aA (.lst (as'.map V.ref).reverse)) u p := fmW hA hu
    have g2 : Same H (upd H1 aA (.lst (as'.map V.ref).reverse)) := g1.mut hA0
    refine ⟨a, _, rfl, sT ha2, rfl, _, _, rfl, _, _, rfl, rfl, ?_⟩
    -- number = len(told)
    refine ⟨_, rfl, tA, _, rfl, .inl (sL hT2), ?_⟩
    have en : (rs.map fun r => V.ref r.1).length = T.length := by rw [List.length_map, hR.len]
    rw [en]
    generalize hH2 : upd H1 aA (.lst (as'.map V.ref).reverse) = H2 at *
    have hA2 : H2 aA = some (.lst (as'.map V.ref).reverse) := by rw [← hH2, upd_same]
    -- told.append((piece, []))
    refine ⟨_, rfl, .inl ⟨rfl, _, sL hT2⟩, _, rfl, (by show 0 ≤ sizeLine; decide), fun l hl => ⟨(by show 2 ≤ sizeLine; decide), fun t ht => ?_⟩⟩
    have c1 : Same H2 (upd H2 l (.lst [])) := .new hl
    have c2 : Same (upd H2 l (.lst [])) (upd (upd H2 l (.lst [])) t (.tup [u, .ref l])) := .new ht
    have c3 := c1.trans c2
    have hl3 : (upd (upd H2 l (.lst [])) t (.tup [u, .ref l])) l = some (.lst []) := c2 _ _ upd_same
    have ht3 : (upd (upd H2 l (.lst [])) t (.tup [u, .ref l])) t = some (.tup [u, .ref l]) := upd_same
    generalize hH3 : upd (upd H2 l (.lst [])) t (.tup [u, .ref l]) = H3 at *
    have ntl : tA ≠ l := ne_of_none hT2 hl
    have nal : aA ≠ l := ne_of_none hA2 hl
    have hl0 : H l = none := g2.free hl
    have ntt : tA ≠ t := ne_of (c3 _ _ hT2) ht3 (by intro z; cases z)
    have nat : aA ≠ t := ne_of (c3 _ _ hA2) ht3 (by intro z; cases z)
    have hnl : ∀ r, r ∈ rs → r.2.2 ≠ l := fun r hr e => by
      obtain ⟨i, hi⟩ := List.getElem?_of_mem hr
      have hi2 : i < T.length := by rw [← hR.len]; exact (List.getElem?_eq_some_iff.mp hi).1
      obtain ⟨_, _, z⟩ := hR2.at_ i r _ hi (List.getElem?_eq_getElem hi2)
      rw [e, hl] at z
      cases z
    refine ⟨tA, _, _, rfl, rfl, c3 _ _ hT2, szb (by rw [en]; omega), ?_⟩
    have hT3 := c3 _ _ hT2
    have hR4 : RowsAt K (upd H3 tA (.lst ((rs.map fun r => V.ref r.1) ++ [.ref t]))) rs T := (hR2.same c3).other hT3 fun r hr => (hfr r hr).2.1
    have hS4 : StkAt K (upd H3 tA (.lst ((rs.map fun r => V.ref r.1) ++ [.ref t]))) as' S' := StkAt.w (StkAt.same hS2 c3) hT3
    have hu4 : FmAt K (upd H3 tA (.lst ((rs.map fun r => V.ref r.1) ++ [.ref t]))) u p := fmW hT3 (dpS c3 hu2)
    have hl4 : (upd H3 tA (.lst ((rs.map fun r => V.ref r.1) ++ [.ref t]))) l = some (.lst []) := by rw [upd_ne ntl.symm]; exact hl3
    have ht4 : (upd H3 tA (.lst ((rs.map fun r => V.ref r.1) ++ [.ref t]))) t = some (.tup [u, .ref l]) := by rw [upd_ne ntt.symm]; exact ht3
    have hA4 : (upd H3 tA (.lst ((rs.map fun r => V.ref r.1) ++ [.ref t]))) aA = some (.lst (as'.map V.ref).reverse) := by rw [upd_ne htne.symm]; exact c3 _ _ hA2
    have hT4 : (upd H3 tA (.lst ((rs.map fun r => V.ref r.1) ++ [.ref t]))) tA = some (.lst ((rs.map fun r => V.ref r.1) ++ [.ref t])) := upd_same
    have g4 : Same H (upd H3 tA (.lst ((rs.map fun r => V.ref r.1) ++ [.ref t]))) := (g2.trans c3).mut htA
    generalize hH4 : upd H3 tA (.lst ((rs.map fun r => V.ref r.1) ++ [.ref t])) = H4 at *
    have e1 : ((rs.map fun r => V.ref r.1) ++ [V.ref t]) = ((rs ++ [(t, u, l)]).map fun r => V.ref r.1) := by simp
    -- behind the if
    have tail : ∀ H5 : Hp, Same H H5 → H5 tA = some (.lst ((rs.map fun r => V.ref r.1) ++ [.ref t])) → RowsAt K H5 rs (T.modify ar (addk T.length)) → StkAt K H5 as' S' → FmAt K H5 u p → H5 l = some (.lst []) → H5 t = some (.tup [u, .ref l]) → H5 aA = some (.lst (as'.map V.ref).reverse) →
        tFor (iTup K (tRevT K (tCall (spParts K) [] E0 (tCons (tVar 3) tNil)))) (gName 6) (tDrop (tBM K "list" rAppend (tVar 2) (tCons (tTup (tCons (tVar 6) (tCons (tVar 5) tNil))) tNil)))
          { nx := fun σ' H' => ∃ m', m' < m ∧ ∃ (T : Lay) (S : List (Fm × Nat)) (rs : List Row) (as : List Addr) (o3 o4 o5 o6 : Option V), σ' = [some v, some (.ref tA), some (.ref aA), o3, o4, o5, o6] ∧ m' = Fm.sizes (S.map (·.1)) ∧ Same H H' ∧ comp T S = laidF f 0 ∧
              H' tA = some (.lst (rs.map fun r => V.ref r.1)) ∧ RowsAt K H' rs T ∧ (rs.map (·.2.2)).Nodup ∧ (∀ r, r ∈ rs → H r.2.2 = none ∧ r.2.2 ≠ tA ∧ r.2.2 ≠ aA) ∧ H' aA = some (.lst (as.map V.ref).reverse) ∧ StkAt K H' as S ∧ (∀ s, s ∈ S → s.2 < T.length ∨ s.2 = 0) ∧ (∀ t, t ∈ T → t.2.length ≤ T.length),
            rt := Q, bk := fun σ' H' => tRet (tVar 1) { nx := fun _ H' => Q .non H', rt := Q } σ' H', ct := fun σ' H' => ∃ m', m' < m ∧ ∃ (T : Lay) (S : List (Fm × Nat)) (rs : List Row) (as : List Addr) (o3 o4 o5 o6 : Option V), σ' = [some v, some (.ref tA), some (.ref aA), o3, o4, o5, o6] ∧ m' = Fm.sizes (S.map (·.1)) ∧ Same H H' ∧ comp T S = laidF f 0 ∧
              H' tA = some (.lst (rs.map fun r => V.ref r.1)) ∧ RowsAt K H' rs T ∧ (rs.map (·.2.2)).Nodup ∧ (∀ r, r ∈ rs → H r.2.2 = none ∧ r.2.2 ≠ tA ∧ r.2.2 ≠ aA) ∧ H' aA = some (.lst (as.map V.ref).reverse) ∧ StkAt K H' as S ∧ (∀ s, s ∈ S → s.2 < T.length ∨ s.2 = 0) ∧ (∀ t, t ∈ T → t.2.length ≤ T.length) }
          [some v, some (.ref tA), some (.ref aA), some u, some (.int (ar : Int)), some (.int (T.length : Int)), o6] H5 := by
      intro H5 g5 hT5 hR5 hS5 hu5 hl5 ht5 hA5
      have hps : p.size = 1 + Fm.sizes p.parts := p.size_eq
      have hpl : p.parts.length ≤ Fm.sizes p.parts := len_sizes _
      have hsl : as'.length ≤ Fm.sizes (S'.map (·.1)) := by
        rw [Paired.length hS5, ← List.length_map (f := fun x : Fm × Nat => x.1)]
        exact len_sizes _
      simp only [List.map_cons, Fm.sizes] at hcl hm
      refine laid_push hu5 hA5 (by simp; omega) fun H6 as2 o6' b6 hA6 hS6 => ?_
      have e2 : ((as'.map V.ref).reverse ++ (as2.map V.ref).reverse) = ((as2 ++ as').map V.ref).reverse := by simp
      rw [e2] at hA6
      have ew : ∀ {x : Addr} {z : HO}, H5 x = some z → x ≠ aA → H6 x = some z := fun h n => b6 _ _ h n
      have kt : ∀ a xs, Rd H5 a (.tup xs) → Rd H6 a (.tup xs) := fun b xs r => by
        have n : b ≠ aA := by
          rintro rfl
          rcases r with r | ⟨o, r⟩ <;> (rw [hA5] at r; cases r)
        rcases r with r | ⟨o, r⟩
        · exact .inl (b6 _ _ r n)
        · exact .inr ⟨o, b6 _ _ r n⟩
      have hR6 : RowsAt K H6 (rs ++ [(t, u, l)]) (T.modify ar (addk T.length) ++ [(p, [])]) := by
        refine RowsAt.snoc ⟨hR5.len, fun i r t h1 h2 => ?_⟩ (ew ht5 nat.symm) (fmsMap kt _ _ hu5) (ew hl5 nal.symm)
        obtain ⟨x, y, z⟩ := hR5.at_ i r t h1 h2
        exact ⟨ew x (ne_of x hA5 (by intro z; cases z)), fmsMap kt _ _ y, ew z (hfr r (List.mem_of_getElem? h1)).2.2⟩
      refine ⟨_, ?_, T.modify ar (addk T.length) ++ [(p, [])], (p.parts.map fun q => (q, T.length)) ++ S', rs ++ [(t, u, l)], as2 ++ as', _, _, _, o6', rfl, rfl, (But.same (H := H) (p := aA) (fun b o e n => b6 b o (g5 b o e) n) hA0), ?_, ?_, hR6, ?_, ?_, hA6, pairedApp hS6 (pairedMap hS5 fun x y ⟨z, h1, h2⟩ => ⟨z, ew h1 (ne_of h1 hA5 (by intro z; cases z)), fmsMap kt _ _ h2⟩), ?_, ?_⟩
      · rw [hm, List.map_append, sizes_append, List.map_map]
        have : ((fun x => x.fst) ∘ fun q => (q, T.length)) = (id : Fm → Fm) := rfl
        rw [this, List.map_id]
        omega
      · rw [← comp_step]
        exact hc
      · rw [← e1]
        exact ew hT5 htne
      · rw [List.map_append, List.map_singleton]
        refine nd_snoc nd fun hm => ?_
        obtain ⟨r, hr, e⟩ := List.mem_map.mp hm
        exact hnl r hr e
      · intro r hr
        rcases List.mem_append.mp hr with hr | hr
        · exact hfr r hr
        · simp at hr
          subst hr
          exact ⟨hl0, ntl.symm, nal.symm⟩
      · intro s hs
        have hlen : (T.modify ar (addk T.length) ++ [(p, ([] : List Nat))]).length = T.length + 1 := by simp
        rw [hlen]
        rcases List.mem_append.mp hs with hs | hs
        · obtain ⟨q, _, e⟩ := List.mem_map.mp hs
          subst e
          exact .inl (Nat.lt_succ_self _)
        · rcases hlt s (List.mem_cons_of_mem _ hs) with h | h
          · exact .inl (Nat.lt_succ_of_lt h)
          · exact .inr h
      · intro t2 h2
        have hlen : (T.modify ar (addk T.length) ++ [(p, ([] : List Nat))]).length = T.length + 1 := by simp
        rw [hlen]
        rcases List.mem_append.mp h2 with h2 | h2
        · obtain ⟨i, hi⟩ := List.getElem?_of_mem h2
          rw [List.getElem?_modify] at hi
          cases e : T[i]? with
          | none => rw [e] at hi; cases hi
          | some t0 =>
            rw [e] at hi
            have h3 := hkl t0 (List.mem_of_getElem? e)
            have h4 : (if ar = i then addk T.length t0 else t0) = t2 := by simpa using hi
            rw [← h4]
            split
            · simp [addk]
              exact h3
            · omega
        · simp at h2
          subst h2
          simp
    -- if number > 0
    refine ⟨_, rfl, _, _, rfl, rfl, _, rfl, ?_⟩
    refine ite2 (fun c => ?_) (fun c => ?_)
    · have c' : 0 < T.length := by
        have := of_decide_eq_true c
        omega
      have har : ar < T.length := by
        rcases hlt (p, ar) List.mem_cons_self with h | h
        · exact h
        · have h' : ar = 0 := h
          omega
      obtain ⟨t1, ht1⟩ : ∃ t1, T[ar]? = some t1 := ⟨_, List.getElem?_eq_getElem har⟩
      obtain ⟨r1, hr1⟩ : ∃ r1, rs[ar]? = some r1 := ⟨_, List.getElem?_eq_getElem (by rw [hR.len]; exact har)⟩
      obtain ⟨x1, x2, x3⟩ := hR4.at_ ar r1 t1 hr1 ht1
      have hat : atI ((rs.map fun r => V.ref r.1) ++ [V.ref t]) (ar : Int) = some (V.ref r1.1) := atI_nat (by
        rw [List.getElem?_append_left (by rw [en]; exact har), List.getElem?_map, hr1]
        rfl)
      have hm1 := List.mem_of_getElem? hr1
      have hk2 : (kidsV t1.2).length < sizeLine := by
        have h1 := hkl t1 (List.mem_of_getElem? ht1)
        exact szb (by rw [kidsV, List.length_map]; omega)
      refine ⟨_, rfl, _, rfl, tA, _, _, _, rfl, rfl, sL hT4, hat, r1.1, _, _, _, rfl, rfl, sT x1, atI_nat (j := 1) rfl, .inl ⟨rfl, _, sL x3⟩, _, rfl, r1.2.2, _, _, rfl, rfl, x3, hk2, ?_⟩
      have hx := hfr r1 hm1
      refine tail _ (g4.mut hx.1) (by rw [upd_ne hx.2.1.symm]; exact hT4) (hR4.grow hr1 ht1 nd) (StkAt.w hS4 x3) (fmW x3 hu4) (by rw [upd_ne (hnl r1 hm1).symm]; exact hl4) (by rw [upd_ne (ne_of ht4 x3 (by intro z; cases z))]; exact ht4) (by rw [upd_ne hx.2.2.symm]; exact hA4)
    · have c' : T.length = 0 := by
        have := of_decide_eq_false (Bool.eq_false_iff.mpr c)
        omega
      have hT0 : T = [] := List.length_eq_zero_iff.mp c'
      refine tail H4 g4 hT4 ?_ hS4 hu4 hl4 ht4 hA4
      subst hT0
      have e0 : ([] : Lay).modify ar (addk ([] : Lay).length) = [] := by simp
      rw [e0]
      exact hR4
end
end Sw
set_option Elab.async false
set_option maxRecDepth 100000
set_option maxHeartbeats 4000000
namespace Sw
open PySem L2 PySem.Spec PyProof.Rows
/-! ### is_sign, is_row -/
def letter (c : Nat) : Bool := decide (97 ≤ c) && decide (c ≤ 122)
def signS (t : Str) : Bool := decide (1 ≤ t.length) && decide (t.length ≤ 6) && t.cps.toList.all letter
def signD : PyData → Bool
  | .str t => signS t
  | _ => false
def rowD : PyData → Bool
  | .tuple ds => ds.all signD
  | _ => false
theorem lt_one (a b : Nat) : decide ([a] < [b]) = decide (a < b) := by
  by_cases h : a < b
  · rw [decide_eq_true h]; exact decide_eq_true (List.Lex.rel h)
  · rw [decide_eq_false h]
    refine decide_eq_false fun z => ?_
    cases z with
    | rel q => exact h q
    | cons q => cases q
end Sw
set_option Elab.async false
set_option maxRecDepth 100000
set_option maxHeartbeats 8000000
namespace Sw
open PySem L2 PySem.Spec PyProof.Rows
theorem iteT' {c A B : Prop} [Decidable c] (hc : c) (h : A) : if c then A else B := by rw [if_pos hc]; exact h
theorem iteF' {c A B : Prop} [Decidable c] (hc : ¬ c) (h : B) : if c then A else B := by rw [if_neg hc]; exact h
theorem pairedLen {α β : Type} {F : α → β → Prop} {as : List α} {bs : List β} (h : Paired F as bs) : as.length = bs.length := Paired.length h
theorem catA {K : PySem.W.Frag} {H : Hp} {a b : Addr} {xs ys : List V} {Q : VK} (ha : SqT K H a xs) (hb : SqT K H b ys) (hl : xs.length + ys.length ≤ sizeLine) (k : ∀ (H' : Hp) (q : Addr), Same H H' → SqT K H' q (xs ++ ys) → Q (.ref q) H') : rCatA K (.ref a) (.ref b) H Q := by
  refine ⟨a, b, xs, ys, rfl, rfl, ha, hb, hl, fun e => ?_, fun _ e => ?_, fun _ _ p hp => k _ p (.new hp) (sT upd_same)⟩
  · subst e
    exact k H b (Same.refl _) hb
  · subst e
    exact k H a (Same.refl _) (by rw [List.append_nil]; exact ha)
mutual
def noL : PyData → Bool
  | .list _ => false
  | .dict _ => false
  | .tuple ds => noLs ds
  | _ => true
def noLs : List PyData → Bool
  | [] => true
  | d :: ds => noL d && noLs ds
end
mutual
theorem dpSameT {K : PySem.W.Frag} {H H' : Hp} (s : ∀ a xs, SqT K H a xs → SqT K H' a xs) : ∀ (d : PyData) (v : V), noL d = true → Dp K H v d → Dp K H' v d
  | .none, _, _, h => by cases h; exact .non
  | .bool b, _, _, h => by cases h; exact .bl b
  | .int i, _, _, h => by cases h; exact .int i
  | .str x, _, _, h => by cases h; exact .str x
  | .list ds, _, e, h => by cases e
  | .tuple ds, _, e, h => by
    cases h with
    | tup h1 h2 => exact .tup (s _ _ h1) (dpAllSameT s ds _ (by unfold noL at e; exact e) h2)
  | .dict _, _, e, h => by cases e
theorem dpAllSameT {K : PySem.W.Frag} {H H' : Hp} (s : ∀ a xs, SqT K H a xs → SqT K H' a xs) : ∀ (ds : List PyData) (vs : List V), noLs ds = true → DpAll K H vs ds → DpAll K H' vs ds
  | [], _, _, h => by cases h; exact .nil
  | d :: ds, _, e, h => by
    cases h with
    | cons h1 h2 =>
      unfold noLs at e
      rw [Bool.and_eq_true] at e
      exact .cons (dpSameT s d _ e.1 h1) (dpAllSameT s ds _ e.2 h2)
end
def SL (x y : Str) : Prop := x.cps.toList < y.cps.toList
theorem SL.asymm {x y : Str} (h : SL x y) (g : SL y x) : False := List.lt_asymm h g
theorem SL.trans {x y z : Str} (h : SL x y) (g : SL y z) : SL x z := List.lt_trans h g
theorem str_ext {x y : Str} (h : x.cps.toList = y.cps.toList) : x = y := by
  cases x; cases y
  have := Array.toList_inj.mp h
  simp at this
  subst this
  rfl
theorem SL.of {x y : Str} (h : ltCps y.cps.toList x.cps.toList = false) (n : x ≠ y) : SL x y := by
  rw [ltCps_eq] at h
  have h' : ¬ y.cps.toList < x.cps.toList := of_decide_eq_false h
  have hle : x.cps.toList ≤ y.cps.toList := h'
  by_cases q : x.cps.toList < y.cps.toList
  · exact q
  · have hge : y.cps.toList ≤ x.cps.toList := q
    exact absurd (str_ext (List.le_antisymm hle hge)) n
theorem risingS_up : ∀ (p : Str) (l : List Str), risingS p l = true → (p :: l).Nodup → (p :: l).Pairwise SL
  | p, [], _, _ => List.pairwise_singleton _ _
  | p, x :: r, h, nd => by
    have h' : (!ltCps x.cps.toList p.cps.toList && risingS x r) = true := h
    rw [Bool.and_eq_true] at h'
    rw [List.nodup_cons] at nd
    have t := risingS_up x r h'.2 nd.2
    have h1 : SL p x := SL.of (by simpa using h'.1) (fun e => nd.1 (by rw [e]; simp))
    refine List.pairwise_cons.mpr ⟨fun y hy => ?_, t⟩
    rcases List.mem_cons.mp hy with rfl | hy
    · exact h1
    · exact h1.trans ((List.pairwise_cons.mp t).1 y hy)
theorem sortedS_up {l : List Str} (h : sortedS l = true) (nd : l.Nodup) : l.Pairwise SL := by
  cases l with
  | nil => exact .nil
  | cons x r => exact risingS_up x r h nd
theorem SL.nd {l : List Str} (h : l.Pairwise SL) : l.Nodup := h.imp fun {a b} q e => by subst e; exact q.asymm q
end Sw
set_option Elab.async false
set_option maxRecDepth 100000
set_option maxHeartbeats 4000000
namespace Sw
open PySem L2 PySem.Spec PyProof.Rows
/-! ### what may take nothing -/
mutual
def Fm.nothing : Fm → Bool
  | .sign _ => false
  | .row ps => Fm.allN ps
  | .pick ps => Fm.anyN ps
  | .times p low _ => low == 0 || p.nothing
def Fm.allN : List Fm → Bool
  | [] => true
  | p :: ps => p.nothing && Fm.allN ps
def Fm.anyN : List Fm → Bool
  | [] => false
  | p :: ps => p.nothing || Fm.anyN ps
end
theorem allN_eq : ∀ ps : List Fm, Fm.allN ps = (ps.map Fm.nothing).all id
  | [] => rfl
  | p :: ps => by rw [Fm.allN, allN_eq ps]; rfl
theorem anyN_eq : ∀ ps : List Fm, Fm.anyN ps = (ps.map Fm.nothing).any id
  | [] => rfl
  | p :: ps => by rw [Fm.anyN, anyN_eq ps]; rfl
/-! ### the numbers of the parts lead to the parts -/
mutual
theorem laidF_kids : ∀ (f : Fm) (n j : Nat) (g : Fm) (ks : List Nat), (laidF f n)[j]? = some (g, ks) → ks.length = g.parts.length ∧ ∀ (i k : Nat), ks[i]? = some k → n + j < k ∧ ∃ (q : Fm) (kq : List Nat), (laidF f n)[k - n]? = some (q, kq) ∧ g.parts[i]? = some q
  | .sign s, n, j, g, ks, h => by
    have h0 : j = 0 := by
      cases j with
      | zero => rfl
      | succ j => simp [laidF] at h
    subst h0
    simp [laidF] at h
    obtain ⟨rfl, rfl⟩ := h
    exact ⟨rfl, fun i k hk => by simp at hk⟩
  | .row ps, n, j, g, ks, h => by
    rw [laidF] at h ⊢
    exact laidTop (.row ps) ps rfl n j g ks h
  | .pick ps, n, j, g, ks, h => by
    rw [laidF] at h ⊢
    exact laidTop (.pick ps) ps rfl n j g ks h
  | .times p l u, n, j, g, ks, h => by
    rw [laidF] at h ⊢
    cases j with
    | zero =>
      simp at h
      obtain ⟨rfl, rfl⟩ := h
      refine ⟨rfl, fun i k hk => ?_⟩
      cases i with
      | succ i => simp at hk
      | zero =>
        simp at hk
        subst hk
        refine ⟨by omega, p, starts p.parts (n + 1 + 1), ?_, rfl⟩
        have e : n + 1 - n = 1 := by omega
        rw [e, List.getElem?_cons_succ, laidF_eq]
        rfl
    | succ j =>
      rw [List.getElem?_cons_succ] at h
      obtain ⟨h1, h2⟩ := laidF_kids p (n + 1) j g ks h
      refine ⟨h1, fun i k hk => ?_⟩
      obtain ⟨h3, q, kq, h4, h5⟩ := h2 i k hk
      refine ⟨by omega, q, kq, ?_, h5⟩
      have e : k - n = k - (n + 1) + 1 := by omega
      rw [e, List.getElem?_cons_succ]
      exact h4
theorem laidTop : ∀ (f : Fm) (ps : List Fm), f.parts = ps → ∀ (n j : Nat) (g : Fm) (ks : List Nat), ((f, starts ps (n + 1)) :: laidFs ps (n + 1))[j]? = some (g, ks) →
    ks.length = g.parts.length ∧ ∀ (i k : Nat), ks[i]? = some k → n + j < k ∧ ∃ (q : Fm) (kq : List Nat), ((f, starts ps (n + 1)) :: laidFs ps (n + 1))[k - n]? = some (q, kq) ∧ g.parts[i]? = some q := by
  intro f ps e n j g ks h
  have ht := laidFs_kids ps (n + 1)
  cases j with
  | zero =>
    simp at h
    obtain ⟨rfl, rfl⟩ := h
    rw [e]
    refine ⟨ht.1, fun i k hk => ?_⟩
    obtain ⟨h1, q, kq, h2, h3⟩ := ht.2.1 i k hk
    refine ⟨by omega, q, kq, ?_, h3⟩
    have e2 : k - n = k - (n + 1) + 1 := by omega
    rw [e2, List.getElem?_cons_succ]
    exact h2
  | succ j =>
    rw [List.getElem?_cons_succ] at h
    obtain ⟨h1, h2⟩ := ht.2.2 j g ks h
    refine ⟨h1, fun i k hk => ?_⟩
    obtain ⟨h3, q, kq, h4, h5⟩ := h2 i k hk
    refine ⟨by omega, q, kq, ?_, h5⟩
    have e2 : k - n = k - (n + 1) + 1 := by omega
    rw [e2, List.getElem?_cons_succ]
    exact h4
theorem laidFs_kids : ∀ (ps : List Fm) (n : Nat), (starts ps n).length = ps.length ∧ (∀ (i k : Nat), (starts ps n)[i]? = some k → n ≤ k ∧ ∃ (q : Fm) (kq : List Nat), (laidFs ps n)[k - n]? = some (q, kq) ∧ ps[i]? = some q) ∧
    ∀ (j : Nat) (g : Fm) (ks : List Nat), (laidFs ps n)[j]? = some (g, ks) → ks.length = g.parts.length ∧ ∀ (i k : Nat), ks[i]? = some k → n + j < k ∧ ∃ (q : Fm) (kq : List Nat), (laidFs ps n)[k - n]? = some (q, kq) ∧ g.parts[i]? = some q
  | [], n => ⟨rfl, fun i k h => by simp [starts] at h, fun j g ks h => by simp [laidFs] at h⟩
  | p :: ps, n => by
    obtain ⟨a1, a2, a3⟩ := laidFs_kids ps (n + p.size)
    have hp := laidF_kids p n
    have hlen := laidF_length p n
    have hpos := p.size_pos
    refine ⟨by simp [starts, a1], fun i k h => ?_, fun j g ks h => ?_⟩
    · cases i with
      | zero =>
        simp [starts] at h
        subst h
        refine ⟨Nat.le_refl _, p, starts p.parts (n + 1), ?_, rfl⟩
        rw [Nat.sub_self, laidFs, laidF_eq]
        rfl
      | succ i =>
        simp [starts] at h
        obtain ⟨b1, q, kq, b2, b3⟩ := a2 i k h
        refine ⟨by omega, q, kq, ?_, by simpa using b3⟩
        rw [laidFs, List.getElem?_append_right (by omega), hlen]
        have e : k - n - p.size = k - (n + p.size) := by omega
        rw [e]
        exact b2
    · rw [laidFs] at h ⊢
      by_cases hj : j < p.size
      · rw [List.getElem?_append_left (by omega)] at h
        obtain ⟨b1, b2⟩ := hp j g ks h
        refine ⟨b1, fun i k hk => ?_⟩
        obtain ⟨b3, q, kq, b4, b5⟩ := b2 i k hk
        refine ⟨b3, q, kq, ?_, b5⟩
        rw [List.getElem?_append_left (List.getElem?_eq_some_iff.mp b4).1]
        exact b4
      · rw [List.getElem?_append_right (by omega), hlen] at h
        obtain ⟨b1, b2⟩ := a3 (j - p.size) g ks h
        refine ⟨b1, fun i k hk => ?_⟩
        obtain ⟨b3, q, kq, b4, b5⟩ := b2 i k hk
        refine ⟨by omega, q, kq, ?_, b5⟩
        rw [List.getElem?_append_right (by omega), hlen]
        have e : k - n - p.size = k - (n + p.size) := by omega
        rw [e]
        exact b4
end
/-- the kids of a laid form, from its own number on -/
theorem kids_of {f : Fm} {j : Nat} {g : Fm} {ks : List Nat} (h : (laidF f 0)[j]? = some (g, ks)) : ks.length = g.parts.length ∧ ∀ (i k : Nat), ks[i]? = some k → j < k ∧ ∃ (q : Fm) (kq : List Nat), (laidF f 0)[k]? = some (q, kq) ∧ g.parts[i]? = some q := by
  obtain ⟨h1, h2⟩ := laidF_kids f 0 j g ks h
  refine ⟨h1, fun i k hk => ?_⟩
  obtain ⟨h3, h4⟩ := h2 i k hk
  exact ⟨by omega, h4⟩
mutual
theorem laidF_le : ∀ (f : Fm) (n : Nat) (t : Fm × List Nat), t ∈ laidF f n → t.1.size ≤ f.size
  | .sign s, n, t, h => by simp [laidF] at h; subst h; exact Nat.le_refl _
  | .row ps, n, t, h => by
    rw [laidF] at h
    rcases List.mem_cons.mp h with rfl | h
    · exact Nat.le_refl _
    · have := laidFs_le ps (n + 1) t h
      simp [Fm.size]
      omega
  | .pick ps, n, t, h => by
    rw [laidF] at h
    rcases List.mem_cons.mp h with rfl | h
    · exact Nat.le_refl _
    · have := laidFs_le ps (n + 1) t h
      simp [Fm.size]
      omega
  | .times p l u, n, t, h => by
    rw [laidF] at h
    rcases List.mem_cons.mp h with rfl | h
    · exact Nat.le_refl _
    · have := laidF_le p (n + 1) t h
      simp [Fm.size]
      omega
theorem laidFs_le : ∀ (ps : List Fm) (n : Nat) (t : Fm × List Nat), t ∈ laidFs ps n → t.1.size ≤ Fm.sizes ps
  | [], n, t, h => by simp [laidFs] at h
  | p :: ps, n, t, h => by
    rw [laidFs] at h
    simp [Fm.sizes]
    rcases List.mem_append.mp h with h | h
    · have := laidF_le p n t h
      omega
    · have := laidFs_le ps (n + p.size) t h
      omega
end
theorem kids_len {f : Fm} {j : Nat} {g : Fm} {ks : List Nat} (h : (laidF f 0)[j]? = some (g, ks)) : ks.length < f.size := by
  have h1 := (kids_of h).1
  have h2 := laidF_le f 0 (g, ks) (List.mem_of_getElem? h)
  have h3 := len_sizes g.parts
  have h4 := g.size_eq
  have h5 : g.size ≤ f.size := h2
  omega
/-- what is reckoned of the parts -/
theorem kids_map {f : Fm} {j : Nat} {g : Fm} {ks : List Nat} {α : Type} (F : Fm → α) (d : α) (h : (laidF f 0)[j]? = some (g, ks)) : ks.map (fun k => ((laidF f 0)[k]?.map fun t => F t.1).getD d) = g.parts.map F := by
  obtain ⟨h1, h2⟩ := kids_of h
  refine List.ext_getElem? fun i => ?_
  rw [List.getElem?_map, List.getElem?_map]
  cases e : ks[i]? with
  | none =>
    have : g.parts[i]? = none := by
      rw [List.getElem?_eq_none_iff] at e ⊢
      omega
    rw [this]
    rfl
  | some k =>
    obtain ⟨_, q, kq, h4, h5⟩ := h2 i k e
    rw [h5]
    show some ((Option.map (fun t : Fm × List Nat => F t.1) (laidF f 0)[k]?).getD d) = some (F q)
    rw [h4]
    rfl
section
variable {P : Program} {w : World} {K : PySem.W.Frag} {mg : Str → Option Value} {base : Heap}
abbrev n_may_be_empty : List Str := ["piece", "parts"]
theorem sc_may_be_empty : FnScope n_may_be_empty ["piece", "parts"] (defScope s_may_be_empty) := ⟨rfl, rfl, rfl, by decide +kernel, rfl, by decide +kernel, by decide +kernel⟩
def spMayBe (K : PySem.W.Frag) : Sp := fun vs H Q _ => ∃ v f a, vs = [v, .ref a] ∧ FmAt K H v f ∧ SqL K H a ((f.parts.map Fm.nothing).map V.bl) ∧ Q (.bl f.nothing) H
theorem ok_may_be_empty (F : DefAt K mg "_may_be_empty" s_may_be_empty ["piece", "parts"]) (b_all : mg "all" = none) (b_any : mg "any" = none) : DefOk P w K mg base "_may_be_empty" 1 ["piece", "parts"] (spMayBe K) := by
  refine F.ok sc_may_be_empty (fun vs H Q E h => ?_) (fun f cdv A outer s H vs Q E hr h => ?_)
  · obtain ⟨v, f, a, rfl, _⟩ := h
    rfl
  obtain ⟨v, f, pa, rfl, hf, hp, k⟩ := h
  refine ⟨_, (pss_cons (ps_if (pt_cmpR op_eq (pe_ix ix_tup (pv 0) pe_int (fun _ _ => rfl)) pe_str (nomark _)) (pss_one (ps_ret (pe_callB (cr_all rfl) (by rfl) b_all (by decide +kernel) (pa_cons (pv 1) pa_nil)))) pss_nil)
    (pss_cons (ps_if (pt_cmpR op_eq (pe_ix ix_tup (pv 0) pe_int (fun _ _ => rfl)) pe_str (nomark _)) (pss_one (ps_ret (pe_callB (cr_any rfl) (by rfl) b_any (by decide +kernel) (pa_cons (pv 1) pa_nil)))) pss_nil)
    (pss_one (ps_ret (pe_and (pe_cmpR op_eq (pe_ix ix_tup (pv 0) pe_int (fun _ _ => rfl)) pe_str (nomark _)) (pe_one (pe_or (pe_cmpR op_eq (pe_ix ix_tup (pv 0) pe_int (fun _ _ => rfl)) pe_int (nomark _)) (pe_one (pe_ix ix_list (pv 1) pe_int (fun _ _ => rfl)))))))))), ?_⟩
  cases f with
  | sign s =>
    obtain ⟨a, rfl, ht⟩ := fmSign hf
    refine ⟨_, rfl, a, _, 0, _, rfl, rfl, ht, atI_nat (j := 0) rfl, rfl, _, rfl, ?_⟩
    refine iteF ?_
    refine ⟨_, rfl, a, _, 0, _, rfl, rfl, ht, atI_nat (j := 0) rfl, rfl, _, rfl, ?_⟩
    refine iteF ?_
    refine ⟨_, rfl, a, _, 0, _, rfl, rfl, ht, atI_nat (j := 0) rfl, rfl, _, rfl, ?_⟩
    refine iteF ?_
    exact k
  | row ps =>
    obtain ⟨a, b, vs, rfl, ht, hb, hv⟩ := fmRow hf
    refine ⟨_, rfl, a, _, 0, _, rfl, rfl, ht, atI_nat (j := 0) rfl, rfl, _, rfl, ?_⟩
    refine iteT ?_
    refine ⟨_, rfl, pa, _, rfl, hp, ?_⟩
    have e : ((Fm.row ps).parts.map Fm.nothing).all id = (Fm.row ps).nothing := by rw [Fm.nothing, allN_eq]; rfl
    rw [e]
    exact k
  | pick ps =>
    obtain ⟨a, b, vs, rfl, ht, hb, hv⟩ := fmPick hf
    refine ⟨_, rfl, a, _, 0, _, rfl, rfl, ht, atI_nat (j := 0) rfl, rfl, _, rfl, ?_⟩
    refine iteF ?_
    refine ⟨_, rfl, a, _, 0, _, rfl, rfl, ht, atI_nat (j := 0) rfl, rfl, _, rfl, ?_⟩
    refine iteT ?_
    refine ⟨_, rfl, pa, _, rfl, hp, ?_⟩
    have e : ((Fm.pick ps).parts.map Fm.nothing).any id = (Fm.pick ps).nothing := by rw [Fm.nothing, anyN_eq]; rfl
    rw [e]
    exact k
  | times p low high =>
    obtain ⟨a, u, rfl, ht, hu⟩ := fmTimes hf
    refine ⟨_, rfl, a, _, 0, _, rfl, rfl, ht, atI_nat (j := 0) rfl, rfl, _, rfl, ?_⟩
    refine iteF ?_
    refine ⟨_, rfl, a, _, 0, _, rfl, rfl, ht, atI_nat (j := 0) rfl, rfl, _, rfl, ?_⟩
    refine iteF ?_
    refine ⟨_, rfl, a, _, 0, _, rfl, rfl, ht, atI_nat (j := 0) rfl, rfl, _, rfl, ?_⟩
    refine iteT ?_
    refine ⟨_, rfl, a, _, 2, _, rfl, rfl, ht, atI_nat (j := 2) rfl, rfl, _, rfl, ?_⟩
    by_cases h0 : low = 0
    · subst h0
      refine iteT ?_
      exact k
    · have e : decide (V.int (low : Int) = V.int 0) = false := decide_eq_false fun q => h0 (by have := V.int.inj q; omega)
      rw [e]
      refine iteF ?_
      refine ⟨_, rfl, pa, _, 0, _, rfl, rfl, hp, atI_nat (j := 0) rfl, ?_⟩
      have e2 : (Fm.times p low high).nothing = p.nothing := by
        rw [Fm.nothing, beq_eq_false_iff_ne.mpr h0]
        rfl
      rw [e2] at k
      exact k
abbrev n_emptiness : List Str := ["pieces", "told", "_", "number", "piece", "parts", "part"]
theorem sc_emptiness : FnScope n_emptiness ["pieces"] (defScope s_emptiness) := ⟨rfl, rfl, rfl, by decide +kernel, rfl, by decide +kernel, by decide +kernel⟩
def emptL (f : Fm) : List V := (laidF f 0).map fun t => V.bl t.1.nothing
def spEmpt (K : PySem.W.Frag) : Sp := fun vs H Q _ => ∃ a f, vs = [.ref a] ∧ LaidAt K H a (laidF f 0) ∧ f.size ≤ 1000000 ∧ ∀ H' b, Same H H' → H b = none → H' b = some (.lst (emptL f)) → Q (.ref b) H'
theorem ok_emptiness (F : DefAt K mg "emptiness" s_emptiness ["pieces"]) (d__may_be_empty : DefOk P w K mg base "_may_be_empty" 1 ["piece", "parts"] (spMayBe K)) (b_len : mg "len" = none) (b_range : mg "range" = none) (b_reversed : mg "reversed" = none) : DefOk P w K mg base "emptiness" 2 ["pieces"] (spEmpt K) := by
  refine F.ok sc_emptiness (fun vs H Q E h => ?_) (fun f cdv A outer s H vs Q E hr h => ?_)
  · obtain ⟨v, f, rfl, _⟩ := h
    rfl
  obtain ⟨pa, f, rfl, ⟨rs, hP, hR⟩, hsz, k⟩ := h
  refine ⟨_, (pss_cons (ps_set (i := 1) sc_emptiness.nd rfl (Or.inr rfl) (pe_lc (own := [("_", 2)]) rfl sc_emptiness.nd (pi_list (pv 0)) (blkOk_by (own := [("_", 2)]) (N := n_emptiness) (sc := defScope s_emptiness) (by decide +kernel)) (fun _ _ _ _ _ => (pg_name (i := 2) sc_emptiness.nd rfl (Or.inl rfl))) (fun _ _ _ _ _ => pts_nil) (fun _ _ _ _ _ => pe_bl)))
    (pss_cons (ps_for PassesOwn.never rfl (pi_revR rfl b_reversed (prg_1 rfl b_range (pe_callB call_len_seq (by rfl) b_len PySem.boot_len (pa_cons (pv 0) pa_nil)))) (pg_name (i := 3) sc_emptiness.nd rfl (Or.inl rfl))
      (pss_cons (ps_asg (pe_ix ix_list (pv 0) (pv 3) (fun _ _ => rfl)) (pg_tup rfl (pgs_cons (pg_name (i := 4) sc_emptiness.nd rfl (Or.inl rfl)) (pgs_cons (pg_name (i := 5) sc_emptiness.nd rfl (Or.inl rfl)) pgs_nil))))
    (pss_one (ps_asg (pe_callD d__may_be_empty (hr.mono (by decide)) rfl (pa_cons (pv 4) (pa_cons (pe_lc (own := [("part", 6)]) rfl sc_emptiness.nd (pi_list (pv 5)) (blkOk_by (own := [("part", 6)]) (N := n_emptiness) (sc := defScope s_emptiness) (by decide +kernel)) (fun _ _ _ _ _ => (pg_name (i := 6) sc_emptiness.nd rfl (Or.inl rfl))) (fun _ _ _ _ _ => pts_nil) (fun _ _ _ _ _ => (pe_ix (r := rIxL K) ix_list (pv 1) (pv 6) (fun _ _ => rfl)))) pa_nil))) (pg_sub (pv 1) (pv 3) set_list)))))
    (pss_one (ps_ret (pv 1))))), ?_⟩
  have hL : (rs.map fun r => V.ref r.1).length = f.size := by rw [List.length_map, hR.len, laidF_length]
  have hEl : (emptL f).length = f.size := by rw [emptL, List.length_map, laidF_length]
  refine ⟨_, rfl, pa, rfl, ⟨_, sL hP⟩, fun D hD => lc_list (K := K) (a := pa) (xs := rs.map fun r => V.ref r.1) (fun i H' => Same H H' ∧ H' D = some (.lst (List.replicate i (V.bl false)))) ⟨.new hD, upd_same⟩ (fun i H' _ ⟨g, _⟩ => sL (g _ _ hP)) ?_ ?_⟩
  · rintro i x H' hx ⟨g, hD'⟩
    have hi : i < f.size := by rw [← hL]; exact (List.getElem?_eq_some_iff.mp hx).1
    refine ⟨rfl, ?_⟩
    refine ⟨_, hD', szb (by simp; omega), g.mut hD, ?_⟩
    rw [upd_same, List.replicate_succ']
  rintro H1 ⟨g1, hD1⟩
  rw [hL] at hD1
  refine ⟨_, rfl, pa, _, rfl, .inl (sL (g1 _ _ hP)), _, rfl, by decide, by decide, (by rw [hL]; omega), (by rw [hL]; omega), ?_⟩
  rw [hL]
  have hn : (((f.size : Int) - 0).toNat) = f.size := by omega
  rw [hn]
  refine for_rangeC (fun i σ H' => ∃ o3 o4 o5, σ = [some (.ref pa), some (.ref D), none, o3, o4, o5, none] ∧ Same H H' ∧ H' D = some (.lst (List.replicate (f.size - i) (V.bl false) ++ (emptL f).drop (f.size - i)))) ⟨none, none, none, rfl, g1, ?_⟩ ?_ ?_
  · rw [hD1, List.drop_eq_nil_of_le (by omega)]
    simp
  · rintro i σ H2 hi ⟨o3, o4, o5, rfl, g2, hD2⟩
    obtain ⟨j, hj, ej⟩ : ∃ j : Nat, j + i + 1 = f.size ∧ (0 + (f.size : Int) - 1 + (i : Nat) * (-1) : Int) = (j : Int) := ⟨f.size - i - 1, by omega, by omega⟩
    rw [ej]
    have hjT : j < (laidF f 0).length := by rw [laidF_length]; omega
    obtain ⟨t, ht⟩ : ∃ t, (laidF f 0)[j]? = some t := ⟨_, List.getElem?_eq_getElem hjT⟩
    obtain ⟨r, hr1⟩ : ∃ r, rs[j]? = some r := ⟨_, List.getElem?_eq_getElem (by rw [hR.len]; exact hjT)⟩
    obtain ⟨x1, x2, x3⟩ := (hR.same g2).at_ j r t hr1 ht
    obtain ⟨p, ks⟩ := t
    -- piece, parts = pieces[number]
    refine ⟨_, rfl, _, rfl, pa, _, _, _, rfl, rfl, sL (g2 _ _ hP), atI_nat (j := j) (by rw [List.getElem?_map, hr1]; rfl), ?_⟩
    refine ⟨r.1, _, rfl, sT x1, rfl, _, _, rfl, _, _, rfl, rfl, ?_⟩
    -- told[number] = _may_be_empty(piece, [..])
    refine ⟨_, rfl, ?_⟩
    have eS : f.size - i = j + 1 := by omega
    rw [eS] at hD2
    have hTl : ∀ k : Nat, j < k → k < f.size → (List.replicate (j + 1) (V.bl false) ++ (emptL f).drop (j + 1))[k]? = (emptL f)[k]? := fun k h1 h2 => by
      rw [List.getElem?_append_right (by simp; omega), List.length_replicate, List.getElem?_drop]
      congr 1
      omega
    have hkid := kids_of ht
    have hall : ∀ (i k : Nat), ks[i]? = some k → ∃ q, p.parts[i]? = some q ∧ (List.replicate (j + 1) (V.bl false) ++ (emptL f).drop (j + 1))[k]? = some (.bl q.nothing) := fun i k hk => by
      obtain ⟨h1, q, kq, h2, h3⟩ := hkid.2 i k hk
      have h4 : k < f.size := by rw [← laidF_length f 0]; exact (List.getElem?_eq_some_iff.mp h2).1
      refine ⟨q, h3, ?_⟩
      rw [hTl k h1 h4, emptL, List.getElem?_map, h2]
      rfl
    have hksz : ks.length ≤ f.size := Nat.le_of_lt (kids_len ht)
    refine ⟨_, rfl, r.2.2, rfl, ⟨_, sL x3⟩, fun D2 hD2n => lc_list (K := K) (a := r.2.2) (xs := kidsV ks) (fun m H' => Same H2 H' ∧ H' D2 = some (.lst ((p.parts.take m).map fun q => V.bl q.nothing))) ⟨.new hD2n, upd_same⟩ (fun m H' _ ⟨g, _⟩ => sL (g _ _ x3)) ?_ ?_⟩
    · rintro m x H' hx ⟨g, hD'⟩
      rw [kidsV, List.getElem?_map] at hx
      obtain ⟨k, hk, rfl⟩ : ∃ k, ks[m]? = some k ∧ x = V.int (k : Int) := by
        cases e : ks[m]? with
        | none => rw [e] at hx; cases hx
        | some k => rw [e] at hx; exact ⟨k, rfl, (Option.some.inj hx).symm⟩
      obtain ⟨q, hq1, hq2⟩ := hall m k hk
      refine ⟨rfl, ?_⟩
      refine ⟨_, rfl, _, rfl, D, _, _, _, rfl, rfl, sL (g _ _ hD2), atI_nat hq2, _, hD', ?_, g.mut hD2n, ?_⟩
      · have hm : m < ks.length := (List.getElem?_eq_some_iff.mp hk).1
        refine szb ?_
        rw [List.length_map, List.length_take]
        omega
      · rw [upd_same, List.take_add_one, hq1]
        simp
    · rintro H3 ⟨g3, hD3⟩
      have eL : (kidsV ks).length = p.parts.length := by rw [kidsV, List.length_map]; exact hkid.1
      rw [eL, List.take_length] at hD3
      refine ⟨r.2.1, p, D2, rfl, dpS g3 x2, ?_, ?_⟩
      · refine sL ?_
        rw [hD3, List.map_map]
        rfl
      have hjD : ixN (List.replicate (j + 1) (V.bl false) ++ (emptL f).drop (j + 1)).length (j : Int) = some j := by
        unfold ixN
        rw [if_pos (by omega), if_pos (by rw [List.length_append, List.length_replicate]; omega)]
        simp
      refine ⟨_, rfl, _, rfl, D, _, _, _, rfl, rfl, g3 _ _ hD2, hjD, ?_⟩
      refine ⟨_, _, _, rfl, (g2.trans g3).mut hD, ?_⟩
      rw [upd_same]
      have e1 : f.size - (i + 1) = j := by omega
      rw [e1]
      have e2 : (emptL f)[j]? = some (.bl p.nothing) := by rw [emptL, List.getElem?_map, ht]; rfl
      refine congrArg some (congrArg HO.lst (List.ext_getElem? fun m => ?_))
      rw [List.getElem?_set]
      by_cases hm : j = m
      · subst hm
        rw [if_pos rfl, if_pos (by rw [List.length_append, List.length_replicate]; omega), List.getElem?_append_right (by simp), List.length_replicate, Nat.sub_self, List.getElem?_drop, Nat.add_zero, e2]
      · rw [if_neg hm]
        by_cases hm2 : m < j
        · rw [List.getElem?_append_left (by simp; omega), List.getElem?_append_left (by simp; omega), List.getElem?_replicate, List.getElem?_replicate, if_pos (by omega), if_pos hm2]
        · rw [List.getElem?_append_right (by simp; omega), List.getElem?_append_right (by simp; omega), List.length_replicate, List.length_replicate, List.getElem?_drop, List.getElem?_drop]
          congr 1
          omega
  · rintro σ H2 ⟨o3, o4, o5, rfl, g2, hD2⟩
    refine ⟨_, rfl, k H2 D g2 hD ?_⟩
    rw [hD2, Nat.sub_self]
    simp
abbrev n_may_nothing : List Str := ["form"]
theorem sc_may_nothing : FnScope n_may_nothing ["form"] (defScope s_may_nothing) := ⟨rfl, rfl, rfl, by decide +kernel, rfl, by decide +kernel, by decide +kernel⟩
def spMayN (K : PySem.W.Frag) : Sp := fun vs H Q _ => ∃ v f, vs = [v] ∧ FmAt K H v f ∧ f.size ≤ 1000000 ∧ ∀ H', Same H H' → Q (.bl f.nothing) H'
theorem ok_may_nothing (F : DefAt K mg "may_nothing" s_may_nothing ["form"]) (d_laid : DefOk P w K mg base "laid" 2 ["form"] (spLaid K)) (d_emptiness : DefOk P w K mg base "emptiness" 2 ["pieces"] (spEmpt K)) : DefOk P w K mg base "may_nothing" 3 ["form"] (spMayN K) := by
  refine F.ok sc_may_nothing (fun vs H Q E h => ?_) (fun f cdv A outer s H vs Q E hr h => ?_)
  · obtain ⟨v, f, rfl, _⟩ := h
    rfl
  obtain ⟨v, f, rfl, hf, hsz, k⟩ := h
  refine ⟨_, (pss_one (ps_ret (pe_ix ix_list (pe_callD d_emptiness (hr.mono (by decide)) rfl (pa_cons (pe_callD d_laid (hr.mono (by decide)) rfl (pa_cons (pv 0) pa_nil)) pa_nil)) pe_int (fun _ _ => rfl)))), ?_⟩
  refine ⟨_, rfl, v, f, rfl, hf, hsz, fun H1 a s1 _ hl => ⟨a, f, rfl, hl, hsz, fun H2 b s2 _ hb => ⟨b, _, 0, _, rfl, rfl, sL hb, atI_nat (j := 0) (v := .bl f.nothing) ?_, k H2 (s1.trans s2)⟩⟩⟩
  rw [emptL, laidF_eq]
  rfl
end
end Sw
set_option Elab.async false
set_option maxRecDepth 100000
set_option maxHeartbeats 8000000
namespace Sw
open PySem L2 PySem.Spec PyProof.Rows
abbrev RowS := List Str
def few (low : Nat) (pe : Bool) : Nat := if pe then 1 else max low 1
section
variable {P : Program} {w : World} {K : PySem.W.Frag} {mg : Str → Option Value} {base : Heap}
abbrev n_fewest_rounds : List Str := ["low", "part_empty"]
theorem sc_fewest_rounds : FnScope n_fewest_rounds ["low", "part_empty"] (defScope s_fewest_rounds) := ⟨rfl, rfl, rfl, by decide +kernel, rfl, by decide +kernel, by decide +kernel⟩
def spFew : Sp := fun vs H Q _ => ∃ (low : Nat) (pe : Bool), vs = [.int (low : Int), .bl pe] ∧ Q (.int (few low pe : Nat)) H
theorem ok_fewest_rounds (F : DefAt K mg "fewest_rounds" s_fewest_rounds ["low", "part_empty"]) (b_max : mg "max" = none) : DefOk P w K mg base "fewest_rounds" 1 ["low", "part_empty"] spFew := by
  refine F.ok sc_fewest_rounds (fun vs H Q E h => ?_) (fun f cdv A outer s H vs Q E hr h => ?_)
  · obtain ⟨v, f, rfl, _⟩ := h
    rfl
  obtain ⟨low, pe, rfl, k⟩ := h
  refine ⟨_, (pss_one (ps_ret (pe_ifExp (pt_val (pv 1)) pe_int (pe_callB (call_max2 rfl) (by rfl) b_max (by decide +kernel) (pa_cons (pv 0) (pa_cons pe_int pa_nil)))))), ?_⟩
  refine ⟨_, rfl, pe, rfl, ?_⟩
  cases pe with
  | true =>
    refine iteT ?_
    exact k
  | false =>
    refine iteF ?_
    refine ⟨_, rfl, _, _, rfl, ?_⟩
    have e : (if (1 : Int) > (low : Int) then (1 : Int) else (low : Int)) = ((few low false : Nat) : Int) := by
      show _ = ((max low 1 : Nat) : Int)
      split <;> omega
    rw [e]
    exact k
end
inductive Rdg where
  | leaf
  | row (ps : List (Nat × Rdg))
  | pick (k : Nat) (r : Rdg)
  | times (rs : List Rdg)
mutual
def Rdg.dat : Rdg → PyData
  | .leaf => .tuple [.str "leaf"]
  | .row ps => .tuple [.str "row", .tuple (Rdg.datP ps)]
  | .pick k r => .tuple [.str "pick", .int (k : Int), r.dat]
  | .times rs => .tuple [.str "times", .tuple (Rdg.datL rs)]
def Rdg.datP : List (Nat × Rdg) → List PyData
  | [] => []
  | (k, r) :: ps => .tuple [.int (k : Int), r.dat] :: Rdg.datP ps
def Rdg.datL : List Rdg → List PyData
  | [] => []
  | r :: rs => r.dat :: Rdg.datL rs
end
theorem datP_map : ∀ ps : List (Nat × Rdg), Rdg.datP ps = ps.map fun p => PyData.tuple [.int (p.1 : Int), p.2.dat]
  | [] => rfl
  | (k, r) :: ps => by rw [Rdg.datP, datP_map ps]; rfl
theorem datL_map : ∀ rs : List Rdg, Rdg.datL rs = rs.map Rdg.dat
  | [] => rfl
  | r :: rs => by rw [Rdg.datL, datL_map rs]; rfl
mutual
/-- a reading of a row by a form -/
def Rdg.ok : Rdg → Fm → RowS → Prop
  | .leaf, .sign s, r => r = [s]
  | .row prs, .row ps, r => prs ≠ [] ∧ Rdg.okRow prs ps 0 ps.length r
  | .pick k q, .pick ps, r => ∃ p, ps[k]? = some p ∧ q.ok p r
  | .times qs, .times p low high, r => qs ≠ [] ∧ few low p.nothing ≤ qs.length ∧ (∀ h, high = some h → qs.length ≤ h) ∧ Rdg.okAll qs p r
  | _, _, _ => False
/-- parts from lo on to hi -/
def Rdg.okRow : List (Nat × Rdg) → List Fm → Nat → Nat → RowS → Prop
  | [], ps, lo, hi, r => r = [] ∧ ∀ i p, lo ≤ i → i < hi → ps[i]? = some p → p.nothing = true
  | (j, q) :: prs, ps, lo, hi, r => lo ≤ j ∧ j < hi ∧ (∀ i p, lo ≤ i → i < j → ps[i]? = some p → p.nothing = true) ∧ ∃ p r1 r2, ps[j]? = some p ∧ r = r1 ++ r2 ∧ q.ok p r1 ∧ Rdg.okRow prs ps (j + 1) hi r2
def Rdg.okAll : List Rdg → Fm → RowS → Prop
  | [], _, r => r = []
  | q :: qs, p, r => ∃ r1 r2, r = r1 ++ r2 ∧ q.ok p r1 ∧ Rdg.okAll qs p r2
end
mutual
theorem ok_ne : ∀ (q : Rdg) (f : Fm) (r : RowS), q.ok f r → r ≠ []
  | .leaf, .sign s, r, h => by rw [Rdg.ok] at h; rw [h]; intro e; cases e
  | .row prs, .row ps, r, h => by
    rw [Rdg.ok] at h
    exact okRow_ne prs ps 0 ps.length r h.1 h.2
  | .pick k q, .pick ps, r, h => by
    rw [Rdg.ok] at h
    obtain ⟨p, _, h2⟩ := h
    exact ok_ne q p r h2
  | .times qs, .times p low high, r, h => by
    rw [Rdg.ok] at h
    exact okAll_ne qs p r h.1 h.2.2.2
  | .leaf, .row _, r, h => by rw [Rdg.ok] at h; exact h.elim; all_goals intros; contradiction
  | .leaf, .pick _, r, h => by rw [Rdg.ok] at h; exact h.elim; all_goals intros; contradiction
  | .leaf, .times _ _ _, r, h => by rw [Rdg.ok] at h; exact h.elim; all_goals intros; contradiction
  | .row _, .sign _, r, h => by rw [Rdg.ok] at h; exact h.elim; all_goals intros; contradiction
  | .row _, .pick _, r, h => by rw [Rdg.ok] at h; exact h.elim; all_goals intros; contradiction
  | .row _, .times _ _ _, r, h => by rw [Rdg.ok] at h; exact h.elim; all_goals intros; contradiction
  | .pick _ _, .sign _, r, h => by rw [Rdg.ok] at h; exact h.elim; all_goals intros; contradiction
  | .pick _ _, .row _, r, h => by rw [Rdg.ok] at h; exact h.elim; all_goals intros; contradiction
  | .pick _ _, .times _ _ _, r, h => by rw [Rdg.ok] at h; exact h.elim; all_goals intros; contradiction
  | .times _, .sign _, r, h => by rw [Rdg.ok] at h; exact h.elim; all_goals intros; contradiction
  | .times _, .row _, r, h => by rw [Rdg.ok] at h; exact h.elim; all_goals intros; contradiction
  | .times _, .pick _, r, h => by rw [Rdg.ok] at h; exact h.elim; all_goals intros; contradiction
theorem okRow_ne : ∀ (prs : List (Nat × Rdg)) (ps : List Fm) (lo hi : Nat) (r : RowS), prs ≠ [] → Rdg.okRow prs ps lo hi r → r ≠ []
  | [], ps, lo, hi, r, hn, h => absurd rfl hn
  | (j, q) :: prs, ps, lo, hi, r, hn, h => by
    rw [Rdg.okRow] at h
    obtain ⟨h1, h2, h3, p, r1, r2, h4, rfl, h5, h6⟩ := h
    intro e
    exact ok_ne q p r1 h5 (List.append_eq_nil_iff.mp e).1
theorem okAll_ne : ∀ (qs : List Rdg) (p : Fm) (r : RowS), qs ≠ [] → Rdg.okAll qs p r → r ≠ []
  | [], p, r, hn, h => absurd rfl hn
  | q :: qs, p, r, hn, h => by
    rw [Rdg.okAll] at h
    obtain ⟨r1, r2, rfl, h1, h2⟩ := h
    intro e
    exact ok_ne q p r1 h1 (List.append_eq_nil_iff.mp e).1
end
mutual
theorem ok_one : ∀ (q : Rdg) (f : Fm) (r s : RowS), q.ok f r → q.ok f s → r = s
  | .leaf, .sign x, r, s, h, g => by rw [Rdg.ok] at h g; rw [h, g]
  | .row prs, .row ps, r, s, h, g => by
    rw [Rdg.ok] at h g
    exact okRow_one prs ps 0 ps.length r s h.2 g.2
  | .pick k q, .pick ps, r, s, h, g => by
    rw [Rdg.ok] at h g
    obtain ⟨p, h1, h2⟩ := h
    obtain ⟨p', g1, g2⟩ := g
    rw [h1] at g1
    cases g1
    exact ok_one q p r s h2 g2
  | .times qs, .times p low high, r, s, h, g => by
    rw [Rdg.ok] at h g
    exact okAll_one qs p r s h.2.2.2 g.2.2.2
  | .leaf, .row _, r, s, h, g => by rw [Rdg.ok] at h; exact h.elim; all_goals intros; contradiction
  | .leaf, .pick _, r, s, h, g => by rw [Rdg.ok] at h; exact h.elim; all_goals intros; contradiction
  | .leaf, .times _ _ _, r, s, h, g => by rw [Rdg.ok] at h; exact h.elim; all_goals intros; contradiction
  | .row _, .sign _, r, s, h, g => by rw [Rdg.ok] at h; exact h.elim; all_goals intros; contradiction
  | .row _, .pick _, r, s, h, g => by rw [Rdg.ok] at h; exact h.elim; all_goals intros; contradiction
  | .row _, .times _ _ _, r, s, h, g => by rw [Rdg.ok] at h; exact h.elim; all_goals intros; contradiction
  | .pick _ _, .sign _, r, s, h, g => by rw [Rdg.ok] at h; exact h.elim; all_goals intros; contradiction
  | .pick _ _, .row _, r, s, h, g => by rw [Rdg.ok] at h; exact h.elim; all_goals intros; contradiction
  | .pick _ _, .times _ _ _, r, s, h, g => by rw [Rdg.ok] at h; exact h.elim; all_goals intros; contradiction
  | .times _, .sign _, r, s, h, g => by rw [Rdg.ok] at h; exact h.elim; all_goals intros; contradiction
  | .times _, .row _, r, s, h, g => by rw [Rdg.ok] at h; exact h.elim; all_goals intros; contradiction
  | .times _, .pick _, r, s, h, g => by rw [Rdg.ok] at h; exact h.elim; all_goals intros; contradiction
theorem okRow_one : ∀ (prs : List (Nat × Rdg)) (ps : List Fm) (lo hi : Nat) (r s : RowS), Rdg.okRow prs ps lo hi r → Rdg.okRow prs ps lo hi s → r = s
  | [], ps, lo, hi, r, s, h, g => by
    rw [Rdg.okRow] at h g
    rw [h.1, g.1]
  | (j, q) :: prs, ps, lo, hi, r, s, h, g => by
    rw [Rdg.okRow] at h g
    obtain ⟨_, _, _, p, r1, r2, h4, rfl, h5, h6⟩ := h
    obtain ⟨_, _, _, p', s1, s2, g4, rfl, g5, g6⟩ := g
    rw [h4] at g4
    cases g4
    rw [ok_one q p r1 s1 h5 g5, okRow_one prs ps (j + 1) hi r2 s2 h6 g6]
theorem okAll_one : ∀ (qs : List Rdg) (p : Fm) (r s : RowS), Rdg.okAll qs p r → Rdg.okAll qs p s → r = s
  | [], p, r, s, h, g => by
    rw [Rdg.okAll] at h g
    rw [h, g]
  | q :: qs, p, r, s, h, g => by
    rw [Rdg.okAll] at h g
    obtain ⟨r1, r2, rfl, h1, h2⟩ := h
    obtain ⟨s1, s2, rfl, g1, g2⟩ := g
    rw [ok_one q p r1 s1 h1 g1, okAll_one qs p r2 s2 h2 g2]
end
theorem take_snoc {α : Type} {l : List α} {i : Nat} {x : α} (h : l[i]? = some x) : l.take (i + 1) = l.take i ++ [x] := by rw [List.take_add_one, h]; rfl
theorem pairedAtL {α β : Type} {F : α → β → Prop} : ∀ {l₁ : List α} {l₂ : List β} {i : Nat} {a : α}, Paired F l₁ l₂ → l₁[i]? = some a → ∃ b, l₂[i]? = some b ∧ F a b
  | _, _, _, _, .nil, h => by simp at h
  | _, _, 0, _, .cons r t, h => by simp at h; subst h; exact ⟨_, rfl, r⟩
  | _, _, i + 1, _, .cons r t, h => by
    simp at h
    obtain ⟨a, h1, h2⟩ := pairedAtL t h
    exact ⟨a, by simpa using h1, h2⟩
theorem sqTX {K : PySem.W.Frag} {H : Hp} {p a : Addr} {u o : HO} {ys : List V} (h : H p = some u) (n1 : ∀ xs, u ≠ .tup xs) (n2 : ∀ o xs, u ≠ .frz o (.tup xs)) (t : SqT K H a ys) : SqT K (upd H p o) a ys := by
  rcases t with t | t
  · rcases t with t | ⟨o', t⟩
    · exact .inl (.inl (by rw [upd_ne (fun e => by rw [e, h] at t; exact n1 _ (Option.some.inj t))]; exact t))
    · exact .inl (.inr ⟨o', by rw [upd_ne (fun e => by rw [e, h] at t; exact n2 _ _ (Option.some.inj t))]; exact t⟩)
  · exact .inr t
theorem dpX {K : PySem.W.Frag} {H : Hp} {p : Addr} {u o : HO} {v : V} {d : PyData} (h : H p = some u) (n1 : ∀ xs, u ≠ .tup xs) (n2 : ∀ o xs, u ≠ .frz o (.tup xs)) (n : noL d = true) (t : Dp K H v d) : Dp K (upd H p o) v d := dpSameT (fun _ _ q => sqTX h n1 n2 q) d v n t
theorem dpL {K : PySem.W.Frag} {H : Hp} {p : Addr} {xs : List V} {o : HO} {v : V} {d : PyData} (h : H p = some (.lst xs)) (n : noL d = true) (t : Dp K H v d) : Dp K (upd H p o) v d := dpX h (fun _ e => by cases e) (fun _ _ e => by cases e) n t
theorem noLs_map {α : Type} (f : α → PyData) (h : ∀ a, noL (f a) = true) : ∀ l : List α, noLs (l.map f) = true
  | [] => by simp [noLs]
  | a :: l => by rw [List.map_cons, noLs, h a, noLs_map f h l]; rfl
mutual
theorem noL_dat : ∀ q : Rdg, noL q.dat = true
  | .leaf => by simp [Rdg.dat, noL, noLs]
  | .row ps => by simp [Rdg.dat, noL, noLs, noL_datP ps]
  | .pick k q => by simp [Rdg.dat, noL, noLs, noL_dat q]
  | .times qs => by simp [Rdg.dat, noL, noLs, noL_datL qs]
theorem noL_datP : ∀ ps : List (Nat × Rdg), noLs (Rdg.datP ps) = true
  | [] => by simp [Rdg.datP, noLs]
  | (k, q) :: ps => by simp [Rdg.datP, noL, noLs, noL_dat q, noL_datP ps]
theorem noL_datL : ∀ qs : List Rdg, noLs (Rdg.datL qs) = true
  | [] => by simp [Rdg.datL, noLs]
  | q :: qs => by simp [Rdg.datL, noLs, noL_dat q, noL_datL qs]
end
theorem noL_prs (prs : List (Nat × Rdg)) : noL (.tuple (Rdg.datP prs)) = true := by rw [noL]; exact noL_datP prs
theorem dpAllS {K : PySem.W.Frag} {H H' : Hp} (s : Same H H') {ds : List PyData} {vs : List V} (n : noLs ds = true) (h : DpAll K H vs ds) : DpAll K H' vs ds := dpAllSameT (fun _ _ q => s.sqT q) ds vs n h
theorem dpAllL {K : PySem.W.Frag} {H : Hp} {p : Addr} {xs : List V} {o : HO} (hp : H p = some (.lst xs)) {ds : List PyData} {vs : List V} (n : noLs ds = true) (h : DpAll K H vs ds) : DpAll K (upd H p o) vs ds := dpAllSameT (fun _ _ q => sqTX hp (fun _ e => by cases e) (fun _ _ e => by cases e) q) ds vs n h
theorem dpAllSnoc {K : PySem.W.Frag} {H : Hp} {v : V} {d : PyData} : ∀ {vs : List V} {ds : List PyData}, DpAll K H vs ds → Dp K H v d → DpAll K H (vs ++ [v]) (ds ++ [d])
  | [], _, h, hd => by cases h; exact .cons hd .nil
  | _ :: _, _, h, hd => by
    cases h with
    | cons h1 h2 => exact .cons h1 (dpAllSnoc h2 hd)
theorem cut_drop (xs : List V) (n : Nat) : cutV xs (some (n : Int)) none = xs.drop n := by
  unfold cutV
  rw [HT.sIx_nat, HT.sIx_none]
  by_cases h : n ≤ xs.length
  · rw [Nat.min_eq_left h, List.take_of_length_le (by rw [List.length_drop]; exact Nat.le_refl _)]
  · rw [Nat.min_eq_right (by omega), List.drop_of_length_le (Nat.le_refl _), List.drop_of_length_le (by omega), List.take_nil]
theorem cut_take (xs : List V) (n : Nat) : cutV xs none (some (n : Int)) = xs.take n := by
  unfold cutV
  rw [HT.sIx_nat, HT.sIx_none, List.drop_zero, Nat.sub_zero]
  by_cases h : n ≤ xs.length
  · rw [Nat.min_eq_left h]
  · rw [Nat.min_eq_right (by omega), List.take_of_length_le (by omega), List.take_of_length_le (by omega)]
theorem take_min {α : Type} (l : List α) (n m : Nat) (h : l.length ≤ m) : l.take (min n m) = l.take n := by
  by_cases h2 : n ≤ m
  · rw [Nat.min_eq_left h2]
  · have h3 : min n m = m := Nat.min_eq_right (by omega)
    rw [h3, List.take_of_length_le h, List.take_of_length_le (by omega)]
theorem cut_seg (xs : List V) (a e : Nat) : cutV xs (some (a : Int)) (some (e : Int)) = (xs.drop a).take (e - a) := by
  unfold cutV
  rw [HT.sIx_nat, HT.sIx_nat]
  by_cases h : a ≤ xs.length
  · have h1 : min a xs.length = a := Nat.min_eq_left h
    have h2 : min e xs.length - a = min (e - a) (xs.length - a) := by omega
    rw [h1, h2, take_min _ _ _ (by rw [List.length_drop]; exact Nat.le_refl _)]
  · have h1 : min a xs.length = xs.length := Nat.min_eq_right (by omega)
    rw [h1, List.drop_of_length_le (Nat.le_refl _), List.drop_of_length_le (by omega), List.take_nil, List.take_nil]
def datO : Option Rdg → PyData
  | none => .none
  | some q => q.dat
def okO (f : Fm) : RowS → Option Rdg → Prop
  | [], q => q = none ∧ f.nothing = true
  | x :: r, q => ∃ q', q = some q' ∧ q'.ok f (x :: r)
theorem ps_no {X : Cx} {st : Stmt} : PS X st (fun _ _ _ => False) := ⟨fun _ _ _ _ _ _ h => h.elim⟩
theorem tyT {K : PySem.W.Frag} {H : Hp} {a : Addr} {xs : List V} (h : SqT K H a xs) : TyX K H (.ref a) (.type "tuple") := by
  rcases h with h | ⟨o, its, n, h1, h2, _⟩
  · rcases h with h | ⟨o, h⟩
    · exact .base (.tup h)
    · exact .fTuple h
  · exact .kTuple h1 h2
def innerP : Rdg → List (Nat × Rdg)
  | .leaf => []
  | .row prs => prs
  | .pick k q => [(k, q)]
  | .times qs => qs.map fun q => (0, q)
def Rdg.kind : Rdg → Str
  | .leaf => "leaf"
  | .row _ => "row"
  | .pick _ _ => "pick"
  | .times _ => "times"
theorem rdTup {K : PySem.W.Frag} {H : Hp} {v : V} {q : Rdg} (h : Dp K H v q.dat) : ∃ a xs, v = .ref a ∧ SqT K H a (.str q.kind :: xs) := by
  cases q with
  | leaf => rw [Rdg.dat] at h; obtain ⟨a, xs, rfl, h1, h2⟩ := dpTup h; obtain ⟨v, us, rfl, e, _⟩ := dpCons h2; cases e; exact ⟨a, us, rfl, h1⟩
  | row prs => rw [Rdg.dat] at h; obtain ⟨a, xs, rfl, h1, h2⟩ := dpTup h; obtain ⟨v, us, rfl, e, _⟩ := dpCons h2; cases e; exact ⟨a, us, rfl, h1⟩
  | pick k q => rw [Rdg.dat] at h; obtain ⟨a, xs, rfl, h1, h2⟩ := dpTup h; obtain ⟨v, us, rfl, e, _⟩ := dpCons h2; cases e; exact ⟨a, us, rfl, h1⟩
  | times qs => rw [Rdg.dat] at h; obtain ⟨a, xs, rfl, h1, h2⟩ := dpTup h; obtain ⟨v, us, rfl, e, _⟩ := dpCons h2; cases e; exact ⟨a, us, rfl, h1⟩
theorem rdRow {K : PySem.W.Frag} {H : Hp} {v : V} {prs : List (Nat × Rdg)} (h : Dp K H v (Rdg.row prs).dat) : ∃ a b vs, v = .ref a ∧ SqT K H a [.str "row", .ref b] ∧ SqT K H b vs ∧ DpAll K H vs (Rdg.datP prs) := by
  rw [Rdg.dat] at h
  obtain ⟨a, xs, rfl, h1, h2⟩ := dpTup h
  obtain ⟨v1, us, rfl, e1, h3⟩ := dpCons h2
  obtain ⟨v2, us2, rfl, e2, h4⟩ := dpCons h3
  cases e1
  cases dpNil h4
  obtain ⟨b, vs, rfl, h5, h6⟩ := dpTup e2
  exact ⟨a, b, vs, rfl, h1, h5, h6⟩
theorem rdTimes {K : PySem.W.Frag} {H : Hp} {v : V} {qs : List Rdg} (h : Dp K H v (Rdg.times qs).dat) : ∃ a b vs, v = .ref a ∧ SqT K H a [.str "times", .ref b] ∧ SqT K H b vs ∧ DpAll K H vs (Rdg.datL qs) := by
  rw [Rdg.dat] at h
  obtain ⟨a, xs, rfl, h1, h2⟩ := dpTup h
  obtain ⟨v1, us, rfl, e1, h3⟩ := dpCons h2
  obtain ⟨v2, us2, rfl, e2, h4⟩ := dpCons h3
  cases e1
  cases dpNil h4
  obtain ⟨b, vs, rfl, h5, h6⟩ := dpTup e2
  exact ⟨a, b, vs, rfl, h1, h5, h6⟩
theorem rdPick {K : PySem.W.Frag} {H : Hp} {v : V} {k : Nat} {q : Rdg} (h : Dp K H v (Rdg.pick k q).dat) : ∃ a u, v = .ref a ∧ SqT K H a [.str "pick", .int (k : Int), u] ∧ Dp K H u q.dat := by
  rw [Rdg.dat] at h
  obtain ⟨a, xs, rfl, h1, h2⟩ := dpTup h
  obtain ⟨v1, us, rfl, e1, h3⟩ := dpCons h2
  obtain ⟨v2, us2, rfl, e2, h4⟩ := dpCons h3
  obtain ⟨v3, us3, rfl, e3, h5⟩ := dpCons h4
  cases e1
  cases dpInt e2
  cases dpNil h5
  exact ⟨a, v3, rfl, h1, e3⟩
theorem dpAllApp {K : PySem.W.Frag} {H : Hp} : ∀ {vs ws : List V} {ds es : List PyData}, DpAll K H vs ds → DpAll K H ws es → DpAll K H (vs ++ ws) (ds ++ es)
  | [], _, _, _, h, h2 => by cases h; exact h2
  | _ :: _, _, _, _, h, h2 => by
    cases h with
    | cons h1 h3 => exact .cons h1 (dpAllApp h3 h2)
theorem dpAllRev {K : PySem.W.Frag} {H : Hp} : ∀ {vs : List V} {ds : List PyData}, DpAll K H vs ds → DpAll K H vs.reverse ds.reverse
  | [], _, h => by cases h; exact .nil
  | v :: vs, _, h => by
    cases h with
    | cons h1 h2 =>
      rw [List.reverse_cons, List.reverse_cons]
      exact dpAllSnoc (dpAllRev h2) h1
theorem dpAllUnsnoc {K : PySem.W.Frag} {H : Hp} : ∀ {vs : List V} {ds : List PyData} {d : PyData}, DpAll K H vs (ds ++ [d]) → ∃ vs' v, vs = vs' ++ [v] ∧ DpAll K H vs' ds ∧ Dp K H v d
  | vs, [], d, h => by
    cases h with
    | cons h1 h2 => cases h2; exact ⟨[], _, rfl, .nil, h1⟩
  | vs, e :: ds, d, h => by
    cases h with
    | cons h1 h2 =>
      obtain ⟨vs', v, rfl, h3, h4⟩ := dpAllUnsnoc h2
      exact ⟨_ :: vs', v, rfl, .cons h1 h3, h4⟩
theorem datP_app (a b : List (Nat × Rdg)) : Rdg.datP (a ++ b) = Rdg.datP a ++ Rdg.datP b := by rw [datP_map, datP_map, datP_map, List.map_append]
theorem datP_rev (a : List (Nat × Rdg)) : Rdg.datP a.reverse = (Rdg.datP a).reverse := by rw [datP_map, datP_map, List.map_reverse]
theorem kidsV_at {ks : List Nat} {m : Nat} {x : V} (h : (kidsV ks)[m]? = some x) : ∃ k, ks[m]? = some k ∧ x = V.int (k : Int) := by
  rw [kidsV, List.getElem?_map] at h
  cases e : ks[m]? with
  | none => rw [e] at h; cases h
  | some k => rw [e] at h; exact ⟨k, rfl, (Option.some.inj h).symm⟩
end Sw
set_option Elab.async false
set_option maxRecDepth 100000
set_option maxHeartbeats 8000000
namespace Sw
open PySem L2 PySem.Spec PyProof.Rows
/-! ### is_reading's parts, of any data -/
def wholeD (d : PyData) : Bool := isIntD d && !isBoolD d
/-- the number of one of so many parts -/
def numD (d : PyData) (n : Nat) : Option Nat := match d with
  | .int i => if 0 ≤ i ∧ i < (n : Int) then some i.toNat else none
  | _ => none
/-- pairs with rising numbers of parts, the other parts may take nothing -/
def gapD : List PyData → List Bool → Nat → Option (List (Nat × PyData))
  | [], bs, lo => if (bs.drop lo).all id then some [] else none
  | .tuple [k, d] :: ds, bs, lo => match numD k bs.length with
    | some j => if lo ≤ j ∧ ((bs.drop lo).take (j - lo)).all id then (gapD ds bs (j + 1)).map ((j, d) :: ·) else none
    | none => none
  | _ :: _, _, _ => none
def hiOk (h : Option Nat) (n : Nat) : Bool := match h with
  | none => true
  | some m => decide (n ≤ m)
/-- what stands within a reading of a piece; none where the thing is not made as one -/
def innD : Fm → PyData → Option (List (Nat × PyData))
  | .sign _, .tuple [.str w] => if w = "leaf" then some [] else none
  | .row ps, .tuple [.str w, .tuple ds] => if w = "row" ∧ ds ≠ [] then gapD ds (ps.map Fm.nothing) 0 else none
  | .pick ps, .tuple [.str w, k, d] => if w = "pick" then (numD k ps.length).map fun j => [(j, d)] else none
  | .times p l h, .tuple [.str w, .tuple ds] => if w = "times" ∧ ds ≠ [] ∧ few l p.nothing ≤ ds.length ∧ hiOk h ds.length = true then some (ds.map fun d => (0, d)) else none
  | _, _ => none
section
variable {P : Program} {w : World} {K : PySem.W.Frag} {mg : Str → Option Value} {base : Heap}
abbrev n_is_whole : List Str := ["thing"]
theorem sc_is_whole : FnScope n_is_whole ["thing"] (defScope s_is_whole) := ⟨rfl, rfl, rfl, by decide +kernel, rfl, by decide +kernel, by decide +kernel⟩
def spWhole (K : PySem.W.Frag) : Sp := fun vs H Q _ => ∃ v d, vs = [v] ∧ Dp K H v d ∧ Q (.bl (wholeD d)) H
theorem ok_is_whole (F : DefAt K mg "is_whole" s_is_whole ["thing"]) (b_isinstance : mg "isinstance" = none) (b_int : mg "int" = none) (b_bool : mg "bool" = none) : DefOk P w K mg base "is_whole" 1 ["thing"] (spWhole K) := by
  refine F.ok sc_is_whole (fun vs H Q E h => ?_) (fun f cdv A outer s H vs Q E hr h => ?_)
  · obtain ⟨_, _, rfl, _⟩ := h
    rfl
  obtain ⟨v, d, rfl, hd, k⟩ := h
  refine ⟨_, (pss_one (ps_ret (pe_and (pe_callB call_isi (by rfl) b_isinstance (by decide +kernel) (pa_cons (pv 0) (pa_cons (pe_bltn (v := .ty "int") (by rfl) b_int (by decide +kernel) rfl) pa_nil))) (pe_one (pe_not (pe_callB call_isi (by rfl) b_isinstance (by decide +kernel) (pa_cons (pv 0) (pa_cons (pe_bltn (v := .ty "bool") (by rfl) b_bool (by decide +kernel) rfl) pa_nil)))))))), ?_⟩
  refine ⟨_, rfl, v, .ty "int", _, _, _, rfl, .ty _, tyX hd, isInt hd, ?_⟩
  unfold wholeD at k
  cases e : isIntD d with
  | false =>
    rw [e] at k
    exact ⟨_, rfl, iteF k⟩
  | true =>
    rw [e, Bool.true_and] at k
    exact ⟨_, rfl, iteT ⟨_, rfl, v, .ty "bool", _, _, _, rfl, .ty _, tyX hd, isBool hd, _, rfl, k⟩⟩
abbrev n_is_number : List Str := ["thing", "many"]
theorem sc_is_number : FnScope n_is_number ["thing", "many"] (defScope s_is_number) := ⟨rfl, rfl, rfl, by decide +kernel, rfl, by decide +kernel, by decide +kernel⟩
def spNumber (K : PySem.W.Frag) : Sp := fun vs H Q _ => ∃ (v : V) (d : PyData) (n : Nat), vs = [v, .int (n : Int)] ∧ Dp K H v d ∧ Q (.bl (numD d n).isSome) H
theorem ok_is_number (F : DefAt K mg "_is_number" s_is_number ["thing", "many"]) (d_is_whole : DefOk P w K mg base "is_whole" 1 ["thing"] (spWhole K)) : DefOk P w K mg base "_is_number" 2 ["thing", "many"] (spNumber K) := by
  refine F.ok sc_is_number (fun vs H Q E h => ?_) (fun f cdv A outer s H vs Q E hr h => ?_)
  · obtain ⟨_, _, _, rfl, _⟩ := h
    rfl
  obtain ⟨v, d, n, rfl, hd, k⟩ := h
  refine ⟨_, (pss_one (ps_ret (pe_and (pe_callD d_is_whole (hr.mono (by decide)) rfl (pa_cons (pv 0) pa_nil)) (pe_one (pe_chain op_le op_lt pe_int (pv 0) (pv 1)))))), ?_⟩
  refine ⟨_, rfl, v, d, rfl, hd, _, rfl, ?_⟩
  have no : wholeD d = false → numD d n = none → Q (.bl false) H := fun _ e => by rw [e] at k; exact k
  cases hd with
  | int i =>
    refine iteT ⟨_, rfl, _, _, rfl, rfl, _, rfl, ?_⟩
    by_cases h0 : 0 ≤ i
    · refine iteT' (decide_eq_true h0) ⟨_, rfl, _, _, rfl, rfl, ?_⟩
      by_cases h1 : i < (n : Int)
      · rw [show (numD (.int i) n) = some i.toNat from if_pos ⟨h0, h1⟩] at k
        show Q (.bl (decide (i < (n : Int)))) H
        rw [decide_eq_true h1]
        exact k
      · rw [show (numD (.int i) n) = none from if_neg fun h => h1 h.2] at k
        show Q (.bl (decide (i < (n : Int)))) H
        rw [decide_eq_false h1]
        exact k
    · rw [show (numD (.int i) n) = none from if_neg fun h => h0 h.1] at k
      refine iteF' (by rw [decide_eq_false h0]; exact Bool.false_ne_true) ?_
      exact k
  | non => exact iteF (no rfl rfl)
  | bl b => exact iteF (no rfl rfl)
  | str x => exact iteF (no rfl rfl)
  | lst h1 h2 => exact iteF (no rfl rfl)
  | tup h1 h2 => exact iteF (no rfl rfl)
abbrev n_are_pairs : List Str := ["empty", "some", "low", "pair"]
theorem sc_are_pairs : FnScope n_are_pairs ["empty", "some"] (defScope s_are_pairs) := ⟨rfl, rfl, rfl, by decide +kernel, rfl, by decide +kernel, by decide +kernel⟩
def spPairs (K : PySem.W.Frag) : Sp := fun vs H Q _ => ∃ (ea sa : Addr) (bs : List Bool) (us : List V) (ds : List PyData), vs = [.ref ea, .ref sa] ∧ H ea = some (.lst (bs.map V.bl)) ∧ SqT K H sa us ∧ DpAll K H us ds ∧ bs.length ≤ 1000 ∧ ∀ H', Same H H' → Q (.bl (gapD ds bs 0).isSome) H'
theorem ok_are_pairs (F : DefAt K mg "_are_pairs" s_are_pairs ["empty", "some"]) (d__is_number : DefOk P w K mg base "_is_number" 2 ["thing", "many"] (spNumber K)) (b_all : mg "all" = none) (b_isinstance : mg "isinstance" = none) (b_len : mg "len" = none) (b_tuple : mg "tuple" = none) :
    DefOk P w K mg base "_are_pairs" 3 ["empty", "some"] (spPairs K) := by
  refine F.ok sc_are_pairs (fun vs H Q E h => ?_) (fun f cdv A outer s H vs Q E hr h => ?_)
  · obtain ⟨_, _, _, _, _, rfl, _⟩ := h
    rfl
  obtain ⟨ea, sa, bs, us, ds, rfl, hea, hsa, hus, hbl, k⟩ := h
  refine ⟨_, (pss_cons (ps_set (i := 2) sc_are_pairs.nd rfl (Or.inl rfl) pe_int)
    (pss_cons (ps_for PassesOwn.never rfl (pi_tup (pv 1)) (pg_name (i := 3) sc_are_pairs.nd rfl (Or.inl rfl))
      (pss_cons (ps_if (PW.pt (pw_or (pt_not (pt_val (pe_callB call_isi (by rfl) b_isinstance (by decide +kernel) (pa_cons (pv 3) (pa_cons (pe_bltn (v := .ty "tuple") (by rfl) b_tuple (by decide +kernel) rfl) pa_nil))))) (pw_or (pt_cmpR op_ne (pe_callB call_len_seq (by rfl) b_len PySem.boot_len (pa_cons (pv 3) pa_nil)) pe_int (nomark _)) (pw_or1 (pt_not (pt_val (pe_callD d__is_number (hr.mono (by decide)) rfl (pa_cons (pe_ix ix_tup (pv 3) pe_int (fun _ _ => rfl)) (pa_cons (pe_callB call_len_seq (by rfl) b_len PySem.boot_len (pa_cons (pv 0) pa_nil)) pa_nil))))))))) (pss_one (ps_ret pe_bl)) pss_nil)
    (pss_cons (ps_if (PW.pt (pw_or (pt_cmpR op_lt (pe_ix ix_tup (pv 3) pe_int (fun _ _ => rfl)) (pv 2) (nomark _)) (pw_or1 (pt_not (pt_val (pe_callB (cr_all rfl) (by rfl) b_all (by decide +kernel) (pa_cons (pe_slice sl_list (pv 0) (po_some (pv 2)) (po_some (pe_ix ix_tup (pv 3) pe_int (fun _ _ => rfl)))) pa_nil))))))) (pss_one (ps_ret pe_bl)) pss_nil)
    (pss_one (ps_set (i := 2) sc_are_pairs.nd rfl (Or.inl rfl) (pe_op op_add (pe_ix ix_tup (pv 3) pe_int (fun _ _ => rfl)) pe_int))))))
    (pss_one (ps_ret (pe_callB (cr_all rfl) (by rfl) b_all (by decide +kernel) (pa_cons (pe_slice sl_list (pv 0) (po_some (pv 2)) po_none) pa_nil)))))), ?_⟩
  have hul : us.length = ds.length := dpsLen hus
  refine ⟨_, rfl, sa, rfl, ⟨_, hsa⟩, ?_⟩
  refine for_tup (K := K) (a := sa) (xs := us) (fun m σ H' => ∃ (lo : Nat) (o3 : Option V), σ = [some (.ref ea), some (.ref sa), some (.int (lo : Int)), o3] ∧ Same H H' ∧ (gapD ds bs 0).isSome = (gapD (ds.drop m) bs lo).isSome)
    ⟨0, none, rfl, Same.refl _, rfl⟩ (fun m σ H' _ ⟨_, _, _, g, _⟩ => g.sqT hsa) ?_ ?_
  · rintro m v σ H' hv ⟨lo, o3, rfl, g1, hgap⟩
    obtain ⟨d, hd, hdp⟩ := dpsAtV hus hv
    have hdp1 := dpS g1 hdp
    have hdrop : ds.drop m = d :: ds.drop (m + 1) := by
      obtain ⟨h1, h2⟩ := List.getElem?_eq_some_iff.mp hd
      rw [List.drop_eq_getElem_cons h1, h2]
    rw [hdrop] at hgap
    have no : (gapD (d :: ds.drop (m + 1)) bs lo) = none → ∀ H'', Same H' H'' → Q (.bl false) H'' := fun e H'' s => by
      have q := k H'' (g1.trans s)
      rw [hgap, e] at q
      exact q
    have hea' := g1 _ _ hea
    refine ⟨_, rfl, _, .ty "tuple", _, _, _, rfl, .ty _, tyX hdp1, isTup hdp1, _, rfl, ?_⟩
    cases hdp1 with
    | non => exact iteT (no rfl _ (.refl _))
    | bl b => exact iteT (no rfl _ (.refl _))
    | int i => exact iteT (no rfl _ (.refl _))
    | str x => exact iteT (no rfl _ (.refl _))
    | lst h1 h2 => exact iteT (no rfl _ (.refl _))
    | @tup b ys es hb hyd =>
      refine iteF ?_
      have hyl := dpsLen hyd
      refine ⟨_, rfl, b, _, rfl, .inr hb, rfl, _, rfl, ?_⟩
      by_cases h2 : es.length = 2
      · match es, h2 with
        | [k0, d0], _ =>
        obtain ⟨y1, ys1, rfl, e2, hy1⟩ := dpCons hyd
        obtain ⟨y2, ys2, rfl, e3, hy2⟩ := dpCons hy1
        cases dpNil hy2
        refine iteF ?_
        refine ⟨_, rfl, b, _, 0, _, rfl, rfl, hb, atI_nat (j := 0) rfl, _, rfl, ea, _, rfl, .inl (sL hea'), y1, k0, bs.length, by rw [List.length_map]; rfl, e2, _, rfl, ?_⟩
        cases ej : numD k0 bs.length with
        | none => exact iteT (no (by rw [gapD, ej]) _ (.refl _))
        | some j =>
          refine iteF ?_
          obtain ⟨rfl, h1⟩ : k0 = .int (j : Int) ∧ j < bs.length := by
            unfold numD at ej
            cases k0 with
            | int i =>
              dsimp only at ej
              split at ej
              · rename_i hh
                have := Option.some.inj ej
                exact ⟨by rw [← this]; congr 1; omega, by omega⟩
              · cases ej
            | _ => cases ej
          cases dpInt e2
          have hgd : gapD (.tuple [.int (j : Int), d0] :: ds.drop (m + 1)) bs lo = if lo ≤ j ∧ ((bs.drop lo).take (j - lo)).all id then (gapD (ds.drop (m + 1)) bs (j + 1)).map ((j, d0) :: ·) else none := by
            rw [gapD, ej]
          refine ⟨_, rfl, b, _, 0, _, rfl, rfl, hb, atI_nat (j := 0) rfl, _, rfl, _, _, rfl, rfl, _, rfl, ?_⟩
          by_cases hlt : j < lo
          · refine iteT' (decide_eq_true (by omega)) (no ?_ _ (.refl _))
            rw [hgd, if_neg (fun h => by have := h.1; omega)]
          · refine iteF' (by rw [decide_eq_false (by omega)]; exact Bool.false_ne_true) ?_
            refine ⟨_, rfl, _, rfl, _, rfl, _, rfl, b, _, 0, _, rfl, rfl, hb, atI_nat (j := 0) rfl, _, rfl, ea, _, rfl, sL hea', fun q nq => ?_⟩
            rw [cut_seg]
            have s2 : Same H' (upd H' q (.lst (((bs.map V.bl).drop lo).take (j - lo)))) := .new nq
            refine ⟨q, (bs.drop lo).take (j - lo), rfl, sL (by rw [upd_same, List.map_take, List.map_drop]), _, rfl, ?_⟩
            cases hall : ((bs.drop lo).take (j - lo)).all id with
            | false => exact iteT (no (by rw [hgd, if_neg (fun h => by rw [hall] at h; exact Bool.false_ne_true h.2)]) _ s2)
            | true =>
              refine iteF ?_
              refine ⟨_, rfl, b, _, 0, _, rfl, rfl, s2.sqT hb, atI_nat (j := 0) rfl, _, _, rfl, rfl, j + 1, _, rfl, g1.trans s2, ?_⟩
              rw [hgap, hgd, if_pos ⟨by omega, hall⟩, Option.isSome_map]
      · rw [show decide (V.int ((ys.length : Nat) : Int) = V.int 2) = false from decide_eq_false fun e => h2 (by have := V.int.inj e; omega)]
        refine iteT (no ?_ _ (.refl _))
        match es, h2 with
        | [], _ => rfl
        | [_], _ => rfl
        | [_, _], h => exact absurd rfl h
        | _ :: _ :: _ :: _, _ => rfl
  · rintro σ H' ⟨lo, o3, rfl, g1, hgap⟩
    rw [hul, List.drop_length] at hgap
    have hea' := g1 _ _ hea
    refine ⟨_, rfl, _, rfl, _, rfl, ea, _, rfl, sL hea', fun q nq => ?_⟩
    rw [cut_drop]
    refine ⟨q, bs.drop lo, rfl, sL (by rw [upd_same, List.map_drop]), ?_⟩
    have q1 := k _ (g1.trans (.new nq (o := .lst ((bs.map V.bl).drop lo))))
    rw [hgap, gapD] at q1
    cases hall : (bs.drop lo).all id with
    | true => rw [if_pos hall] at q1; exact q1
    | false => rw [if_neg (by rw [hall]; exact Bool.false_ne_true)] at q1; exact q1
end
end Sw
set_option Elab.async false
set_option maxRecDepth 100000
set_option maxHeartbeats 8000000
namespace Sw
open PySem L2 PySem.Spec PyProof.Rows
def isW (d : PyData) (w : Str) : Bool := match d with
  | .str x => decide (x = w)
  | _ => false
theorem isW_iff {d : PyData} {w : Str} : isW d w = true ↔ d = .str w := by
  cases d with
  | str x =>
    unfold isW
    rw [decide_eq_true_iff]
    exact ⟨fun h => by rw [h], fun h => PyData.str.inj h⟩
  | _ => exact ⟨(fun h => by cases h), (fun h => by cases h)⟩
theorem eqv_strR (d : PyData) (w : Str) : PyData.eqv d (.str w) = isW d w := by
  cases d with
  | str x =>
    rw [PyData.eqv]
    by_cases h : x = w
    · subst h; rw [show isW (.str x) x = true from decide_eq_true rfl]; simp
    · rw [show isW (.str x) w = false from decide_eq_false h]
      exact beq_eq_false_iff_ne.mpr h
  | _ => simp [PyData.eqv, isW]
theorem shMem {ds : List PyData} (h : SeqAt.shaped (.tuple ds) = true) {d : PyData} (hm : d ∈ ds) : SeqAt.shaped d = true := by
  unfold SeqAt.shaped at *
  rw [Bool.and_eq_true] at h
  have h1 := h.1
  have h2 := of_decide_eq_true h.2
  rw [PyData.canLay0] at h1
  rw [PyData.depth] at h2
  have key : ∀ {l : List PyData}, PyData.canLayAll0 l = true → d ∈ l → d.canLay0 = true ∧ d.depth ≤ PyData.depthAll l := by
    intro l
    induction l with
    | nil => intro _ h; cases h
    | cons x l ih =>
      intro hc hm
      rw [PyData.canLayAll0, Bool.and_eq_true] at hc
      rw [PyData.depthAll]
      rcases List.mem_cons.mp hm with rfl | hm
      · exact ⟨hc.1, by omega⟩
      · obtain ⟨a, b⟩ := ih hc.2 hm
        exact ⟨a, by omega⟩
  obtain ⟨a, b⟩ := key h1 hm
  rw [a, decide_eq_true (by omega)]
  rfl
theorem inn_no {g : Fm} {d : PyData} (h : isTupD d = false) : innD g d = none := by
  cases g <;> cases d <;> first | rfl | cases h
theorem inn_sign (x : Str) (es : List PyData) : (innD (.sign x) (.tuple es)).isSome = PyData.eqv (.tuple es) (.tuple [.str "leaf"]) := by
  rw [PyData.eqv]
  match es with
  | [] => rfl
  | [e] =>
    rw [PyData.eqvAll, eqv_strR, PyData.eqvAll, Bool.and_true]
    cases e with
    | str w =>
      rw [innD]
      by_cases h : w = "leaf"
      · subst h; rw [if_pos rfl]; rfl
      · rw [if_neg h, show isW (.str w) "leaf" = false from decide_eq_false h]; rfl
    | _ => rfl
  | a :: b :: es =>
    rw [PyData.eqvAll]
    have : PyData.eqvAll (b :: es) [] = false := by simp [PyData.eqvAll]
    rw [this, Bool.and_false]
    cases a <;> rfl
section
variable {P : Program} {w : World} {K : PySem.W.Frag} {mg : Str → Option Value} {base : Heap}
abbrev n_fits : List Str := ["piece", "empty", "thing", "many"]
theorem sc_fits : FnScope n_fits ["piece", "empty", "thing"] (defScope s_fits) := ⟨rfl, rfl, rfl, by decide +kernel, rfl, by decide +kernel, by decide +kernel⟩
def spFits (K : PySem.W.Frag) : Sp := fun vs H Q _ => ∃ (v u : V) (ea : Addr) (g : Fm) (d : PyData), vs = [v, .ref ea, u] ∧ FmAt K H v g ∧ H ea = some (.lst ((g.parts.map Fm.nothing).map V.bl)) ∧ Dp K H u d ∧ SeqAt.shaped d = true ∧ g.parts.length ≤ 1000 ∧ ∀ H', Same H H' → Q (.bl (innD g d).isSome) H'
theorem ok_fits (F : DefAt K mg "_fits" s_fits ["piece", "empty", "thing"]) (d__are_pairs : DefOk P w K mg base "_are_pairs" 3 ["empty", "some"] (spPairs K)) (d__is_number : DefOk P w K mg base "_is_number" 2 ["thing", "many"] (spNumber K)) (d_fewest_rounds : DefOk P w K mg base "fewest_rounds" 1 ["low", "part_empty"] spFew)
    (b_isinstance : mg "isinstance" = none) (b_len : mg "len" = none) (b_tuple : mg "tuple" = none) : DefOk P w K mg base "_fits" 4 ["piece", "empty", "thing"] (spFits K) := by
  refine F.ok sc_fits (fun vs H Q E h => ?_) (fun f cdv A outer s H vs Q E hr h => ?_)
  · obtain ⟨_, _, _, _, _, rfl, _⟩ := h
    rfl
  obtain ⟨v, u, ea, g, d, rfl, hf, hea, hd, hsh, hpl, k⟩ := h
  refine ⟨_, (pss_cons (ps_if (pt_not (pt_val (pe_callB call_isi (by rfl) b_isinstance (by decide +kernel) (pa_cons (pv 2) (pa_cons (pe_bltn (v := .ty "tuple") (by rfl) b_tuple (by decide +kernel) rfl) pa_nil))))) (pss_one (ps_ret pe_bl)) pss_nil)
    (pss_cons (ps_if (pt_cmpR op_eq (pe_ix ix_tup (pv 0) pe_int (fun _ _ => rfl)) pe_str (nomark _)) (pss_one (ps_ret (pe_cmpR (op_eqD hr.units) (pv 2) (pe_tup (pa_cons pe_str pa_nil)) (nomark _)))) pss_nil)
    (pss_cons (ps_if (pt_cmpR op_eq (pe_ix ix_tup (pv 0) pe_int (fun _ _ => rfl)) pe_str (nomark _)) (pss_one (ps_ret (pe_and (pe_cmpR op_eq (pe_callB call_len_seq (by rfl) b_len PySem.boot_len (pa_cons (pv 2) pa_nil)) pe_int (nomark _)) (pe_and (pe_cmpR (op_eqD hr.units) (pe_ix ix_tup (pv 2) pe_int (fun _ _ => rfl)) pe_str (nomark _)) (pe_one (pe_callD d__is_number (hr.mono (by decide)) rfl (pa_cons (pe_ix ix_tup (pv 2) pe_int (fun _ _ => rfl)) (pa_cons (pe_callB call_len_seq (by rfl) b_len PySem.boot_len (pa_cons (pv 1) pa_nil)) pa_nil)))))))) pss_nil)
    (pss_cons (ps_if (PW.pt (pw_or (pt_cmpR op_ne (pe_callB call_len_seq (by rfl) b_len PySem.boot_len (pa_cons (pv 2) pa_nil)) pe_int (nomark _)) (pw_or (pt_cmpR (op_neD hr.units) (pe_ix ix_tup (pv 2) pe_int (fun _ _ => rfl)) (pe_ix ix_tup (pv 0) pe_int (fun _ _ => rfl)) (nomark _)) (pw_or (pt_not (pt_val (pe_callB call_isi (by rfl) b_isinstance (by decide +kernel) (pa_cons (pe_ix ix_tup (pv 2) pe_int (fun _ _ => rfl)) (pa_cons (pe_bltn (v := .ty "tuple") (by rfl) b_tuple (by decide +kernel) rfl) pa_nil))))) (pw_or1 (pt_cmpR op_eq (pe_callB call_len_seq (by rfl) b_len PySem.boot_len (pa_cons (pe_ix ix_tup (pv 2) pe_int (fun _ _ => rfl)) pa_nil)) pe_int (nomark _))))))) (pss_one (ps_ret pe_bl)) pss_nil)
    (pss_cons (ps_if (pt_cmpR op_eq (pe_ix ix_tup (pv 0) pe_int (fun _ _ => rfl)) pe_str (nomark _)) (pss_one (ps_ret (pe_callD d__are_pairs (hr.mono (by decide)) rfl (pa_cons (pv 1) (pa_cons (pe_ix ix_tup (pv 2) pe_int (fun _ _ => rfl)) pa_nil))))) pss_nil)
    (pss_cons (ps_set (i := 3) sc_fits.nd rfl (Or.inl rfl) (pe_callB call_len_seq (by rfl) b_len PySem.boot_len (pa_cons (pe_ix ix_tup (pv 2) pe_int (fun _ _ => rfl)) pa_nil)))
    (pss_one (ps_ret (pe_and (pe_cmpR op_ge (pv 3) (pe_callD d_fewest_rounds (hr.mono (by decide)) rfl (pa_cons (pe_ix ix_tup (pv 0) pe_int (fun _ _ => rfl)) (pa_cons (pe_ix ix_list (pv 1) pe_int (fun _ _ => rfl)) pa_nil))) (nomark _)) (pe_one (pe_or (pe_cmp (pc_isN (pe_ix ix_tup (pv 0) pe_int (fun _ _ => rfl))) rfl) (pe_one (pe_cmpR op_le (pv 3) (pe_ix ix_tup (pv 0) pe_int (fun _ _ => rfl)) (nomark _)))))))))))))), ?_⟩
  refine ⟨_, rfl, _, .ty "tuple", _, _, _, rfl, .ty _, tyX hd, isTup hd, _, rfl, ?_⟩
  cases htd : isTupD d with
  | false =>
    have q := k H (.refl _)
    rw [inn_no htd] at q
    exact iteT q
  | true =>
  refine iteF ?_
  obtain ⟨es, rfl⟩ : ∃ es, d = .tuple es := by cases d <;> first | exact ⟨_, rfl⟩ | cases htd
  obtain ⟨qa, qx, rfl, hqt, hqd⟩ := dpTup hd
  have hql := dpsLen hqd
  have no : innD g (.tuple es) = none → Q (.bl false) H := fun e => by
    have q := k H (.refl _)
    rw [e] at q
    exact q
  cases g with
  | sign x =>
    obtain ⟨a, rfl, ht⟩ := fmSign hf
    refine ⟨_, rfl, a, _, 0, _, rfl, rfl, ht, atI_nat (j := 0) rfl, rfl, _, rfl, iteT ?_⟩
    refine ⟨_, rfl, (by show 1 ≤ sizeLine; decide), fun p np => ⟨_, .tuple [.str "leaf"], dpS (.new np) hd, .tup (sT upd_same) (.cons (.str _) .nil), hsh, by decide +kernel, ?_⟩⟩
    rw [← inn_sign x es]
    exact k _ (.new np)
  | row ps =>
    obtain ⟨a, b, ws, rfl, ht, hb, hv⟩ := fmRow hf
    refine ⟨_, rfl, a, _, 0, _, rfl, rfl, ht, atI_nat (j := 0) rfl, rfl, _, rfl, iteF ?_⟩
    refine ⟨_, rfl, a, _, 0, _, rfl, rfl, ht, atI_nat (j := 0) rfl, rfl, _, rfl, iteF ?_⟩
    refine ⟨_, rfl, qa, _, rfl, .inr hqt, rfl, _, rfl, ?_⟩
    by_cases h2 : es.length = 2
    · match es, h2 with
      | [e0, e1], _ =>
      obtain ⟨y0, ys0, rfl, d0, hy0⟩ := dpCons hqd
      obtain ⟨y1, ys1, rfl, d1, hy1⟩ := dpCons hy0
      cases dpNil hy1
      refine iteF ?_
      refine ⟨_, rfl, qa, _, 0, _, rfl, rfl, hqt, atI_nat (j := 0) rfl, _, rfl, a, _, 0, _, rfl, rfl, ht, atI_nat (j := 0) rfl, e0, .str "row", d0, .str _, shMem hsh (by simp), by decide +kernel, _, rfl, ?_⟩
      rw [eqv_strR]
      by_cases hw : e0 = .str "row"
      · subst hw
        refine iteF' (by rw [isW_iff.mpr rfl]; decide) ?_
        refine ⟨_, rfl, qa, _, 1, _, rfl, rfl, hqt, atI_nat (j := 1) rfl, _, .ty "tuple", _, _, _, rfl, .ty _, tyX d1, isTup d1, _, rfl, ?_⟩
        cases ht1 : isTupD e1 with
        | false => exact iteT (no (by cases e1 <;> first | rfl | cases ht1))
        | true =>
          refine iteF ?_
          obtain ⟨ds, rfl⟩ : ∃ ds, e1 = .tuple ds := by cases e1 <;> first | exact ⟨_, rfl⟩ | cases ht1
          obtain ⟨qb, us, rfl, hqb, hus⟩ := dpTup d1
          have hul := dpsLen hus
          refine ⟨_, rfl, qa, _, 1, _, rfl, rfl, hqt, atI_nat (j := 1) rfl, qb, _, rfl, .inr hqb, rfl, _, rfl, ?_⟩
          by_cases hne : ds = []
          · subst hne
            cases dpNil hus
            refine iteT (no ?_)
            rw [innD, if_neg (fun h => h.2 rfl)]
          · have hpos : us.length ≠ 0 := fun e => hne (List.length_eq_zero_iff.mp (by omega))
            rw [show decide (V.int ((us.length : Nat) : Int) = V.int 0) = false from decide_eq_false fun e => hpos (by have := V.int.inj e; omega)]
            refine iteF ?_
            refine ⟨_, rfl, a, _, 0, _, rfl, rfl, ht, atI_nat (j := 0) rfl, rfl, _, rfl, iteT ?_⟩
            refine ⟨_, rfl, _, rfl, qa, _, 1, _, rfl, rfl, hqt, atI_nat (j := 1) rfl, ea, qb, _, us, ds, rfl, hea, hqb, hus, by rw [List.length_map]; exact hpl, fun H' s => ?_⟩
            have q := k H' s
            rw [innD, if_pos ⟨rfl, hne⟩] at q
            exact q
      · refine iteT' (by rw [eq_false_of_ne_true (fun h => hw (isW_iff.mp h))]; rfl) ?_
        refine no ?_
        cases e0 with
        | str w0 => cases e1 <;> first | rfl | exact if_neg (fun e => hw (by rw [e.1]))
        | _ => rfl
    · rw [show decide (V.int ((qx.length : Nat) : Int) = V.int 2) = false from decide_eq_false fun e => h2 (by have := V.int.inj e; omega)]
      refine iteT (no ?_)
      match es, h2 with
      | [], _ => rfl
      | [e0], _ => cases e0 <;> rfl
      | [_, _], h => exact absurd rfl h
      | e0 :: e1 :: _ :: _, _ => cases e0 <;> cases e1 <;> rfl
  | pick ps =>
    obtain ⟨a, b, ws, rfl, ht, hb, hv⟩ := fmPick hf
    refine ⟨_, rfl, a, _, 0, _, rfl, rfl, ht, atI_nat (j := 0) rfl, rfl, _, rfl, iteF ?_⟩
    refine ⟨_, rfl, a, _, 0, _, rfl, rfl, ht, atI_nat (j := 0) rfl, rfl, _, rfl, iteT ?_⟩
    refine ⟨_, rfl, qa, _, rfl, .inr hqt, rfl, _, rfl, ?_⟩
    by_cases h3 : es.length = 3
    · match es, h3 with
      | [e0, e1, e2], _ =>
      obtain ⟨y0, ys0, rfl, d0, hy0⟩ := dpCons hqd
      obtain ⟨y1, ys1, rfl, d1, hy1⟩ := dpCons hy0
      obtain ⟨y2, ys2, rfl, d2, hy2⟩ := dpCons hy1
      cases dpNil hy2
      refine iteT ?_
      refine ⟨_, rfl, qa, _, 0, _, rfl, rfl, hqt, atI_nat (j := 0) rfl, e0, .str "pick", d0, .str _, shMem hsh (by simp), by decide +kernel, _, rfl, ?_⟩
      rw [eqv_strR]
      by_cases hw : e0 = .str "pick"
      · subst hw
        refine iteT' (isW_iff.mpr rfl) ?_
        refine ⟨_, rfl, qa, _, 1, _, rfl, rfl, hqt, atI_nat (j := 1) rfl, _, rfl, ea, _, rfl, .inl (sL hea), y1, e1, ps.length, ?_, d1, ?_⟩
        · rw [List.length_map, List.length_map]
          rfl
        · have q := k H (.refl _)
          rw [innD, if_pos rfl, Option.isSome_map] at q
          exact q
      · refine iteF' (fun h => hw (isW_iff.mp h)) ?_
        refine no ?_
        cases e0 with
        | str w0 => rw [innD, if_neg (fun e => hw (by rw [e]))]
        | _ => rfl
    · rw [show decide (V.int ((qx.length : Nat) : Int) = V.int 3) = false from decide_eq_false fun e => h3 (by have := V.int.inj e; omega)]
      refine iteF (no ?_)
      match es, h3 with
      | [], _ => rfl
      | [e0], _ => cases e0 <;> rfl
      | [e0, e1], _ => cases e0 <;> rfl
      | [_, _, _], h => exact absurd rfl h
      | e0 :: _ :: _ :: _ :: _, _ => cases e0 <;> rfl
  | times p l h =>
    obtain ⟨a, w', rfl, ht, hp⟩ := fmTimes hf
    refine ⟨_, rfl, a, _, 0, _, rfl, rfl, ht, atI_nat (j := 0) rfl, rfl, _, rfl, iteF ?_⟩
    refine ⟨_, rfl, a, _, 0, _, rfl, rfl, ht, atI_nat (j := 0) rfl, rfl, _, rfl, iteF ?_⟩
    refine ⟨_, rfl, qa, _, rfl, .inr hqt, rfl, _, rfl, ?_⟩
    by_cases h2 : es.length = 2
    · match es, h2 with
      | [e0, e1], _ =>
      obtain ⟨y0, ys0, rfl, d0, hy0⟩ := dpCons hqd
      obtain ⟨y1, ys1, rfl, d1, hy1⟩ := dpCons hy0
      cases dpNil hy1
      refine iteF ?_
      refine ⟨_, rfl, qa, _, 0, _, rfl, rfl, hqt, atI_nat (j := 0) rfl, _, rfl, a, _, 0, _, rfl, rfl, ht, atI_nat (j := 0) rfl, e0, .str "times", d0, .str _, shMem hsh (by simp), by decide +kernel, _, rfl, ?_⟩
      rw [eqv_strR]
      by_cases hw : e0 = .str "times"
      · subst hw
        refine iteF' (by rw [isW_iff.mpr rfl]; decide) ?_
        refine ⟨_, rfl, qa, _, 1, _, rfl, rfl, hqt, atI_nat (j := 1) rfl, _, .ty "tuple", _, _, _, rfl, .ty _, tyX d1, isTup d1, _, rfl, ?_⟩
        cases ht1 : isTupD e1 with
        | false => exact iteT (no (by cases e1 <;> first | rfl | cases ht1))
        | true =>
          refine iteF ?_
          obtain ⟨ds, rfl⟩ : ∃ ds, e1 = .tuple ds := by cases e1 <;> first | exact ⟨_, rfl⟩ | cases ht1
          obtain ⟨qb, us, rfl, hqb, hus⟩ := dpTup d1
          have hul := dpsLen hus
          refine ⟨_, rfl, qa, _, 1, _, rfl, rfl, hqt, atI_nat (j := 1) rfl, qb, _, rfl, .inr hqb, rfl, _, rfl, ?_⟩
          by_cases hne : ds = []
          · subst hne
            cases dpNil hus
            refine iteT (no ?_)
            rw [innD, if_neg (fun h => h.2.1 rfl)]
          · have hpos : us.length ≠ 0 := fun e => hne (List.length_eq_zero_iff.mp (by omega))
            rw [show decide (V.int ((us.length : Nat) : Int) = V.int 0) = false from decide_eq_false fun e => hpos (by have := V.int.inj e; omega)]
            refine iteF ?_
            refine ⟨_, rfl, a, _, 0, _, rfl, rfl, ht, atI_nat (j := 0) rfl, rfl, _, rfl, iteF ?_⟩
            refine ⟨_, rfl, qa, _, 1, _, rfl, rfl, hqt, atI_nat (j := 1) rfl, qb, _, rfl, .inr hqb, ?_⟩
            refine ⟨_, rfl, _, rfl, a, _, 2, _, rfl, rfl, ht, atI_nat (j := 2) rfl, _, rfl, ea, _, 0, _, rfl, rfl, sL hea, atI_nat (j := 0) (v := .bl p.nothing) rfl, l, p.nothing, rfl, ?_⟩
            have q := k H (.refl _)
            have inn : innD (.times p l h) (.tuple [.str "times", .tuple ds]) = if (("times" : Str) = "times" ∧ ds ≠ [] ∧ few l p.nothing ≤ ds.length ∧ hiOk h ds.length = true) then some (ds.map fun d => (0, d)) else none := by rw [innD]
            by_cases hf1 : few l p.nothing ≤ ds.length
            · refine ⟨_, _, rfl, rfl, true, congrArg V.bl (decide_eq_true (by omega)), iteT ?_⟩
              refine ⟨_, rfl, a, _, 3, _, rfl, rfl, ht, atI_nat (j := 3) rfl, ?_⟩
              cases h with
              | none =>
                rw [inn, if_pos ⟨rfl, hne, hf1, rfl⟩] at q
                exact ⟨true, rfl, iteT q⟩
              | some m =>
                refine ⟨false, rfl, iteF ?_⟩
                refine ⟨_, rfl, _, rfl, a, _, 3, _, rfl, rfl, ht, atI_nat (j := 3) rfl, _, _, rfl, rfl, ?_⟩
                show Q (.bl (decide (((us.length : Nat) : Int) ≤ (m : Int)))) H
                by_cases hm : ds.length ≤ m
                · rw [inn, if_pos ⟨rfl, hne, hf1, decide_eq_true hm⟩] at q
                  rw [decide_eq_true (by omega)]
                  exact q
                · rw [inn, if_neg (fun e => by have := of_decide_eq_true e.2.2.2; omega)] at q
                  rw [decide_eq_false (by omega)]
                  exact q
            · refine ⟨_, _, rfl, rfl, false, congrArg V.bl (decide_eq_false (by omega)), iteF ?_⟩
              rw [inn, if_neg (fun e => hf1 e.2.2.1)] at q
              exact q
      · refine iteT' (by rw [eq_false_of_ne_true (fun h => hw (isW_iff.mp h))]; rfl) ?_
        refine no ?_
        cases e0 with
        | str w0 => cases e1 <;> first | rfl | exact if_neg (fun e => hw (by rw [e.1]))
        | _ => rfl
    · rw [show decide (V.int ((qx.length : Nat) : Int) = V.int 2) = false from decide_eq_false fun e => h2 (by have := V.int.inj e; omega)]
      refine iteT (no ?_)
      match es, h2 with
      | [], _ => rfl
      | [e0], _ => cases e0 <;> rfl
      | [_, _], h => exact absurd rfl h
      | e0 :: e1 :: _ :: _, _ => cases e0 <;> cases e1 <;> rfl
end
end Sw
set_option Elab.async false
set_option maxRecDepth 100000
set_option maxHeartbeats 8000000
namespace Sw
open PySem L2 PySem.Spec PyProof.Rows
/-! ### a thing that is a reading: by what stands within it -/
def Rd1 (g : Fm) (d : PyData) (s : RowS) : Prop := ∃ q : Rdg, d = q.dat ∧ q.ok g s
def pD (p : Nat × PyData) : PyData := .tuple [.int (p.1 : Int), p.2]
/-- things one behind the other, each a reading of its own form -/
def RsI : List (Fm × PyData) → RowS → Prop
  | [], s => s = []
  | (g, d) :: L, s => ∃ s1 s2, s = s1 ++ s2 ∧ Rd1 g d s1 ∧ RsI L s2
theorem RsI.app : ∀ {A B : List (Fm × PyData)} {s : RowS}, RsI (A ++ B) s ↔ ∃ s1 s2, s = s1 ++ s2 ∧ RsI A s1 ∧ RsI B s2
  | [], B, s => ⟨fun h => ⟨[], s, rfl, rfl, h⟩, fun ⟨s1, s2, e, h1, h2⟩ => by
      have h1' : s1 = [] := h1
      subst h1'
      rw [e]
      exact h2⟩
  | (g, d) :: A, B, s => by
    constructor
    · rintro ⟨s1, s2, rfl, h1, h2⟩
      obtain ⟨t1, t2, rfl, h3, h4⟩ := (RsI.app (A := A)).mp h2
      exact ⟨s1 ++ t1, t2, by rw [List.append_assoc], ⟨s1, t1, rfl, h1, h3⟩, h4⟩
    · rintro ⟨s1, s2, rfl, ⟨t1, t2, rfl, h1, h3⟩, h4⟩
      exact ⟨t1, t2 ++ s2, by rw [List.append_assoc], h1, (RsI.app (A := A)).mpr ⟨t2, s2, rfl, h3, h4⟩⟩
theorem Rd1.ne {g : Fm} {d : PyData} {s : RowS} (h : Rd1 g d s) : s ≠ [] := by
  obtain ⟨q, _, hq⟩ := h
  exact ok_ne q g s hq
/-- the gaps between pairs -/
def GapK : List (Nat × PyData) → List Bool → Nat → Prop
  | [], bs, lo => (bs.drop lo).all id = true
  | (j, _) :: kds, bs, lo => j < bs.length ∧ lo ≤ j ∧ ((bs.drop lo).take (j - lo)).all id = true ∧ GapK kds bs (j + 1)
theorem gap_of : ∀ {ds : List PyData} {bs : List Bool} {lo : Nat} {kds : List (Nat × PyData)}, gapD ds bs lo = some kds → ds = kds.map pD ∧ GapK kds bs lo
  | [], bs, lo, kds, h => by
    rw [gapD] at h
    split at h
    · rename_i hh
      cases h
      exact ⟨rfl, hh⟩
    · cases h
  | d :: ds, bs, lo, kds, h => by
    have key : ∀ k0 d0, d = .tuple [k0, d0] → d :: ds = kds.map pD ∧ GapK kds bs lo := fun k0 d0 e => by
      subst e
      rw [gapD] at h
      cases ej : numD k0 bs.length with
      | none => rw [ej] at h; cases h
      | some j =>
        rw [ej] at h
        dsimp only at h
        obtain ⟨rfl, h1⟩ : k0 = .int (j : Int) ∧ j < bs.length := by
          unfold numD at ej
          cases k0 with
          | int i =>
            dsimp only at ej
            split at ej
            · rename_i hh
              have := Option.some.inj ej
              exact ⟨by rw [← this]; congr 1; omega, by omega⟩
            · cases ej
          | _ => cases ej
        split at h
        · rename_i hh
          cases er : gapD ds bs (j + 1) with
          | none => rw [er] at h; cases h
          | some kds' =>
            rw [er] at h
            cases h
            obtain ⟨e1, e2⟩ := gap_of er
            refine ⟨by rw [e1]; rfl, h1, hh.1, hh.2, e2⟩
        · cases h
    cases d with
    | tuple es =>
      match es with
      | [] => cases h
      | [_] => cases h
      | [k0, d0] => exact key k0 d0 rfl
      | _ :: _ :: _ :: _ => cases h
    | _ => cases h
theorem seg_all {bs : List Bool} {lo j : Nat} : ((bs.drop lo).take (j - lo)).all id = true ↔ ∀ i, lo ≤ i → i < j → ∀ b, bs[i]? = some b → b = true := by
  rw [List.all_eq_true]
  constructor
  · intro h i h1 h2 b hb
    refine h b (List.mem_iff_getElem?.mpr ⟨i - lo, ?_⟩)
    rw [List.getElem?_take, if_pos (by omega), List.getElem?_drop, show lo + (i - lo) = i by omega]
    exact hb
  · intro h x hx
    obtain ⟨i, hi⟩ := List.mem_iff_getElem?.mp hx
    rw [List.getElem?_take] at hi
    split at hi
    · rename_i hlt
      rw [List.getElem?_drop] at hi
      exact h (lo + i) (by omega) (by omega) x hi
    · cases hi
theorem rest_all {bs : List Bool} {lo : Nat} : (bs.drop lo).all id = true ↔ ∀ i, lo ≤ i → ∀ b, bs[i]? = some b → b = true := by
  rw [List.all_eq_true]
  constructor
  · intro h i h1 b hb
    refine h b (List.mem_iff_getElem?.mpr ⟨i - lo, ?_⟩)
    rw [List.getElem?_drop, show lo + (i - lo) = i by omega]
    exact hb
  · intro h x hx
    obtain ⟨i, hi⟩ := List.mem_iff_getElem?.mp hx
    rw [List.getElem?_drop] at hi
    exact h (lo + i) (by omega) x hi
theorem nothAt {ps : List Fm} {i : Nat} {b : Bool} : (ps.map Fm.nothing)[i]? = some b ↔ ∃ p, ps[i]? = some p ∧ p.nothing = b := by
  rw [List.getElem?_map, Option.map_eq_some_iff]
def Fm.part (f : Fm) (k : Nat) : Fm := (f.parts[k]?).getD (.sign "a")
def itsOf (g : Fm) (kds : List (Nat × PyData)) : List (Fm × PyData) := kds.map fun p => (g.part p.1, p.2)
theorem datP_pD (prs : List (Nat × Rdg)) : Rdg.datP prs = (prs.map fun p => (p.1, p.2.dat)).map pD := by
  rw [datP_map, List.map_map]
  rfl
/-- rows: from pairs to readings -/
theorem row_back {ps : List Fm} : ∀ {kds : List (Nat × PyData)} {lo : Nat} {s : RowS}, GapK kds (ps.map Fm.nothing) lo → RsI (itsOf (.row ps) kds) s → ∃ prs : List (Nat × Rdg), kds.map pD = Rdg.datP prs ∧ Rdg.okRow prs ps lo ps.length s ∧ prs.length = kds.length
  | [], lo, s, hg, h => by
    have h' : s = [] := h
    refine ⟨[], rfl, ?_, rfl⟩
    rw [Rdg.okRow]
    exact ⟨h', fun i p h1 _ h3 => rest_all.mp hg i h1 p.nothing (nothAt.mpr ⟨p, h3, rfl⟩)⟩
  | (j, d) :: kds, lo, s, hg, h => by
    obtain ⟨g1, g2, g3, g4⟩ := hg
    obtain ⟨s1, s2, rfl, ⟨q, e1, e2⟩, h2⟩ := h
    obtain ⟨prs, p1, p2, p3⟩ := row_back g4 h2
    rw [List.length_map] at g1
    obtain ⟨p, hp⟩ : ∃ p, ps[j]? = some p := ⟨_, List.getElem?_eq_getElem g1⟩
    have ep : (Fm.row ps).part j = p := by
      show (ps[j]?).getD _ = p
      rw [hp]
      rfl
    rw [ep] at e2
    refine ⟨(j, q) :: prs, ?_, ?_, by rw [List.length_cons, List.length_cons, p3]⟩
    · rw [List.map_cons, Rdg.datP, p1]
      show PyData.tuple [.int (j : Int), d] :: _ = _
      rw [show d = q.dat from e1]
    · rw [Rdg.okRow]
      exact ⟨g2, g1, fun i p' h1 h3 h4 => seg_all.mp g3 i h1 h3 p'.nothing (nothAt.mpr ⟨p', h4, rfl⟩), p, s1, s2, hp, rfl, e2, p2⟩
theorem row_fwd {ps : List Fm} : ∀ {prs : List (Nat × Rdg)} {lo : Nat} {s : RowS}, Rdg.okRow prs ps lo ps.length s → RsI (itsOf (.row ps) (prs.map fun p => (p.1, p.2.dat))) s ∧ GapK (prs.map fun p => (p.1, p.2.dat)) (ps.map Fm.nothing) lo
  | [], lo, s, h => by
    rw [Rdg.okRow] at h
    refine ⟨h.1, rest_all.mpr fun i h1 b hb => ?_⟩
    obtain ⟨p, hp, rfl⟩ := nothAt.mp hb
    exact h.2 i p h1 (List.getElem?_eq_some_iff.mp hp).1 hp
  | (j, q) :: prs, lo, s, h => by
    rw [Rdg.okRow] at h
    obtain ⟨h1, h2, h3, p, r1, r2, h4, rfl, h5, h6⟩ := h
    obtain ⟨i1, i2⟩ := row_fwd h6
    have ep : (Fm.row ps).part j = p := by
      show (ps[j]?).getD _ = p
      rw [h4]
      rfl
    refine ⟨⟨r1, r2, rfl, ⟨q, rfl, by rw [ep]; exact h5⟩, i1⟩, by rw [List.length_map]; exact h2, h1, seg_all.mpr fun i a1 a2 b hb => ?_, i2⟩
    obtain ⟨p', hp', rfl⟩ := nothAt.mp hb
    exact h3 i p' a1 a2 hp'
theorem gap_some : ∀ {kds : List (Nat × PyData)} {bs : List Bool} {lo : Nat}, GapK kds bs lo → gapD (kds.map pD) bs lo = some kds
  | [], bs, lo, h => if_pos h
  | (j, d) :: kds, bs, lo, h => by
    obtain ⟨h1, h2, h3, h4⟩ := h
    rw [List.map_cons, pD, gapD]
    have e : numD (.int (j : Int)) bs.length = some j := by
      unfold numD
      dsimp only
      rw [if_pos ⟨by omega, by omega⟩, Int.toNat_natCast]
    rw [e]
    dsimp only
    rw [if_pos ⟨h2, h3⟩, gap_some h4]
    rfl
theorem all_back {p : Fm} : ∀ {ds : List PyData} {s : RowS}, RsI (ds.map fun d => (p, d)) s → ∃ qs : List Rdg, ds = Rdg.datL qs ∧ Rdg.okAll qs p s
  | [], s, h => ⟨[], rfl, by rw [Rdg.okAll]; exact h⟩
  | d :: ds, s, h => by
    obtain ⟨s1, s2, rfl, ⟨q, e1, e2⟩, h2⟩ := h
    obtain ⟨qs, e3, e4⟩ := all_back h2
    exact ⟨q :: qs, by rw [Rdg.datL, e1, e3], by rw [Rdg.okAll]; exact ⟨s1, s2, rfl, e2, e4⟩⟩
theorem all_fwd {p : Fm} : ∀ {qs : List Rdg} {s : RowS}, Rdg.okAll qs p s → RsI ((Rdg.datL qs).map fun d => (p, d)) s
  | [], s, h => by rw [Rdg.okAll] at h; exact h
  | q :: qs, s, h => by
    rw [Rdg.okAll] at h
    obtain ⟨r1, r2, rfl, h1, h2⟩ := h
    exact ⟨r1, r2, rfl, ⟨q, rfl, h1⟩, all_fwd h2⟩
theorem pD_inj {a b : List (Nat × PyData)} (h : a.map pD = b.map pD) : a = b := by
  induction a generalizing b with
  | nil => cases b with
    | nil => rfl
    | cons _ _ => cases h
  | cons x a ih =>
    cases b with
    | nil => cases h
    | cons y b =>
      rw [List.map_cons, List.map_cons, List.cons.injEq] at h
      obtain ⟨h1, h2⟩ := h
      unfold pD at h1
      simp only [PyData.tuple.injEq, List.cons.injEq, PyData.int.injEq, and_true] at h1
      rw [ih h2, show x = y from Prod.ext (by omega) h1.2]
theorem num_of {k : PyData} {n j : Nat} (h : numD k n = some j) : k = .int (j : Int) ∧ j < n := by
  unfold numD at h
  cases k with
  | int i =>
    dsimp only at h
    split at h
    · rename_i hh
      have := Option.some.inj h
      exact ⟨by rw [← this]; congr 1; omega, by omega⟩
    · cases h
  | _ => cases h
theorem num_some {n j : Nat} (h : j < n) : numD (.int (j : Int)) n = some j := by
  unfold numD
  dsimp only
  rw [if_pos ⟨by omega, by omega⟩, Int.toNat_natCast]
/-- how a thing is made that fits -/
inductive Fits : Fm → PyData → List (Nat × PyData) → Prop
  | sign (x : Str) : Fits (.sign x) (.tuple [.str "leaf"]) []
  | row {ps : List Fm} {kds : List (Nat × PyData)} (hne : kds ≠ []) (hg : GapK kds (ps.map Fm.nothing) 0) : Fits (.row ps) (.tuple [.str "row", .tuple (kds.map pD)]) kds
  | pick {ps : List Fm} {j : Nat} {d : PyData} (hj : j < ps.length) : Fits (.pick ps) (.tuple [.str "pick", .int (j : Int), d]) [(j, d)]
  | times {p : Fm} {l : Nat} {h : Option Nat} {ds : List PyData} (hne : ds ≠ []) (h1 : few l p.nothing ≤ ds.length) (h2 : hiOk h ds.length = true) : Fits (.times p l h) (.tuple [.str "times", .tuple ds]) (ds.map fun d => (0, d))
theorem fits_of {g : Fm} {d : PyData} {kds : List (Nat × PyData)} (h : innD g d = some kds) : Fits g d kds := by
  have ht : isTupD d = true := by
    cases e : isTupD d with
    | true => rfl
    | false => rw [inn_no e] at h; cases h
  obtain ⟨es, rfl⟩ : ∃ es, d = .tuple es := by cases d <;> first | exact ⟨_, rfl⟩ | cases ht
  cases g with
  | sign x =>
    match es with
    | [] => cases h
    | [e] =>
      cases e with
      | str w =>
        rw [innD] at h
        split at h
        · rename_i hw
          subst hw
          cases h
          exact .sign x
        · cases h
      | _ => cases h
    | a :: b :: _ => cases a <;> cases h
  | row ps =>
    match es with
    | [] => cases h
    | [e] => cases e <;> cases h
    | [a, b] =>
      cases a with
      | str w =>
        cases b with
        | tuple ds =>
          rw [innD] at h
          split at h
          · rename_i hw
            obtain ⟨rfl, hne⟩ := hw
            obtain ⟨rfl, hg⟩ := gap_of h
            exact .row (fun e => hne (by rw [e]; rfl)) hg
          · cases h
        | _ => cases h
      | _ => cases h
    | a :: b :: _ :: _ => cases a <;> cases b <;> cases h
  | pick ps =>
    match es with
    | [] => cases h
    | [e] => cases e <;> cases h
    | [a, b] => cases a <;> cases h
    | [a, k, d] =>
      cases a with
      | str w =>
        rw [innD] at h
        split at h
        · rename_i hw
          subst hw
          cases ej : numD k ps.length with
          | none => rw [ej] at h; cases h
          | some j =>
            rw [ej] at h
            cases h
            obtain ⟨rfl, hj⟩ := num_of ej
            exact .pick hj
        · cases h
      | _ => cases h
    | a :: _ :: _ :: _ :: _ => cases a <;> cases h
  | times p l hh =>
    match es with
    | [] => cases h
    | [e] => cases e <;> cases h
    | [a, b] =>
      cases a with
      | str w =>
        cases b with
        | tuple ds =>
          rw [innD] at h
          split at h
          · rename_i hw
            obtain ⟨rfl, hne, h1, h2⟩ := hw
            cases h
            exact .times hne h1 h2
          · cases h
        | _ => cases h
      | _ => cases h
    | a :: b :: _ :: _ => cases a <;> cases b <;> cases h
def Fm.isSign : Fm → Bool
  | .sign _ => true
  | _ => false
theorem rd_sign {x : Str} {s : RowS} : Rd1 (.sign x) (.tuple [.str "leaf"]) s ↔ s = [x] := by
  constructor
  · rintro ⟨q, e, hq⟩
    cases q with
    | leaf => rw [Rdg.ok] at hq; exact hq
    | row _ => rw [Rdg.ok] at hq; exact hq.elim; all_goals intros; contradiction
    | pick _ _ => rw [Rdg.ok] at hq; exact hq.elim; all_goals intros; contradiction
    | times _ => rw [Rdg.ok] at hq; exact hq.elim; all_goals intros; contradiction
  · rintro rfl
    exact ⟨.leaf, rfl, by rw [Rdg.ok]⟩
theorem rd_in {g : Fm} {d : PyData} {kds : List (Nat × PyData)} (h : Fits g d kds) (hs : g.isSign = false) (s : RowS) : Rd1 g d s ↔ RsI (itsOf g kds) s := by
  cases h with
  | sign x => cases hs
  | @row ps kds hne hg =>
    constructor
    · rintro ⟨q, e, hq⟩
      cases q with
      | row prs =>
        rw [Rdg.ok] at hq
        rw [Rdg.dat, datP_pD] at e
        simp only [PyData.tuple.injEq, List.cons.injEq, and_true, true_and] at e
        rw [pD_inj e]
        exact (row_fwd hq.2).1
      | leaf => rw [Rdg.ok] at hq; exact hq.elim; all_goals intros; contradiction
      | pick _ _ => rw [Rdg.ok] at hq; exact hq.elim; all_goals intros; contradiction
      | times _ => rw [Rdg.ok] at hq; exact hq.elim; all_goals intros; contradiction
    · intro h
      obtain ⟨prs, p1, p2, p3⟩ := row_back hg h
      refine ⟨.row prs, by rw [Rdg.dat, p1], ?_⟩
      rw [Rdg.ok]
      refine ⟨fun e => hne ?_, p2⟩
      rw [e] at p3
      exact List.length_eq_zero_iff.mp p3.symm
  | @pick ps j d hj =>
    obtain ⟨p, hp⟩ : ∃ p, ps[j]? = some p := ⟨_, List.getElem?_eq_getElem hj⟩
    have ep : (Fm.pick ps).part j = p := by
      show (ps[j]?).getD _ = p
      rw [hp]
      rfl
    constructor
    · rintro ⟨q, e, hq⟩
      cases q with
      | pick k q =>
        rw [Rdg.ok] at hq
        obtain ⟨p', h1, h2⟩ := hq
        rw [Rdg.dat] at e
        simp only [PyData.tuple.injEq, List.cons.injEq, and_true, true_and, PyData.int.injEq] at e
        obtain ⟨e1, e2⟩ := e
        have : j = k := by omega
        subst this
        rw [hp] at h1
        cases h1
        exact ⟨s, [], by rw [List.append_nil], ⟨q, e2, by rw [ep]; exact h2⟩, rfl⟩
      | leaf => rw [Rdg.ok] at hq; exact hq.elim; all_goals intros; contradiction
      | row _ => rw [Rdg.ok] at hq; exact hq.elim; all_goals intros; contradiction
      | times _ => rw [Rdg.ok] at hq; exact hq.elim; all_goals intros; contradiction
    · rintro ⟨s1, s2, rfl, ⟨q, e1, e2⟩, h2⟩
      have h2' : s2 = [] := h2
      subst h2'
      rw [List.append_nil]
      refine ⟨.pick j q, by rw [Rdg.dat, show d = q.dat from e1], ?_⟩
      rw [Rdg.ok]
      exact ⟨p, hp, by rw [← ep]; exact e2⟩
  | @times p l h ds hne h1 h2 =>
    have ei : itsOf (.times p l h) (ds.map fun d => (0, d)) = ds.map fun d => (p, d) := by
      unfold itsOf
      rw [List.map_map]
      rfl
    rw [ei]
    constructor
    · rintro ⟨q, e, hq⟩
      cases q with
      | times qs =>
        rw [Rdg.ok] at hq
        rw [Rdg.dat] at e
        simp only [PyData.tuple.injEq, List.cons.injEq, and_true, true_and] at e
        rw [e]
        exact all_fwd hq.2.2.2
      | leaf => rw [Rdg.ok] at hq; exact hq.elim; all_goals intros; contradiction
      | row _ => rw [Rdg.ok] at hq; exact hq.elim; all_goals intros; contradiction
      | pick _ _ => rw [Rdg.ok] at hq; exact hq.elim; all_goals intros; contradiction
    · intro hh
      obtain ⟨qs, e1, e2⟩ := all_back hh
      have el : ds.length = qs.length := by rw [e1, datL_map, List.length_map]
      refine ⟨.times qs, by rw [Rdg.dat, e1], ?_⟩
      rw [Rdg.ok]
      refine ⟨fun e => hne (by rw [e1, e]; rfl), by omega, fun m e => ?_, e2⟩
      subst e
      have := of_decide_eq_true h2
      omega
theorem rd_none {g : Fm} {d : PyData} (h : innD g d = none) (s : RowS) : ¬ Rd1 g d s := by
  rintro ⟨q, rfl, hq⟩
  cases q with
  | leaf =>
    cases g with
    | sign x => rw [Rdg.dat, innD, if_pos rfl] at h; cases h
    | _ => rw [Rdg.ok] at hq; exact hq.elim; all_goals intros; contradiction
  | row prs =>
    cases g with
    | row ps =>
      rw [Rdg.ok] at hq
      obtain ⟨h1, h2⟩ := row_fwd hq.2
      rw [Rdg.dat, datP_pD, innD, if_pos ⟨rfl, fun e => hq.1 (by simpa using e)⟩, gap_some h2] at h
      cases h
    | _ => rw [Rdg.ok] at hq; exact hq.elim; all_goals intros; contradiction
  | pick k q =>
    cases g with
    | pick ps =>
      rw [Rdg.ok] at hq
      obtain ⟨p, h1, _⟩ := hq
      rw [Rdg.dat, innD, if_pos rfl, num_some (List.getElem?_eq_some_iff.mp h1).1] at h
      cases h
    | _ => rw [Rdg.ok] at hq; exact hq.elim; all_goals intros; contradiction
  | times qs =>
    cases g with
    | times p l hh =>
      rw [Rdg.ok] at hq
      obtain ⟨h1, h2, h3, _⟩ := hq
      have el : (Rdg.datL qs).length = qs.length := by rw [datL_map, List.length_map]
      rw [Rdg.dat, innD, if_pos ⟨rfl, fun e => h1 (List.length_eq_zero_iff.mp (by rw [← el, e]; rfl)), by omega, by
        cases hh with
        | none => rfl
        | some m => exact decide_eq_true (by have := h3 m rfl; omega)⟩] at h
      cases h
    | _ => rw [Rdg.ok] at hq; exact hq.elim; all_goals intros; contradiction
end Sw
set_option Elab.async false
set_option maxRecDepth 100000
set_option maxHeartbeats 8000000
namespace Sw
open PySem L2 PySem.Spec PyProof.Rows
/-! ### how great data is -/
mutual
def ndD : PyData → Nat
  | .tuple l => 1 + nds l
  | .list l => 1 + nds l
  | _ => 1
def nds : List PyData → Nat
  | [] => 0
  | d :: l => ndD d + nds l
end
theorem ndD_pos (d : PyData) : 0 < ndD d := by cases d <;> simp [ndD] <;> omega
def sumN : List (Nat × PyData) → Nat
  | [] => 0
  | p :: S => ndD p.2 + sumN S
theorem sumN_app : ∀ A B : List (Nat × PyData), sumN (A ++ B) = sumN A + sumN B
  | [], B => by rw [List.nil_append, sumN, Nat.zero_add]
  | p :: A, B => by rw [List.cons_append, sumN, sumN, sumN_app A B, Nat.add_assoc]
theorem sumN_len : ∀ A : List (Nat × PyData), A.length ≤ sumN A
  | [] => Nat.le_refl _
  | p :: A => by
    rw [List.length_cons, sumN]
    have := ndD_pos p.2
    have := sumN_len A
    omega
theorem nds_pD : ∀ A : List (Nat × PyData), sumN A ≤ nds (A.map pD)
  | [] => Nat.le_refl _
  | p :: A => by
    rw [List.map_cons, nds, sumN]
    have := nds_pD A
    simp only [pD, ndD, nds]
    omega
theorem sumN_zero : ∀ ds : List PyData, sumN (ds.map fun d => ((0 : Nat), d)) = nds ds
  | [] => rfl
  | d :: ds => by rw [List.map_cons, sumN, nds, sumN_zero ds]
theorem sumN_num (f : Nat → Nat) : ∀ A : List (Nat × PyData), sumN (A.map fun p => (f p.1, p.2)) = sumN A
  | [] => rfl
  | p :: A => by rw [List.map_cons, sumN, sumN, sumN_num f A]
theorem fits_nd {g : Fm} {d : PyData} {kds : List (Nat × PyData)} (h : Fits g d kds) : sumN kds < ndD d := by
  cases h with
  | sign x => simp [sumN, ndD, nds]
  | @row ps kds hne hg =>
    have := nds_pD kds
    simp only [ndD, nds]
    omega
  | @pick ps j d hj => simp only [sumN, ndD, nds]; omega
  | @times p l h ds hne h1 h2 =>
    rw [sumN_zero]
    simp only [ndD, nds]
    omega
theorem fits_dp {g : Fm} {d : PyData} {kds : List (Nat × PyData)} (h : Fits g d kds) : ∀ p, p ∈ kds → p.1 < g.parts.length ∨ False := by
  cases h with
  | sign x => intro p hp; cases hp
  | @row ps kds hne hg =>
    have key : ∀ {l : List (Nat × PyData)} {lo : Nat}, GapK l (ps.map Fm.nothing) lo → ∀ p, p ∈ l → p.1 < ps.length := by
      intro l
      induction l with
      | nil => intro lo _ p hp; cases hp
      | cons x l ih =>
        intro lo hg p hp
        obtain ⟨g1, _, _, g4⟩ := hg
        rcases List.mem_cons.mp hp with rfl | hp
        · rw [List.length_map] at g1; exact g1
        · exact ih g4 p hp
    exact fun p hp => .inl (key hg p hp)
  | @pick ps j d hj => intro p hp; rw [List.mem_singleton.mp hp]; exact .inl hj
  | @times p l h ds hne h1 h2 =>
    intro x hx
    obtain ⟨d, _, rfl⟩ := List.mem_map.mp hx
    exact .inl Nat.one_pos
/-- a pair that stands in the heap, its thing as of an earlier heap -/
def PrAt (K : PySem.W.Frag) (H0 H : Hp) (w : V) (p : Nat × PyData) : Prop := ∃ a x, w = .ref a ∧ SqT K H a [.int (p.1 : Int), x] ∧ Dp K H0 x p.2
theorem PrAt.same {K : PySem.W.Frag} {H0 H H' : Hp} {w : V} {p : Nat × PyData} (h : PrAt K H0 H w p) (s : Same H H') : PrAt K H0 H' w p := by
  obtain ⟨a, x, e, h1, h2⟩ := h
  exact ⟨a, x, e, s.sqT h1, h2⟩
theorem PrAt.w {K : PySem.W.Frag} {H0 H : Hp} {w : V} {p : Nat × PyData} {q : Addr} {xs : List V} {o : HO} (h : PrAt K H0 H w p) (hq : H q = some (.lst xs)) : PrAt K H0 (upd H q o) w p := by
  obtain ⟨a, x, e, h1, h2⟩ := h
  exact ⟨a, x, e, sqTW hq h1, h2⟩
theorem PrAt.but {K : PySem.W.Frag} {H0 H H' : Hp} {w : V} {p : Nat × PyData} {q : Addr} {xs : List V} (h : PrAt K H0 H w p) (hq : H q = some (.lst xs)) (b : ∀ y o, H y = some o → y ≠ q → H' y = some o) : PrAt K H0 H' w p := by
  obtain ⟨a, x, e, h1, h2⟩ := h
  refine ⟨a, x, e, ?_, h2⟩
  rcases h1 with (h1 | ⟨o, h1⟩) | h1
  · exact .inl (.inl (b _ _ h1 (fun z => by rw [z, hq] at h1; cases h1)))
  · exact .inl (.inr ⟨o, b _ _ h1 (fun z => by rw [z, hq] at h1; cases h1)⟩)
  · exact .inr h1
theorem prs_of {K : PySem.W.Frag} {H0 H : Hp} (s : Same H0 H) : ∀ {us : List V} {l : List (Nat × PyData)}, DpAll K H0 us (l.map pD) → Paired (PrAt K H0 H) us l
  | _, [], h => by cases h; exact .nil
  | _, p :: l, h => by
    obtain ⟨y, ys, rfl, e1, e2⟩ := dpCons h
    obtain ⟨a, xs, rfl, ha, hx⟩ := dpTup e1
    obtain ⟨z0, zs, rfl, f0, hz⟩ := dpCons hx
    obtain ⟨z1, zs1, rfl, f1, hz1⟩ := dpCons hz
    cases dpInt f0
    cases dpNil hz1
    exact .cons ⟨a, z1, rfl, s.sqT ha, f1⟩ (prs_of s e2)
section
variable {P : Program} {w : World} {K : PySem.W.Frag} {mg : Str → Option Value} {base : Heap}
abbrev n_inner : List Str := ["reading", "part"]
theorem sc_inner : FnScope n_inner ["reading"] (defScope s_inner) := ⟨rfl, rfl, rfl, by decide +kernel, rfl, by decide +kernel, by decide +kernel⟩
def spInner (K : PySem.W.Frag) : Sp := fun vs H Q _ => ∃ (H0 : Hp) (v : V) (g : Fm) (d : PyData) (kds : List (Nat × PyData)), vs = [v] ∧ Same H0 H ∧ Dp K H0 v d ∧ Fits g d kds ∧ kds.length ≤ 1000000 ∧ ∀ (H' : Hp) (D : Addr) (ws : List V), Same H H' → H' D = some (.lst ws) → H D = none → Paired (PrAt K H0 H') ws kds → Q (.ref D) H'
theorem ok_inner (F : DefAt K mg "_inner" s_inner ["reading"]) (b_list : mg "list" = none) : DefOk P w K mg base "_inner" 1 ["reading"] (spInner K) := by
  refine F.ok sc_inner (fun vs H Q E h => ?_) (fun f cdv A outer s H vs Q E hr h => ?_)
  · obtain ⟨_, _, _, _, _, rfl, _⟩ := h
    rfl
  obtain ⟨H0, v, g, d, kds, rfl, s0, hv, hfit, hl, k⟩ := h
  refine ⟨_, (pss_cons (ps_if (pt_cmpR op_eq (pe_ix ix_tup (pv 0) pe_int (fun _ _ => rfl)) pe_str (nomark _)) (pss_one (ps_ret (pe_callTy call_list_of (by rfl) b_list (by decide +kernel) (pa_cons (pe_ix ix_tup (pv 0) pe_int (fun _ _ => rfl)) pa_nil)))) pss_nil)
    (pss_cons (ps_if (pt_cmpR op_eq (pe_ix ix_tup (pv 0) pe_int (fun _ _ => rfl)) pe_str (nomark _)) (pss_one (ps_ret (pe_lst (pa_cons (pe_tup (pa_cons (pe_ix ix_tup (pv 0) pe_int (fun _ _ => rfl)) (pa_cons (pe_ix ix_tup (pv 0) pe_int (fun _ _ => rfl)) pa_nil))) pa_nil)))) pss_nil)
    (pss_cons (ps_if (pt_cmpR op_eq (pe_ix ix_tup (pv 0) pe_int (fun _ _ => rfl)) pe_str (nomark _)) (pss_one (ps_ret (pe_lc (own := [("part", 1)]) (g := gName 1) rfl sc_inner.nd (pi_tup (pe_ix ix_tup (pv 0) pe_int (fun _ _ => rfl))) (blkOk_by (own := [("part", 1)]) (N := n_inner) (sc := defScope s_inner) (by decide +kernel)) (fun _ _ _ _ _ => (pg_name (i := 1) sc_inner.nd rfl (Or.inl rfl))) (fun _ _ _ _ _ => pts_nil) (fun _ _ _ _ _ => (pe_tup (pa_cons pe_int (pa_cons (pv 1) pa_nil))))))) pss_nil)
    (pss_one (ps_ret (pe_lst pa_nil)))))), ?_⟩
  cases hfit with
  | sign x =>
    obtain ⟨a, xs, rfl, ht, hx⟩ := dpTup hv
    obtain ⟨y0, ys, rfl, e0, hy⟩ := dpCons hx
    cases e0
    cases dpNil hy
    have ht := s0.sqT ht
    refine ⟨_, rfl, a, _, 0, _, rfl, rfl, ht, atI_nat (j := 0) rfl, rfl, _, rfl, iteF ?_⟩
    refine ⟨_, rfl, a, _, 0, _, rfl, rfl, ht, atI_nat (j := 0) rfl, rfl, _, rfl, iteF ?_⟩
    refine ⟨_, rfl, a, _, 0, _, rfl, rfl, ht, atI_nat (j := 0) rfl, rfl, _, rfl, iteF ?_⟩
    exact ⟨(by show 0 ≤ sizeLine; decide), fun D nD => k _ D [] (.new nD) upd_same nD .nil⟩
  | @row ps kds hne hg =>
    obtain ⟨a, xs, rfl, ht, hx⟩ := dpTup hv
    obtain ⟨y0, ys, rfl, e0, hy⟩ := dpCons hx
    obtain ⟨y1, ys1, rfl, e1, hy1⟩ := dpCons hy
    cases e0
    cases dpNil hy1
    obtain ⟨b, us, rfl, hb, hus⟩ := dpTup e1
    have ht := s0.sqT ht
    refine ⟨_, rfl, a, _, 0, _, rfl, rfl, ht, atI_nat (j := 0) rfl, rfl, _, rfl, iteT ?_⟩
    refine ⟨_, rfl, a, _, 1, _, rfl, rfl, ht, atI_nat (j := 1) rfl, b, us, rfl, .inr (s0.sqT hb), fun D nD => k _ D us (.new nD) upd_same nD ?_⟩
    exact prs_of (s0.trans (.new nD)) hus
  | @pick ps j d hj =>
    obtain ⟨a, xs, rfl, ht, hx⟩ := dpTup hv
    obtain ⟨y0, ys, rfl, e0, hy⟩ := dpCons hx
    obtain ⟨y1, ys1, rfl, e1, hy1⟩ := dpCons hy
    obtain ⟨u, ys2, rfl, e2, hy2⟩ := dpCons hy1
    cases e0
    cases dpInt e1
    cases dpNil hy2
    have ht := s0.sqT ht
    refine ⟨_, rfl, a, _, 0, _, rfl, rfl, ht, atI_nat (j := 0) rfl, rfl, _, rfl, iteF ?_⟩
    refine ⟨_, rfl, a, _, 0, _, rfl, rfl, ht, atI_nat (j := 0) rfl, rfl, _, rfl, iteT ?_⟩
    refine ⟨_, rfl, a, _, 1, _, rfl, rfl, ht, atI_nat (j := 1) rfl, _, rfl, a, _, 2, _, rfl, rfl, ht, atI_nat (j := 2) rfl, (by show 2 ≤ sizeLine; decide), fun p np => ⟨(by show 1 ≤ sizeLine; decide), fun D nD => ?_⟩⟩
    have s1 : Same H (upd H p (.tup [.int (j : Int), u])) := .new np
    exact k _ D [.ref p] (s1.trans (.new nD)) upd_same (s1.free nD) (.cons ⟨p, u, rfl, (Same.new nD).sqT (sT upd_same), e2⟩ .nil)
  | @times p l h ds hne h1 h2 =>
    obtain ⟨a, xs, rfl, ht, hx⟩ := dpTup hv
    obtain ⟨y0, ys, rfl, e0, hy⟩ := dpCons hx
    obtain ⟨y1, ys1, rfl, e1, hy1⟩ := dpCons hy
    cases e0
    cases dpNil hy1
    obtain ⟨b, us, rfl, hb, hus⟩ := dpTup e1
    have ht := s0.sqT ht
    have hb := s0.sqT hb
    have hul := dpsLen hus
    rw [List.length_map] at hl
    refine ⟨_, rfl, a, _, 0, _, rfl, rfl, ht, atI_nat (j := 0) rfl, rfl, _, rfl, iteF ?_⟩
    refine ⟨_, rfl, a, _, 0, _, rfl, rfl, ht, atI_nat (j := 0) rfl, rfl, _, rfl, iteF ?_⟩
    refine ⟨_, rfl, a, _, 0, _, rfl, rfl, ht, atI_nat (j := 0) rfl, rfl, _, rfl, iteT ?_⟩
    refine ⟨_, rfl, a, _, 1, _, rfl, rfl, ht, atI_nat (j := 1) rfl, b, rfl, ⟨_, hb⟩, fun D nD => lc_tup (K := K) (a := b) (xs := us) (fun i H' => ∃ ws : List V, Same H H' ∧ H' D = some (.lst ws) ∧ ws.length = i ∧ Paired (PrAt K H0 H') ws ((ds.take i).map fun d => (0, d)))
      ⟨[], .new nD, upd_same, rfl, .nil⟩ (fun i H' _ ⟨_, g, _⟩ => g.sqT hb) ?_ ?_⟩
    · rintro i x H' hx ⟨ws, g1, hD', hlw, hw⟩
      obtain ⟨d, hd', hdp⟩ := dpsAtV hus hx
      have hi := (List.getElem?_eq_some_iff.mp hd').1
      refine ⟨rfl, ?_⟩
      refine ⟨_, rfl, (by show 2 ≤ sizeLine; decide), fun p np => ?_⟩
      have s2 : Same H' (upd H' p (.tup [.int 0, x])) := .new np
      have hD2 := s2 _ _ hD'
      refine ⟨ws, hD2, szb (by omega), ws ++ [.ref p], (g1.trans s2).mut nD, upd_same, by rw [List.length_append, hlw]; rfl, ?_⟩
      rw [take_snoc hd', List.map_append]
      exact pairedApp (pairedMap hw fun _ _ q => (q.same s2).w hD2) (.cons ⟨p, x, rfl, sqTW hD2 (sT upd_same), hdp⟩ .nil)
    · rintro H' ⟨ws, g1, hD', hlw, hw⟩
      rw [hul, List.take_length] at hw
      exact k H' D ws g1 hD' nD hw
end
end Sw
set_option Elab.async false
set_option maxRecDepth 100000
set_option maxHeartbeats 16000000
namespace Sw
open PySem L2 PySem.Spec PyProof.Rows
def whileBody : Stmt → List Stmt
  | .While _ b _ _ => b
  | _ => []
def pieceF (fm : Fm) (n : Nat) : Fm := (((laidF fm 0)[n]?).map (·.1)).getD (.sign "a")
theorem pieceF_at {fm g : Fm} {n : Nat} {ks : List Nat} (h : (laidF fm 0)[n]? = some (g, ks)) : pieceF fm n = g := by
  unfold pieceF
  rw [h]
  rfl
def RsN (fm : Fm) (S : List (Nat × PyData)) (s : RowS) : Prop := RsI (S.map fun p => (pieceF fm p.1, p.2)) s
theorem pairedRev {α β : Type} {F : α → β → Prop} : ∀ {l : List α} {m : List β}, Paired F l m → Paired F l.reverse m.reverse
  | _, _, .nil => .nil
  | _, _, .cons r t => by
    rw [List.reverse_cons, List.reverse_cons]
    exact pairedApp (pairedRev t) (.cons r .nil)
theorem pairedUnsnoc {α β : Type} {F : α → β → Prop} {l : List α} {m : List β} {y : β} (h : Paired F l (m ++ [y])) : ∃ l' x, l = l' ++ [x] ∧ Paired F l' m ∧ F x y := by
  have h1 := pairedRev h
  rw [List.reverse_append, List.reverse_singleton, List.singleton_append] at h1
  generalize hl : l.reverse = lr at h1
  cases h1 with
  | @cons x _ lr' _ a b =>
    have h2 := pairedRev b
    rw [List.reverse_reverse] at h2
    refine ⟨lr'.reverse, x, ?_, h2, a⟩
    have := congrArg List.reverse hl
    rw [List.reverse_reverse, List.reverse_cons] at this
    exact this
/-- what stands within is read as the thing is -/
theorem its_kids {fm g : Fm} {n : Nat} {ks : List Nat} (h : (laidF fm 0)[n]? = some (g, ks)) {kds : List (Nat × PyData)} (hk : ∀ p, p ∈ kds → p.1 < g.parts.length) : ((kds.map fun p => (ks.getD p.1 0, p.2)).map fun p => (pieceF fm p.1, p.2)) = itsOf g kds := by
  unfold itsOf
  rw [List.map_map]
  refine List.map_congr_left fun p hp => ?_
  obtain ⟨h1, h2⟩ := kids_of h
  have hp' := hk p hp
  obtain ⟨k, hkk⟩ : ∃ k, ks[p.1]? = some k := ⟨_, List.getElem?_eq_getElem (by omega)⟩
  obtain ⟨_, q, kq, h3, h4⟩ := h2 p.1 k hkk
  show (pieceF fm (ks.getD p.1 0), p.2) = (g.part p.1, p.2)
  rw [List.getD_eq_getElem?_getD, hkk]
  show (pieceF fm k, p.2) = _
  rw [pieceF_at h3]
  unfold Fm.part
  rw [h4]
  rfl
theorem fits_sh {g : Fm} {d : PyData} {kds : List (Nat × PyData)} (h : Fits g d kds) (hs : SeqAt.shaped d = true) : ∀ p, p ∈ kds → SeqAt.shaped p.2 = true := by
  cases h with
  | sign x => intro p hp; cases hp
  | @row ps kds hne hg =>
    intro p hp
    have h1 := shMem hs (d := .tuple (kds.map pD)) (by simp)
    have h2 := shMem h1 (d := pD p) (List.mem_map.mpr ⟨p, hp, rfl⟩)
    exact shMem h2 (d := p.2) (by simp)
  | @pick ps j d hj =>
    intro p hp
    rw [List.mem_singleton.mp hp]
    exact shMem hs (by simp)
  | @times p l h ds hne h1 h2 =>
    intro x hx
    obtain ⟨d, hd, rfl⟩ := List.mem_map.mp hx
    exact shMem (shMem hs (d := .tuple ds) (by simp)) hd
section
variable {P : Program} {w : World} {K : PySem.W.Frag} {mg : Str → Option Value} {base : Heap}
abbrev n_is_reading : List Str := ["form", "row", "thing", "pieces", "empty", "at", "ahead", "number", "told", "piece", "parts", "part", "k", "inner"]
theorem sc_is_reading : FnScope n_is_reading ["form", "row", "thing"] (defScope s_is_reading) := ⟨rfl, rfl, rfl, by decide +kernel, rfl, by decide +kernel, by decide +kernel⟩
def IsRd (fm : Fm) (r : RowS) (d : PyData) : Prop := (d = .none ∧ r = [] ∧ fm.nothing = true) ∨ (r ≠ [] ∧ Rd1 fm d r)
def spIsR (K : PySem.W.Frag) : Sp := fun vs H Q _ => ∃ (v u : V) (rv : Addr) (fm : Fm) (r : RowS) (d : PyData), vs = [v, .ref rv, u] ∧ FmAt K H v fm ∧ SqT K H rv (r.map V.str) ∧ fm.size ≤ 1000 ∧ Dp K H u d ∧ SeqAt.shaped d = true ∧ ndD d ≤ 100000 ∧
  ∀ H' b, Same H H' → (b = true ↔ IsRd fm r d) → Q (.bl b) H'
/-- the loop over what is ahead -/
abbrev IsW (K : PySem.W.Frag) (H0 : Hp) (v : V) (rv pa ea aA : Addr) (u : V) (fm : Fm) (r : RowS) (W : Prop) : Nat → L2.St → Hp → Prop := fun m σ H1 =>
  ∃ (at_ : Nat) (S : List (Nat × PyData)) (ws : List V) (o7 o8 o9 o10 : Option V), σ = [some v, some (.ref rv), some u, some (.ref pa), some (.ref ea), some (.int (at_ : Int)), some (.ref aA), o7, o8, o9, o10, none, none, none] ∧ m = sumN S ∧ Same H0 H1 ∧
    H1 aA = some (.lst ws) ∧ Paired (PrAt K H0 H1) ws S.reverse ∧ at_ ≤ r.length ∧ (∀ p, p ∈ S → p.1 < fm.size ∧ SeqAt.shaped p.2 = true) ∧ sumN S ≤ 100000 ∧ (W ↔ RsN fm S (r.drop at_))
theorem ok_is_reading (F : DefAt K mg "is_reading" s_is_reading ["form", "row", "thing"]) (d__fits : DefOk P w K mg base "_fits" 4 ["piece", "empty", "thing"] (spFits K)) (d__inner : DefOk P w K mg base "_inner" 1 ["reading"] (spInner K)) (d_laid : DefOk P w K mg base "laid" 2 ["form"] (spLaid K)) (d_emptiness : DefOk P w K mg base "emptiness" 2 ["pieces"] (spEmpt K)) (d_may_nothing : DefOk P w K mg base "may_nothing" 3 ["form"] (spMayN K))
    (b_len : mg "len" = none) : DefOk P w K mg base "is_reading" 5 ["form", "row", "thing"] (spIsR K) := by
  refine F.ok sc_is_reading (fun vs H Q E h => ?_) (fun f cdv A outer s H vs Q E hr h => ?_)
  · obtain ⟨_, _, _, _, _, _, rfl, _⟩ := h
    rfl
  obtain ⟨v, u, rv, fm, r, d, rfl, hf, hrow, hsz, hu, hsh, hnd, k⟩ := h
  obtain ⟨t3, h3, f3⟩ : ∃ t3, PSs (cxOf CX0 P w K mg base n_is_reading "is_reading" (defScope s_is_reading) f cdv A outer s H E).nox ((whileBody ((defBody s_is_reading).getD 5 (.Pass ⟨0, 0, 0, 0⟩))).drop 4) t3 ∧
      ∀ (pa ea aA pk : Addr) (D : Ends) (H0 H6 : Hp) (at' n : Nat) (g : Fm) (dd : PyData) (kds : List (Nat × PyData)) (ks : List Nat) (ws' : List V) (tv p9 : V), Same H0 H6 → Dp K H0 tv dd → Fits g dd kds → H6 pk = some (.lst (kidsV ks)) → H6 aA = some (.lst ws') → ws'.length ≤ 1000000 → kds.length ≤ 1000000 → (∀ p, p ∈ kds → p.1 < ks.length) →
        (∀ (H7 : Hp) (ws7 : List V), (∀ b o, H6 b = some o → b ≠ aA → H7 b = some o) → H7 aA = some (.lst (ws' ++ ws7)) → Paired (PrAt K H0 H7) ws7 (kds.map fun p => (ks.getD p.1 0, p.2)).reverse → D.nx [some v, some (.ref rv), some u, some (.ref pa), some (.ref ea), some (.int (at' : Int)), some (.ref aA), some (.int (n : Int)), some tv, some p9, some (.ref pk), none, none, none] H7) →
        t3 D [some v, some (.ref rv), some u, some (.ref pa), some (.ref ea), some (.int (at' : Int)), some (.ref aA), some (.int (n : Int)), some tv, some p9, some (.ref pk), none, none, none] H6 := by
    refine ⟨_, (pss_one (ps_expr (pe_bm PySem.F.plainAttrs_list PySem.F.slot_list_extend PySem.F.type_list_extend mt_extend (pv 6) (pa_cons (pe_revL (pe_lc (own := [("k", 12), ("inner", 13)]) (g := gTup K 2 (gCons (gName 12) (gCons (gName 13) gNil))) rfl sc_is_reading.nd (pi_list (pe_callD d__inner (hr.mono (by decide)) rfl (pa_cons (pv 8) pa_nil))) (blkOk_by (own := [("k", 12), ("inner", 13)]) (N := n_is_reading) (sc := defScope s_is_reading) (by decide +kernel)) (fun _ _ _ _ _ => (pg_tup rfl (pgs_cons (pg_name (i := 12) sc_is_reading.nd rfl (Or.inl rfl)) (pgs_cons (pg_name (i := 13) sc_is_reading.nd rfl (Or.inl rfl)) pgs_nil)))) (fun _ _ _ _ _ => pts_nil) (fun _ _ _ _ _ => (pe_tup (pa_cons (pe_ix (r := rIxL K) ix_list (pv 10) (pv 12) (fun _ _ => rfl)) (pa_cons (pv 13) pa_nil)))))) pa_nil)))), ?_⟩
    intro pa ea aA pk D H0 H6 at' n g dd kds ks ws' tv p9 s06 htv hfit hpk hA6 hw6 hil hik fin
    refine ⟨_, rfl, .inl ⟨rfl, _, sL hA6⟩, ?_⟩
    refine ⟨_, rfl, H0, tv, g, dd, kds, rfl, s06, htv, hfit, hil, fun H7 D1 ws1 s7 hD1 nD1 hws1 => ?_⟩
    have hl1 : ws1.length = kds.length := Paired.length hws1
    refine ⟨D1, rfl, ⟨_, sL hD1⟩, fun D2 nD2 => lc_list (K := K) (a := D1) (xs := ws1) (fun i H' => ∃ acc : List V, Same H7 H' ∧ H' D2 = some (.lst acc) ∧ acc.length = i ∧ Paired (PrAt K H0 H') acc ((kds.take i).map fun p => (ks.getD p.1 0, p.2)))
      ⟨[], .new nD2, upd_same, rfl, .nil⟩ (fun i H' _ ⟨_, g, _⟩ => sL (g _ _ hD1)) ?_ ?_⟩
    · rintro i x H8 hx ⟨acc, g8, hD8, hl8, ha8⟩
      obtain ⟨p, hp, b, y2, rfl, hb, e3⟩ := pairedAtL hws1 hx
      have hi := (List.getElem?_eq_some_iff.mp hp).1
      have hpl := hik p (List.mem_of_getElem? hp)
      have hkk : (kidsV ks)[p.1]? = some (V.int ((ks.getD p.1 0 : Nat) : Int)) := by rw [kidsV, List.getElem?_map, List.getD_eq_getElem?_getD, List.getElem?_eq_getElem hpl]; rfl
      refine ⟨b, _, rfl, g8.sqT hb, rfl, _, _, rfl, _, _, rfl, rfl, rfl, ?_⟩
      refine ⟨_, rfl, _, rfl, pk, _, p.1, _, rfl, rfl, sL (g8 _ _ (s7 _ _ hpk)), atI_nat (j := p.1) hkk, _, rfl, (by show 2 ≤ sizeLine; decide), fun p2 np2 => ?_⟩
      have t2 : Same H8 (upd H8 p2 (.tup [.int ((ks.getD p.1 0 : Nat) : Int), y2])) := .new np2
      have hD9 := t2 _ _ hD8
      refine ⟨acc, hD9, szb (by omega), acc ++ [.ref p2], (g8.trans t2).mut nD2, upd_same, by rw [List.length_append, hl8]; rfl, ?_⟩
      rw [take_snoc hp, List.map_append]
      exact pairedApp (pairedMap ha8 fun _ _ q => (q.same t2).w hD9) (.cons ⟨p2, y2, rfl, sqTW hD9 (sT upd_same), e3⟩ .nil)
    · rintro H8 ⟨acc, g8, hD8, hl8, ha8⟩
      rw [hl1, List.take_length] at ha8
      refine ⟨D2, acc, rfl, sL hD8, fun D3 nD3 => ?_⟩
      have t3' : Same H8 (upd H8 D3 (.lst acc.reverse)) := .new nD3
      have hA8 := ((s7.trans g8).trans t3') _ _ hA6
      refine ⟨aA, D3, _, _, rfl, rfl, hA8, upd_same, szl (by rw [List.length_reverse]; omega), ?_⟩
      refine fin _ acc.reverse (fun b o hb nb => by rw [upd_ne nb]; exact ((s7.trans g8).trans t3') _ _ hb) upd_same ?_
      exact pairedMap (pairedRev (pairedMap ha8 fun _ _ q => q.same t3')) fun _ _ q => q.w hA8
  refine ⟨_, (pss_cons (ps_if (pt_cmpR op_eq (pe_callB call_len_seq (by rfl) b_len PySem.boot_len (pa_cons (pv 1) pa_nil)) pe_int (nomark _)) (pss_one (ps_ret (pe_and (pe_cmp (pc_isN (pv 2)) rfl) (pe_one (pe_callD d_may_nothing (hr.mono (by decide)) rfl (pa_cons (pv 0) pa_nil)))))) pss_nil)
    (pss_cons (ps_set (i := 3) sc_is_reading.nd rfl (Or.inl rfl) (pe_callD d_laid (hr.mono (by decide)) rfl (pa_cons (pv 0) pa_nil)))
    (pss_cons (ps_set (i := 4) sc_is_reading.nd rfl (Or.inr rfl) (pe_callD d_emptiness (hr.mono (by decide)) rfl (pa_cons (pv 3) pa_nil)))
    (pss_cons (ps_set (i := 5) sc_is_reading.nd rfl (Or.inl rfl) pe_int)
    (pss_cons (ps_set (i := 6) sc_is_reading.nd rfl (Or.inl rfl) (pe_lst (pa_cons (pe_tup (pa_cons pe_int (pa_cons (pv 2) pa_nil))) pa_nil)))
    (pss_cons (ps_while PassesOwn.never (pt_truth (pv 6) (by intro _; rfl)) (pss_cons (ps_asg (pe_bm0 PySem.F.plainAttrs_list PySem.F.slot_list_pop PySem.F.type_list_pop mt_pop (pv 6)) (pg_tup rfl (pgs_cons (pg_name (i := 7) sc_is_reading.nd rfl (Or.inl rfl)) (pgs_cons (pg_name (i := 8) sc_is_reading.nd rfl (Or.inl rfl)) pgs_nil))))
    (pss_cons (ps_asg (pe_ix ix_list (pv 3) (pv 7) (fun _ _ => rfl)) (pg_tup rfl (pgs_cons (pg_name (i := 9) sc_is_reading.nd rfl (Or.inl rfl)) (pgs_cons (pg_name (i := 10) sc_is_reading.nd rfl (Or.inr rfl)) pgs_nil))))
    (pss_cons (ps_if (PW.pt (pw_or (pt_cmpR op_eq (pv 5) (pe_callB call_len_seq (by rfl) b_len PySem.boot_len (pa_cons (pv 1) pa_nil)) (nomark _)) (pw_or1 (pt_not (pt_val (pe_callD d__fits (hr.mono (by decide)) rfl (pa_cons (pv 9) (pa_cons (pe_lc (own := [("part", 11)]) (g := gName 11) rfl sc_is_reading.nd (pi_list (pv 10)) (blkOk_by (own := [("part", 11)]) (N := n_is_reading) (sc := defScope s_is_reading) (by decide +kernel)) (fun _ _ _ _ _ => (pg_name (i := 11) sc_is_reading.nd rfl (Or.inl rfl))) (fun _ _ _ _ _ => pts_nil) (fun _ _ _ _ _ => (pe_ix (r := rIxL K) ix_list (pv 4) (pv 11) (fun _ _ => rfl)))) (pa_cons (pv 8) pa_nil))))))))) (pss_one (ps_ret pe_bl)) pss_nil)
    (pss_cons (ps_if (pt_cmpR op_eq (pe_ix ix_tup (pv 9) pe_int (fun _ _ => rfl)) pe_str (nomark _)) (pss_cons (ps_if (pt_cmpR op_ne (pe_ix ix_tup (pv 1) (pv 5) (fun _ _ => rfl)) (pe_ix ix_tup (pv 9) pe_int (fun _ _ => rfl)) (nomark _)) (pss_one (ps_ret pe_bl)) pss_nil)
    (pss_one (ps_aug (i := 5) sc_is_reading.nd rfl (Or.inl rfl) pe_int ip_add))) pss_nil)
    h3)))))
    (pss_one (ps_ret (pe_cmpR op_eq (pv 5) (pe_callB call_len_seq (by rfl) b_len PySem.boot_len (pa_cons (pv 1) pa_nil)) (nomark _)))))))))), ?_⟩
  refine ⟨_, rfl, rv, _, rfl, .inr hrow, rfl, _, rfl, ?_⟩
  rw [List.length_map]
  by_cases hr0 : r = []
  · subst hr0
    refine iteT ?_
    by_cases hdn : d = .none
    · subst hdn
      cases dpNone hu
      refine ⟨_, rfl, true, rfl, iteT ⟨_, rfl, v, fm, rfl, hf, by omega, fun H1 s1 => k _ _ s1 ⟨fun h => .inl ⟨rfl, rfl, h⟩, fun h => ?_⟩⟩⟩
      rcases h with h | h
      · exact h.2.2
      · exact absurd rfl h.1
    · have hun : u ≠ .non := fun e => by
        subst e
        cases hu
        exact hdn rfl
      refine ⟨_, rfl, false, congrArg V.bl (decide_eq_false hun), iteF ?_⟩
      refine k _ _ (.refl _) ⟨(fun h => by cases h), fun h => ?_⟩
      rcases h with h | h
      · exact absurd h.1 hdn
      · exact absurd rfl h.1
  have hrl : 0 < r.length := List.length_pos_iff.mpr hr0
  have kk : ∀ H' b, Same H H' → (b = true ↔ Rd1 fm d r) → Q (.bl b) H' := fun H' b s hb => k H' b s ⟨fun h => .inr ⟨hr0, hb.mp h⟩, fun h => by
    rcases h with h | h
    · exact absurd h.2.1 hr0
    · exact hb.mpr h.2⟩
  rw [show decide (V.int ((r.length : Nat) : Int) = V.int 0) = false from decide_eq_false fun e => by have := V.int.inj e; omega]
  refine iteF ⟨_, rfl, v, fm, rfl, hf, by omega, fun H1 pa s1 npa hl1 => ?_⟩
  refine ⟨_, rfl, pa, fm, rfl, hl1, by omega, fun H2 ea s2 nea hem => ?_⟩
  have s12 := s1.trans s2
  refine ⟨_, rfl, (by show 2 ≤ sizeLine; decide), fun p0 np0 => ⟨(by show 1 ≤ sizeLine; decide), fun aA naA => ?_⟩⟩
  have s3 : Same H2 (upd H2 p0 (.tup [.int 0, u])) := .new np0
  have s4 : Same (upd H2 p0 (.tup [.int 0, u])) (upd (upd H2 p0 (.tup [.int 0, u])) aA (.lst [.ref p0])) := .new naA
  obtain ⟨rs, hP, hR⟩ := (hl1.same s2).same s3
  have hem3 := s3 _ _ hem
  have nA2 : (upd H2 p0 (.tup [.int 0, u])) aA = none := naA
  have s03 := s12.trans s3
  have hq3 : (upd H2 p0 (.tup [.int 0, u])) p0 = some (.tup [.int 0, u]) := upd_same
  generalize upd H2 p0 (.tup [.int 0, u]) = H3 at s4 hP hR hem3 nA2 s03 hq3 ⊢
  obtain ⟨ks0, hks0⟩ : ∃ ks, (laidF fm 0)[0]? = some (fm, ks) := ⟨_, by rw [laidF_eq]; rfl⟩
  have hu3 := dpS s03 hu
  refine ⟨IsW K H3 v rv pa ea aA u fm r (Rd1 fm d r), ⟨_, 0, [(0, d)], [.ref p0], none, none, none, none, rfl, rfl, s4, upd_same, .cons ⟨p0, u, rfl, sT (s4 _ _ hq3), hu3⟩ .nil, Nat.zero_le _, ?_, ?_, ?_⟩, ?_⟩
  · intro p hp
    rw [List.mem_singleton.mp hp]
    refine ⟨?_, hsh⟩
    have := (List.getElem?_eq_some_iff.mp hks0).1
    rw [laidF_length] at this
    exact this
  · show ndD d + 0 ≤ 100000
    omega
  · show _ ↔ RsI [(pieceF fm 0, d)] r
    rw [pieceF_at hks0]
    exact ⟨fun h => ⟨r, [], by rw [List.append_nil], h, rfl⟩, fun ⟨s1, s2, e, h1, h2⟩ => by
      have h2' : s2 = [] := h2
      rw [e, h2', List.append_nil]
      exact h1⟩
  rintro m σ H4 ⟨at_, S, ws, o7, o8, o9, o10, rfl, rfl, g4, hA4, hS4, hat, hSn, hSm, hW⟩
  cases S with
  | nil =>
    cases hS4
    refine ⟨_, rfl, false, .inl ⟨_, sL hA4, rfl⟩, iteF ?_⟩
    refine ⟨_, rfl, _, rfl, rv, _, rfl, .inr ((s03.trans g4).sqT hrow), rfl, ?_⟩
    rw [List.length_map]
    show Q (.bl (decide (V.int (at_ : Int) = V.int (r.length : Int)))) H4
    refine kk _ _ (s03.trans g4) ⟨fun h => hW.mpr ?_, fun h => decide_eq_true ?_⟩
    · have := V.int.inj (of_decide_eq_true h)
      show r.drop at_ = []
      exact List.drop_eq_nil_of_le (by omega)
    · have h0 : r.drop at_ = [] := hW.mp h
      have h1 := List.drop_eq_nil_iff.mp h0
      rw [show at_ = r.length by omega]
  | cons it S' =>
    obtain ⟨n, dd⟩ := it
    obtain ⟨hn, hdsh⟩ := hSn (n, dd) List.mem_cons_self
    obtain ⟨g, ks, ht⟩ : ∃ g ks, (laidF fm 0)[n]? = some (g, ks) := by
      have : n < (laidF fm 0).length := by rw [laidF_length]; exact hn
      exact ⟨((laidF fm 0)[n]).1, ((laidF fm 0)[n]).2, List.getElem?_eq_getElem this⟩
    rw [List.reverse_cons] at hS4
    obtain ⟨ws', wv, rfl, hS5, hw⟩ := pairedUnsnoc hS4
    have hsum : sumN ((n, dd) :: S') = ndD dd + sumN S' := rfl
    have hwl : ws'.length = S'.length := by rw [Paired.length hS5, List.length_reverse]
    have hSl := sumN_len S'
    have hW' : Rd1 fm d r ↔ ∃ s1 s2, r.drop at_ = s1 ++ s2 ∧ Rd1 g dd s1 ∧ RsN fm S' s2 := by
      rw [hW]
      show (∃ s1 s2, r.drop at_ = s1 ++ s2 ∧ Rd1 (pieceF fm n) dd s1 ∧ _) ↔ _
      rw [pieceF_at ht]
      rfl
    refine ⟨_, rfl, true, .inl ⟨_, sL hA4, by simp⟩, iteT ?_⟩
    refine ⟨fun σ' H' => ∃ m', m' < sumN ((n, dd) :: S') ∧ IsW K H3 v rv pa ea aA u fm r (Rd1 fm d r) m' σ' H', fun σ' H' h => h, ?_⟩
    have eL : (ws' ++ [wv])[(ws' ++ [wv]).length - 1]? = some wv := by simp
    have eD : (ws' ++ [wv]).dropLast = ws' := by simp
    refine ⟨_, rfl, .inl ⟨rfl, _, sL hA4⟩, aA, _, _, rfl, rfl, hA4, eL, ?_⟩
    rw [eD]
    have g5 : Same H3 (upd H4 aA (.lst ws')) := g4.mut nA2
    have hS6 : Paired (PrAt K H3 (upd H4 aA (.lst ws'))) ws' S'.reverse := pairedMap hS5 fun _ _ q => q.w hA4
    obtain ⟨b, y2, rfl, hb, e3⟩ := hw.w (o := .lst ws') hA4
    have hA5 : (upd H4 aA (.lst ws')) aA = some (.lst ws') := upd_same
    generalize upd H4 aA (.lst ws') = H5 at g5 hS6 hb hA5 ⊢
    obtain ⟨rw0, hr1'⟩ : ∃ rw0, rs[n]? = some rw0 := ⟨_, List.getElem?_eq_getElem (by rw [hR.len]; exact (List.getElem?_eq_some_iff.mp ht).1)⟩
    obtain ⟨x1, x2, x3⟩ := (hR.same g5).at_ n rw0 _ hr1' ht
    have hkid := kids_of ht
    refine ⟨b, _, rfl, hb, rfl, _, _, rfl, _, _, rfl, rfl, ?_⟩
    refine ⟨_, rfl, _, rfl, pa, _, n, _, rfl, rfl, sL (g5 _ _ hP), atI_nat (j := n) (by rw [List.getElem?_map, hr1']; rfl), ?_⟩
    refine ⟨rw0.1, _, rfl, sT x1, rfl, _, _, rfl, _, _, rfl, rfl, ?_⟩
    refine ⟨_, rfl, _, rfl, rv, _, rfl, .inr ((s03.trans g5).sqT hrow), rfl, _, rfl, ?_⟩
    rw [List.length_map]
    by_cases hlt : at_ = r.length
    · rw [show decide (V.int ((at_ : Nat) : Int) = V.int ((r.length : Nat) : Int)) = true from decide_eq_true (by rw [hlt])]
      refine iteT (kk _ _ (s03.trans g5) ⟨(fun h => by cases h), fun h => ?_⟩)
      obtain ⟨s1, s2, e, h1, _⟩ := hW'.mp h
      rw [hlt, List.drop_length] at e
      exact absurd (List.append_eq_nil_iff.mp e.symm).1 h1.ne
    rw [show decide (V.int ((at_ : Nat) : Int) = V.int ((r.length : Nat) : Int)) = false from decide_eq_false fun e => hlt (by have := V.int.inj e; omega)]
    have hks20 : ks.length ≤ 1000 := by have := kids_len ht; omega
    refine iteF ⟨_, rfl, _, rfl, rw0.2.2, rfl, ⟨_, sL x3⟩, fun D nD => lc_list (K := K) (a := rw0.2.2) (xs := kidsV ks) (fun i H' => Same H5 H' ∧ H' D = some (.lst (((g.parts.map Fm.nothing).take i).map V.bl))) ⟨.new nD, upd_same⟩ (fun i H' _ ⟨g, _⟩ => sL (g _ _ x3)) ?_ ?_⟩
    · rintro i x H' hx ⟨g6, hD6⟩
      obtain ⟨kk', hkk, rfl⟩ := kidsV_at hx
      obtain ⟨_, q', kq, h4, h5⟩ := hkid.2 i kk' hkk
      have hi := (List.getElem?_eq_some_iff.mp hkk).1
      refine ⟨rfl, ?_⟩
      refine ⟨_, rfl, _, rfl, ea, _, kk', _, rfl, rfl, sL (g6 _ _ (g5 _ _ hem3)), atI_nat (j := kk') (v := .bl q'.nothing) (by rw [emptL, List.getElem?_map, h4]; rfl), _, hD6, szb (by rw [List.length_map, List.length_take]; omega), g6.mut nD, ?_⟩
      rw [upd_same, List.take_add_one, List.getElem?_map, h5, List.map_append]
      rfl
    rintro H6 ⟨g6, hD6⟩
    have hkl : (kidsV ks).length = (g.parts.map Fm.nothing).length := by rw [kidsV, List.length_map, List.length_map, hkid.1]
    rw [hkl, List.take_length] at hD6
    have s06 := g5.trans g6
    refine ⟨_, rfl, rw0.2.1, y2, D, g, dd, rfl, dpS g6 x2, hD6, dpS s06 e3, hdsh, by rw [← hkid.1]; exact hks20, fun H7 s7 => ⟨_, rfl, ?_⟩⟩
    have g57 := g6.trans s7
    have s07 := g5.trans g57
    cases ei : innD g dd with
    | none =>
      refine iteT (kk _ _ (s03.trans s07) ⟨(fun h => by cases h), fun h => ?_⟩)
      obtain ⟨s1, s2, _, h1, _⟩ := hW'.mp h
      exact absurd h1 (rd_none ei s1)
    | some kds =>
    refine iteF ?_
    have hfit := fits_of ei
    have hlt' : at_ < r.length := by omega
    have hnk : ∀ p, p ∈ kds → p.1 < g.parts.length := fun p hp => (fits_dp hfit p hp).elim id fun e => e.elim
    have hnks : ∀ p, p ∈ kds → p.1 < ks.length := fun p hp => by rw [hkid.1]; exact hnk p hp
    have hmes := fits_nd hfit
    have hkl2 := sumN_len kds
    have hsumk : sumN (kds.map fun p => (ks.getD p.1 0, p.2)) = sumN kds := sumN_num (fun i => ks.getD i 0) kds
    have goOn : ∀ (at' : Nat), at' ≤ r.length → (Rd1 fm d r ↔ RsN fm ((kds.map fun p => (ks.getD p.1 0, p.2)) ++ S') (r.drop at')) →
        ∀ D : Ends, (∀ σ' H', (∃ m', m' < sumN ((n, dd) :: S') ∧ IsW K H3 v rv pa ea aA u fm r (Rd1 fm d r) m' σ' H') → D.nx σ' H') → t3 D
          [some v, some (.ref rv), some u, some (.ref pa), some (.ref ea), some (.int (at' : Int)), some (.ref aA), some (.int (n : Int)), some y2, some rw0.2.1, some (.ref rw0.2.2), none, none, none] H7 := by
      intro at' hat' hW2 DD hDD
      refine f3 pa ea aA rw0.2.2 _ H3 H7 at' n g dd kds ks ws' y2 rw0.2.1 s07 e3 hfit (g57 _ _ x3) (g57 _ _ hA5) (by omega) (by omega) hnks fun H8 ws7 fr hA8 hd8 => hDD _ _ ?_
      refine ⟨_, ?_, at', (kds.map fun p => (ks.getD p.1 0, p.2)) ++ S', ws' ++ ws7, _, _, _, _, rfl, rfl, fun y o hy => fr _ _ (s07 _ _ hy) (fun e => by rw [e, nA2] at hy; cases hy), hA8, ?_, hat', ?_, ?_, hW2⟩
      · rw [sumN_app, hsumk, hsum]
        omega
      · rw [List.reverse_append]
        exact pairedApp (pairedMap hS6 fun _ _ q => (q.same g57).but (g57 _ _ hA5) fr) hd8
      · intro p hp
        rcases List.mem_append.mp hp with hp | hp
        · obtain ⟨p', hp', rfl⟩ := List.mem_map.mp hp
          refine ⟨?_, ?_⟩
          · obtain ⟨k2, hk2⟩ : ∃ k, ks[p'.1]? = some k := ⟨_, List.getElem?_eq_getElem (hnks p' hp')⟩
            obtain ⟨_, q, kq, h3', _⟩ := hkid.2 p'.1 k2 hk2
            have := (List.getElem?_eq_some_iff.mp h3').1
            rw [laidF_length] at this
            show ks.getD p'.1 0 < _
            rw [List.getD_eq_getElem?_getD, hk2]
            exact this
          · exact fits_sh hfit hdsh p' hp'
        · exact hSn p (List.mem_cons_of_mem _ hp)
      · rw [sumN_app, hsumk]
        omega
    by_cases hgs : g.isSign = true
    · obtain ⟨x, rfl⟩ : ∃ x, g = .sign x := by cases g <;> first | exact ⟨_, rfl⟩ | cases hgs
      cases hfit with
      | sign =>
      obtain ⟨a, ea', hta⟩ := fmSign (dpS g57 x2)
      refine ⟨_, rfl, a, _, 0, _, ea', rfl, hta, atI_nat (j := 0) rfl, rfl, _, rfl, iteT ?_⟩
      obtain ⟨y, hy⟩ : ∃ y, r[at_]? = some y := ⟨_, List.getElem?_eq_getElem hlt'⟩
      have hdr : r.drop at_ = y :: r.drop (at_ + 1) := by
        obtain ⟨h1, h2⟩ := List.getElem?_eq_some_iff.mp hy
        rw [List.drop_eq_getElem_cons h1, h2]
      refine ⟨_, rfl, _, rfl, rv, _, at_, _, rfl, rfl, (s03.trans s07).sqT hrow, atI_nat (j := at_) (by rw [List.getElem?_map, hy]; rfl), _, rfl, a, _, 1, _, ea', rfl, hta, atI_nat (j := 1) rfl, rfl, _, rfl, ?_⟩
      by_cases hxy : y = x
      · subst hxy
        rw [show (!decide (V.str y = V.str y)) = false by simp]
        refine iteF ⟨_, rfl, _, _, rfl, rfl, ?_⟩
        refine goOn (at_ + 1) (by omega) ?_ _ (fun _ _ h => h)
        rw [hW', hdr]
        constructor
        · rintro ⟨s1, s2, e, h1, h2⟩
          rw [rd_sign.mp h1] at e
          rw [List.singleton_append, List.cons.injEq] at e
          rw [e.2]
          exact h2
        · intro h2
          exact ⟨[y], _, rfl, rd_sign.mpr rfl, h2⟩
      · rw [show (!decide (V.str y = V.str x)) = true by rw [decide_eq_false (fun e => hxy (V.str.inj e))]; rfl]
        refine iteT (kk _ _ (s03.trans s07) ⟨(fun h => by cases h), fun h => ?_⟩)
        obtain ⟨s1, s2, e, h1, _⟩ := hW'.mp h
        rw [rd_sign.mp h1, hdr, List.singleton_append, List.cons.injEq] at e
        exact absurd e.1 hxy
    · have hgs' : g.isSign = false := eq_false_of_ne_true hgs
      obtain ⟨a, xs, ea', hta⟩ := fmTup (dpS g57 x2)
      have hkd : g.kind ≠ "sign" := by
        cases g with
        | sign s => cases hgs'
        | row _ => exact (show ("row" : Str) ≠ "sign" by decide)
        | pick _ => exact (show ("pick" : Str) ≠ "sign" by decide)
        | times _ _ _ => exact (show ("times" : Str) ≠ "sign" by decide)
      refine ⟨_, rfl, a, _, 0, _, ea', rfl, hta, atI_nat (j := 0) rfl, rfl, _, rfl, ?_⟩
      rw [show decide (V.str g.kind = V.str "sign") = false from decide_eq_false fun e => hkd (V.str.inj e)]
      refine iteF ?_
      refine goOn at_ hat ?_ _ (fun _ _ h => h)
      rw [hW']
      unfold RsN
      rw [List.map_append, its_kids ht hnk, RsI.app]
      constructor
      · rintro ⟨s1, s2, e, h1, h2⟩
        exact ⟨s1, s2, e, (rd_in hfit hgs' s1).mp h1, h2⟩
      · rintro ⟨s1, s2, e, h1, h2⟩
        exact ⟨s1, s2, e, (rd_in hfit hgs' s1).mpr h1, h2⟩
end
end Sw
set_option Elab.async false
set_option maxRecDepth 100000
set_option maxHeartbeats 8000000
namespace Sw
open PySem L2 PySem.Spec PyProof.Rows
theorem fresh0 {H H1 : Hp} {p : Addr} (s : Same H H1) (h : H1 p = none) : H p = none := s.free h
mutual
def Rdg.siz : Rdg → Nat
  | .leaf => 1
  | .row ps => 1 + Rdg.sizP ps
  | .pick _ q => 1 + q.siz
  | .times qs => 1 + Rdg.sizL qs
def Rdg.sizP : List (Nat × Rdg) → Nat
  | [] => 0
  | (_, q) :: ps => q.siz + Rdg.sizP ps
def Rdg.sizL : List Rdg → Nat
  | [] => 0
  | q :: qs => q.siz + Rdg.sizL qs
end
theorem sizP_app : ∀ a b : List (Nat × Rdg), Rdg.sizP (a ++ b) = Rdg.sizP a + Rdg.sizP b
  | [], b => by simp [Rdg.sizP]
  | (k, q) :: a, b => by rw [List.cons_append, Rdg.sizP, Rdg.sizP, sizP_app a b]; omega
theorem siz_pos (q : Rdg) : 0 < q.siz := by cases q <;> simp [Rdg.siz] <;> omega
theorem siz_inner (q : Rdg) (f : Nat → Nat) : Rdg.sizP ((innerP q).map fun p => (f p.1, p.2)) < q.siz := by
  have h1 : ∀ ps : List (Nat × Rdg), Rdg.sizP (ps.map fun p => (f p.1, p.2)) = Rdg.sizP ps := by
    intro ps
    induction ps with
    | nil => rfl
    | cons p ps ih => obtain ⟨k, q⟩ := p; rw [List.map_cons, Rdg.sizP, Rdg.sizP, ih]
  have h2 : ∀ qs : List Rdg, Rdg.sizP (qs.map fun q => (0, q)) = Rdg.sizL qs := by
    intro ps
    induction ps with
    | nil => rfl
    | cons p ps ih => rw [List.map_cons, Rdg.sizP, Rdg.sizL, ih]
  rw [h1]
  cases q with
  | leaf => rw [innerP, Rdg.siz, Rdg.sizP]; omega
  | row ps => rw [innerP, Rdg.siz]; omega
  | pick k q => rw [innerP, Rdg.siz, Rdg.sizP, Rdg.sizP]; omega
  | times qs => rw [innerP, Rdg.siz, h2]; omega
section
variable {P : Program} {w : World} {K : PySem.W.Frag} {mg : Str → Option Value} {base : Heap}
def spInnerR (K : PySem.W.Frag) : Sp := fun vs H Q _ => ∃ (v : V) (q : Rdg), vs = [v] ∧ Dp K H v q.dat ∧ (innerP q).length ≤ 1000 ∧ ∀ (H' : Hp) (D : Addr) (ws : List V), Same H H' → H' D = some (.lst ws) → H D = none → DpAll K H' ws (Rdg.datP (innerP q)) → Q (.ref D) H'
theorem ok_innerR (F : DefAt K mg "_inner" s_inner ["reading"]) (b_list : mg "list" = none) : DefOk P w K mg base "_inner" 1 ["reading"] (spInnerR K) := by
  refine F.ok sc_inner (fun vs H Q E h => ?_) (fun f cdv A outer s H vs Q E hr h => ?_)
  · obtain ⟨_, _, rfl, _⟩ := h
    rfl
  obtain ⟨v, q, rfl, hv, hl, k⟩ := h
  refine ⟨_, (pss_cons (ps_if (pt_cmpR op_eq (pe_ix ix_tup (pv 0) pe_int (fun _ _ => rfl)) pe_str (nomark _)) (pss_one (ps_ret (pe_callTy call_list_of (by rfl) b_list (by decide +kernel) (pa_cons (pe_ix ix_tup (pv 0) pe_int (fun _ _ => rfl)) pa_nil)))) pss_nil)
    (pss_cons (ps_if (pt_cmpR op_eq (pe_ix ix_tup (pv 0) pe_int (fun _ _ => rfl)) pe_str (nomark _)) (pss_one (ps_ret (pe_lst (pa_cons (pe_tup (pa_cons (pe_ix ix_tup (pv 0) pe_int (fun _ _ => rfl)) (pa_cons (pe_ix ix_tup (pv 0) pe_int (fun _ _ => rfl)) pa_nil))) pa_nil)))) pss_nil)
    (pss_cons (ps_if (pt_cmpR op_eq (pe_ix ix_tup (pv 0) pe_int (fun _ _ => rfl)) pe_str (nomark _)) (pss_one (ps_ret (pe_lc (own := [("part", 1)]) (g := gName 1) rfl sc_inner.nd (pi_tup (pe_ix ix_tup (pv 0) pe_int (fun _ _ => rfl))) (blkOk_by (own := [("part", 1)]) (N := n_inner) (sc := defScope s_inner) (by decide +kernel)) (fun _ _ _ _ _ => (pg_name (i := 1) sc_inner.nd rfl (Or.inl rfl))) (fun _ _ _ _ _ => pts_nil) (fun _ _ _ _ _ => (pe_tup (pa_cons pe_int (pa_cons (pv 1) pa_nil))))))) pss_nil)
    (pss_one (ps_ret (pe_lst pa_nil)))))), ?_⟩
  cases q with
  | leaf =>
    obtain ⟨a, xs, rfl, ht⟩ := rdTup hv
    refine ⟨_, rfl, a, _, 0, _, rfl, rfl, ht, atI_nat (j := 0) rfl, rfl, _, rfl, iteF ?_⟩
    refine ⟨_, rfl, a, _, 0, _, rfl, rfl, ht, atI_nat (j := 0) rfl, rfl, _, rfl, iteF ?_⟩
    refine ⟨_, rfl, a, _, 0, _, rfl, rfl, ht, atI_nat (j := 0) rfl, rfl, _, rfl, iteF ?_⟩
    exact ⟨(by show 0 ≤ sizeLine; decide), fun D nD => k _ D [] (.new nD) upd_same nD .nil⟩
  | row prs =>
    obtain ⟨a, b, vs, rfl, ht, hb, hd⟩ := rdRow hv
    refine ⟨_, rfl, a, _, 0, _, rfl, rfl, ht, atI_nat (j := 0) rfl, rfl, _, rfl, iteT ?_⟩
    exact ⟨_, rfl, a, _, 1, _, rfl, rfl, ht, atI_nat (j := 1) rfl, b, vs, rfl, .inr hb, fun D nD => k _ D vs (.new nD) upd_same nD (dpAllS (.new nD) (noL_datP _) hd)⟩
  | pick kk q =>
    obtain ⟨a, u, rfl, ht, hu'⟩ := rdPick hv
    refine ⟨_, rfl, a, _, 0, _, rfl, rfl, ht, atI_nat (j := 0) rfl, rfl, _, rfl, iteF ?_⟩
    refine ⟨_, rfl, a, _, 0, _, rfl, rfl, ht, atI_nat (j := 0) rfl, rfl, _, rfl, iteT ?_⟩
    refine ⟨_, rfl, a, _, 1, _, rfl, rfl, ht, atI_nat (j := 1) rfl, _, rfl, a, _, 2, _, rfl, rfl, ht, atI_nat (j := 2) rfl, (by show 2 ≤ sizeLine; decide), fun p np => ⟨(by show 1 ≤ sizeLine; decide), fun D nD => ?_⟩⟩
    have s1 : Same H (upd H p (.tup [.int (kk : Int), u])) := .new np
    exact k _ D [.ref p] (s1.trans (.new nD)) upd_same (fresh0 s1 nD) (.cons (dpS (.new nD) (.tup (sT upd_same) (.cons (.int _) (.cons (dpS s1 hu') .nil)))) .nil)
  | times qs =>
    obtain ⟨a, b, vs, rfl, ht, hb, hd⟩ := rdTimes hv
    have hl : qs.length ≤ 1000 := by have : (qs.map fun q => ((0 : Nat), q)).length ≤ 1000 := hl; rw [List.length_map] at this; exact this
    refine ⟨_, rfl, a, _, 0, _, rfl, rfl, ht, atI_nat (j := 0) rfl, rfl, _, rfl, iteF ?_⟩
    refine ⟨_, rfl, a, _, 0, _, rfl, rfl, ht, atI_nat (j := 0) rfl, rfl, _, rfl, iteF ?_⟩
    refine ⟨_, rfl, a, _, 0, _, rfl, rfl, ht, atI_nat (j := 0) rfl, rfl, _, rfl, iteT ?_⟩
    have hvl : vs.length = qs.length := by rw [dpsLen hd, datL_map, List.length_map]
    refine ⟨_, rfl, a, _, 1, _, rfl, rfl, ht, atI_nat (j := 1) rfl, b, rfl, ⟨_, hb⟩, fun D nD => lc_tup (K := K) (a := b) (xs := vs) (fun i H' => ∃ ws : List V, Same H H' ∧ H' D = some (.lst ws) ∧ ws.length = i ∧ DpAll K H' ws (Rdg.datP ((qs.take i).map fun q => (0, q))))
      ⟨[], .new nD, upd_same, rfl, .nil⟩ (fun i H' _ ⟨_, g, _⟩ => g.sqT hb) ?_ ?_⟩
    · rintro i x H' hx ⟨ws, g1, hD', hlw, hw⟩
      obtain ⟨d, hd', hdp⟩ := dpsAtV hd hx
      rw [datL_map, List.getElem?_map] at hd'
      obtain ⟨q, hq, rfl⟩ : ∃ q, qs[i]? = some q ∧ d = q.dat := by
        cases e : qs[i]? with
        | none => rw [e] at hd'; cases hd'
        | some q => rw [e] at hd'; exact ⟨q, rfl, (Option.some.inj hd').symm⟩
      have hi := (List.getElem?_eq_some_iff.mp hq).1
      refine ⟨rfl, ?_⟩
      refine ⟨_, rfl, (by show 2 ≤ sizeLine; decide), fun p np => ?_⟩
      have s2 : Same H' (upd H' p (.tup [.int 0, x])) := .new np
      have hD2 := s2 _ _ hD'
      refine ⟨ws, hD2, szb (by omega), ws ++ [.ref p], (g1.trans s2).mut nD, upd_same, by rw [List.length_append, hlw]; rfl, ?_⟩
      rw [take_snoc hq, List.map_append, datP_map, List.map_append, ← datP_map]
      exact dpAllSnoc (dpAllL hD2 (noL_datP _) (dpAllS s2 (noL_datP _) hw)) (dpL hD2 (by simp [noL, noLs, noL_dat]) (.tup (sT upd_same) (.cons (.int _) (.cons (dpS (g1.trans s2) hdp) .nil))))
    · rintro H' ⟨ws, g1, hD', hlw, hw⟩
      rw [hvl, List.take_length] at hw
      exact k H' D ws g1 hD' nD hw
end
/-! ### leaves of a reading -/
mutual
def lv : Fm → Rdg → List Nat → List (List Nat)
  | f, .leaf, pl => if f.isSign then [pl] else []
  | f, .row prs, pl => if f.isSign then [pl] else lvP f prs pl
  | f, .pick k q, pl => if f.isSign then [pl] else lv (f.part k) q (pl ++ [k])
  | f, .times qs, pl => if f.isSign then [pl] else lvL f qs pl
def lvP : Fm → List (Nat × Rdg) → List Nat → List (List Nat)
  | f, [], pl => []
  | f, (k, q) :: prs, pl => lv (f.part k) q (pl ++ [k]) ++ lvP f prs pl
def lvL : Fm → List Rdg → List Nat → List (List Nat)
  | f, [], pl => []
  | f, q :: qs, pl => lv (f.part 0) q (pl ++ [0]) ++ lvL f qs pl
end
theorem lvL_P (f : Fm) (pl : List Nat) : ∀ qs : List Rdg, lvL f qs pl = lvP f (qs.map fun q => (0, q)) pl
  | [] => by rw [lvL]; rfl
  | q :: qs => by rw [lvL, List.map_cons, lvP, lvL_P f pl qs]
theorem lv_in {f : Fm} (q : Rdg) (pl : List Nat) (h : f.isSign = false) : lv f q pl = lvP f (innerP q) pl := by
  cases q with
  | leaf => rw [lv, h, innerP, lvP]; rfl
  | row prs => rw [lv, h, innerP]; rfl
  | pick k q => rw [lv, h, innerP, lvP, lvP, List.append_nil]; rfl
  | times qs => rw [lv, h, innerP, lvL_P]; rfl
theorem lv_sign {x : Str} (pl : List Nat) : lv (.sign x) .leaf pl = [pl] := by rw [lv]; rfl
theorem sizes_memL {p : Fm} : ∀ {ps : List Fm}, p ∈ ps → p.size ≤ Fm.sizes ps
  | q :: ps, h => by
    rw [Fm.sizes]
    rcases List.mem_cons.mp h with rfl | h
    · exact Nat.le_add_right _ _
    · have := sizes_memL h
      omega
mutual
theorem siz_ok : ∀ (q : Rdg) (f : Fm) (r : RowS), q.ok f r → q.siz ≤ f.size * r.length
  | .leaf, .sign s, r, h => by rw [Rdg.ok] at h; rw [h, Rdg.siz, Fm.size]; exact Nat.le_refl _
  | .row prs, .row ps, r, h => by
    rw [Rdg.ok] at h
    have h1 := sizRow_ok prs ps 0 ps.length r h.2
    have h2 : 0 < r.length := List.length_pos_iff.mpr (okRow_ne prs ps 0 ps.length r h.1 h.2)
    rw [Rdg.siz, Fm.size, Nat.add_mul]
    omega
  | .pick k q, .pick ps, r, h => by
    rw [Rdg.ok] at h
    obtain ⟨p, h1, h2⟩ := h
    have h3 := siz_ok q p r h2
    have h4 : 0 < r.length := List.length_pos_iff.mpr (ok_ne q p r h2)
    have h5 : p.size ≤ Fm.sizes ps := sizes_memL (List.mem_of_getElem? h1)
    have h6 := Nat.mul_le_mul_right r.length h5
    rw [Rdg.siz, Fm.size, Nat.add_mul]
    omega
  | .times qs, .times p low high, r, h => by
    rw [Rdg.ok] at h
    have h1 := sizAll_ok qs p r h.2.2.2
    have h2 : 0 < r.length := List.length_pos_iff.mpr (okAll_ne qs p r h.1 h.2.2.2)
    rw [Rdg.siz, Fm.size, Nat.add_mul]
    omega
  | .leaf, .row _, r, h => by rw [Rdg.ok] at h; exact h.elim; all_goals intros; contradiction
  | .leaf, .pick _, r, h => by rw [Rdg.ok] at h; exact h.elim; all_goals intros; contradiction
  | .leaf, .times _ _ _, r, h => by rw [Rdg.ok] at h; exact h.elim; all_goals intros; contradiction
  | .row _, .sign _, r, h => by rw [Rdg.ok] at h; exact h.elim; all_goals intros; contradiction
  | .row _, .pick _, r, h => by rw [Rdg.ok] at h; exact h.elim; all_goals intros; contradiction
  | .row _, .times _ _ _, r, h => by rw [Rdg.ok] at h; exact h.elim; all_goals intros; contradiction
  | .pick _ _, .sign _, r, h => by rw [Rdg.ok] at h; exact h.elim; all_goals intros; contradiction
  | .pick _ _, .row _, r, h => by rw [Rdg.ok] at h; exact h.elim; all_goals intros; contradiction
  | .pick _ _, .times _ _ _, r, h => by rw [Rdg.ok] at h; exact h.elim; all_goals intros; contradiction
  | .times _, .sign _, r, h => by rw [Rdg.ok] at h; exact h.elim; all_goals intros; contradiction
  | .times _, .row _, r, h => by rw [Rdg.ok] at h; exact h.elim; all_goals intros; contradiction
  | .times _, .pick _, r, h => by rw [Rdg.ok] at h; exact h.elim; all_goals intros; contradiction
theorem sizRow_ok : ∀ (prs : List (Nat × Rdg)) (ps : List Fm) (lo hi : Nat) (r : RowS), Rdg.okRow prs ps lo hi r → Rdg.sizP prs ≤ Fm.sizes ps * r.length
  | [], ps, lo, hi, r, h => by rw [Rdg.sizP]; exact Nat.zero_le _
  | (j, q) :: prs, ps, lo, hi, r, h => by
    rw [Rdg.okRow] at h
    obtain ⟨h1, h2, h3, p, r1, r2, h4, rfl, h5, h6⟩ := h
    have g1 := siz_ok q p r1 h5
    have g2 := sizRow_ok prs ps _ hi r2 h6
    have g3 : p.size ≤ Fm.sizes ps := sizes_memL (List.mem_of_getElem? h4)
    have g4 := Nat.mul_le_mul_right r1.length g3
    rw [Rdg.sizP, List.length_append, Nat.mul_add]
    omega
theorem sizAll_ok : ∀ (qs : List Rdg) (p : Fm) (r : RowS), Rdg.okAll qs p r → Rdg.sizL qs ≤ p.size * r.length
  | [], p, r, h => by rw [Rdg.sizL]; exact Nat.zero_le _
  | q :: qs, p, r, h => by
    rw [Rdg.okAll] at h
    obtain ⟨r1, r2, rfl, h1, h2⟩ := h
    have g1 := siz_ok q p r1 h1
    have g2 := sizAll_ok qs p r2 h2
    rw [Rdg.sizL, List.length_append, Nat.mul_add]
    omega
end
def plD (pl : List Nat) : PyData := .tuple (pl.map fun k : Nat => PyData.int (k : Int))
abbrev LvI := List Nat × Fm × Rdg
def lviD (t : LvI) : PyData := .tuple [plD t.1, t.2.1.dat, t.2.2.dat]
mutual
theorem noL_fm : ∀ f : Fm, noL f.dat = true
  | .sign s => by simp [Fm.dat, noL, noLs]
  | .row ps => by simp [Fm.dat, noL, noLs, noL_fms ps]
  | .pick ps => by simp [Fm.dat, noL, noLs, noL_fms ps]
  | .times p low high => by cases high <;> simp [Fm.dat, noL, noLs, noL_fm p, highD]
theorem noL_fms : ∀ ps : List Fm, noLs (Fm.dats ps) = true
  | [] => by simp [Fm.dats, noLs]
  | p :: ps => by simp [Fm.dats, noLs, noL_fm p, noL_fms ps]
end
theorem noL_pl (pl : List Nat) : noL (plD pl) = true := by rw [plD, noL]; exact noLs_map _ (fun a => by simp [noL]) _
theorem noL_lvi (t : LvI) : noL (lviD t) = true := by simp [lviD, noL, noLs, noL_pl, noL_fm, noL_dat]
/-- what is ahead, the next first -/
def Stl : List LvI → RowS → Prop
  | [], r => r = []
  | (_, f, q) :: S, r => ∃ r1 r2, q.ok f r1 ∧ r = r1 ++ r2 ∧ Stl S r2
theorem Stl.app : ∀ {A S : List LvI} {r1 r2 : RowS}, Stl A r1 → Stl S r2 → Stl (A ++ S) (r1 ++ r2)
  | [], S, r1, r2, h, h2 => by
    have : r1 = [] := h
    subst this
    exact h2
  | (n, f, q) :: A, S, r1, r2, h, h2 => by
    obtain ⟨s1, s2, h4, rfl, h5⟩ := h
    exact ⟨s1, s2 ++ r2, h4, List.append_assoc _ _ _, h5.app h2⟩
theorem Stl.len : ∀ {A : List LvI} {r : RowS}, Stl A r → A.length ≤ r.length
  | [], r, h => Nat.zero_le _
  | (n, f, q) :: A, r, h => by
    obtain ⟨s1, s2, h4, rfl, h5⟩ := h
    have := h5.len
    have h6 : 0 < s1.length := List.length_pos_iff.mpr (ok_ne _ _ _ h4)
    rw [List.length_cons, List.length_append]
    omega
def inI (pl : List Nat) (f : Fm) (q : Rdg) : List LvI := (innerP q).map fun p => (pl ++ [p.1], f.part p.1, p.2)
theorem stl_row {pl : List Nat} {f : Fm} {ps : List Fm} (hf : f.parts = ps) : ∀ (prs : List (Nat × Rdg)) (lo : Nat) (r : RowS), Rdg.okRow prs ps lo ps.length r → Stl (prs.map fun p => (pl ++ [p.1], f.part p.1, p.2)) r ∧ ∀ p, p ∈ prs → p.1 < ps.length
  | [], lo, r, h => ⟨h.1, fun p hp => by cases hp⟩
  | (j, q) :: prs, lo, r, h => by
    obtain ⟨h1, h2, h3, p, r1, r2, h4, rfl, h5, h6⟩ := h
    obtain ⟨i1, i2⟩ := stl_row (pl := pl) hf prs _ r2 h6
    have e : f.part j = p := by rw [Fm.part, hf, h4]; rfl
    refine ⟨⟨r1, r2, by rw [e]; exact h5, rfl, i1⟩, fun p' hp => ?_⟩
    rcases List.mem_cons.mp hp with rfl | hp
    · exact h2
    · exact i2 p' hp
theorem stl_all {pl : List Nat} {f : Fm} {p : Fm} (hf : f.parts = [p]) : ∀ (qs : List Rdg) (r : RowS), Rdg.okAll qs p r → Stl ((qs.map fun q => ((0 : Nat), q)).map fun p => (pl ++ [p.1], f.part p.1, p.2)) r
  | [], r, h => h
  | q :: qs, r, h => by
    obtain ⟨r1, r2, rfl, h5, h6⟩ := h
    have e : f.part 0 = p := by rw [Fm.part, hf]; rfl
    exact ⟨r1, r2, by show q.ok (f.part 0) r1; rw [e]; exact h5, rfl, stl_all hf qs r2 h6⟩
theorem stl_in {pl : List Nat} {g : Fm} {q : Rdg} {r : RowS} (h : q.ok g r) : (∃ x, g = .sign x ∧ q = .leaf ∧ r = [x]) ∨ (g.isSign = false ∧ Stl (inI pl g q) r ∧ ∀ p, p ∈ innerP q → p.1 < g.parts.length) := by
  cases q with
  | leaf =>
    cases g with
    | sign x => exact .inl ⟨x, rfl, rfl, h⟩
    | row _ => rw [Rdg.ok] at h; exact h.elim; all_goals intros; contradiction
    | pick _ => rw [Rdg.ok] at h; exact h.elim; all_goals intros; contradiction
    | times _ _ _ => rw [Rdg.ok] at h; exact h.elim; all_goals intros; contradiction
  | row prs =>
    cases g with
    | row ps =>
      obtain ⟨h1, h2⟩ := stl_row (pl := pl) (f := .row ps) rfl prs 0 r h.2
      exact .inr ⟨rfl, h1, h2⟩
    | sign _ => rw [Rdg.ok] at h; exact h.elim; all_goals intros; contradiction
    | pick _ => rw [Rdg.ok] at h; exact h.elim; all_goals intros; contradiction
    | times _ _ _ => rw [Rdg.ok] at h; exact h.elim; all_goals intros; contradiction
  | pick k q =>
    cases g with
    | pick ps =>
      obtain ⟨p, h1, h2⟩ := h
      have e : (Fm.pick ps).part k = p := by rw [Fm.part, Fm.parts, h1]; rfl
      refine .inr ⟨rfl, ⟨r, [], by show q.ok ((Fm.pick ps).part k) r; rw [e]; exact h2, by rw [List.append_nil], rfl⟩, fun p' hp => ?_⟩
      rw [List.mem_singleton.mp hp]
      exact (List.getElem?_eq_some_iff.mp h1).1
    | sign _ => rw [Rdg.ok] at h; exact h.elim; all_goals intros; contradiction
    | row _ => rw [Rdg.ok] at h; exact h.elim; all_goals intros; contradiction
    | times _ _ _ => rw [Rdg.ok] at h; exact h.elim; all_goals intros; contradiction
  | times qs =>
    cases g with
    | times p low high =>
      refine .inr ⟨rfl, stl_all rfl qs r h.2.2.2, fun p' hp => ?_⟩
      obtain ⟨q, _, rfl⟩ := List.mem_map.mp hp
      exact Nat.one_pos
    | sign _ => rw [Rdg.ok] at h; exact h.elim; all_goals intros; contradiction
    | row _ => rw [Rdg.ok] at h; exact h.elim; all_goals intros; contradiction
    | pick _ => rw [Rdg.ok] at h; exact h.elim; all_goals intros; contradiction
def lvS (S : List LvI) : List (List Nat) := S.flatMap fun t => lv t.2.1 t.2.2 t.1
theorem lvS_in (pl : List Nat) (f : Fm) : ∀ prs : List (Nat × Rdg), lvS (prs.map fun p => (pl ++ [p.1], f.part p.1, p.2)) = lvP f prs pl
  | [] => by rw [lvP]; rfl
  | (k, q) :: prs => by rw [List.map_cons, lvP, ← lvS_in pl f prs]; rfl
def sizI (S : List LvI) : Nat := (S.map fun t => t.2.2.siz).sum
theorem sizI_in (pl : List Nat) (f : Fm) (q : Rdg) : sizI (inI pl f q) < q.siz := by
  have h : ∀ prs : List (Nat × Rdg), sizI (prs.map fun p => (pl ++ [p.1], f.part p.1, p.2)) = Rdg.sizP prs := by
    intro prs
    induction prs with
    | nil => rfl
    | cons p prs ih =>
      obtain ⟨k, q⟩ := p
      rw [List.map_cons, Rdg.sizP, ← ih]
      rfl
  have h2 := siz_inner q id
  have e : (innerP q).map (fun p => (id p.1, p.2)) = innerP q := by simp
  rw [e] at h2
  unfold inI
  rw [h]
  exact h2
theorem siz_mem {q : Rdg} {p : Nat × Rdg} (h : p ∈ innerP q) : p.2.siz < q.siz := by
  have h2 := siz_inner q id
  have e : (innerP q).map (fun p => (id p.1, p.2)) = innerP q := by simp
  rw [e] at h2
  have h3 : ∀ prs : List (Nat × Rdg), p ∈ prs → p.2.siz ≤ Rdg.sizP prs := by
    intro prs
    induction prs with
    | nil => intro h; cases h
    | cons a prs ih =>
      intro h
      obtain ⟨k, q'⟩ := a
      rw [Rdg.sizP]
      rcases List.mem_cons.mp h with rfl | h
      · exact Nat.le_add_right _ _
      · have := ih h
        omega
  exact Nat.lt_of_le_of_lt (h3 _ h) h2
section
variable {P : Program} {w : World} {K : PySem.W.Frag} {mg : Str → Option Value} {base : Heap} {C : Addr}
abbrev n_leaves_read : List Str := ["form", "reading", "told", "ahead", "place", "piece", "read", "inner", "k", "part"]
theorem sc_leaves_read : FnScope n_leaves_read ["form", "reading"] (defScope s_leaves_read) := ⟨rfl, rfl, rfl, by decide +kernel, rfl, by decide +kernel, by decide +kernel⟩
def lvO (fm : Fm) : Option Rdg → List (List Nat)
  | none => []
  | some q => lv fm q []
def spLeaves (K : PySem.W.Frag) : Sp := fun vs H Q _ => ∃ (v u : V) (fm : Fm) (r : RowS) (oq : Option Rdg), vs = [v, u] ∧ FmAt K H v fm ∧ r.length ≤ 200 ∧ fm.size ≤ 1000 ∧ ((oq = none ∧ u = .non) ∨ ∃ q : Rdg, oq = some q ∧ q.ok fm r ∧ Dp K H u q.dat) ∧
  ∀ (H' : Hp) (D : Addr) (ws : List V), Same H H' → H' D = some (.lst ws) → H D = none → DpAll K H' ws ((lvO fm oq).map plD) → (lvO fm oq).length ≤ 200 → Q (.ref D) H'
abbrev LvW (K : PySem.W.Frag) (H : Hp) (v u : V) (TD aA : Addr) (all : List (List Nat)) : Nat → L2.St → Hp → Prop := fun m σ H1 =>
  ∃ (S : List LvI) (done : List (List Nat)) (ws ts : List V) (rr : RowS) (o4 o5 o6 o7 : Option V), σ = [some v, some u, some (.ref TD), some (.ref aA), o4, o5, o6, o7, none, none] ∧ m = sizI S ∧ Same H H1 ∧ H1 aA = some (.lst ws) ∧ DpAll K H1 ws (S.reverse.map lviD) ∧ H1 TD = some (.lst ts) ∧ DpAll K H1 ts (done.map plD) ∧
    done ++ lvS S = all ∧ Stl S rr ∧ done.length + rr.length ≤ 200 ∧ ∀ t, t ∈ S → t.1.length + t.2.2.siz ≤ 200000
theorem ok_leaves_read (F : DefAt K mg "leaves_read" s_leaves_read ["form", "reading"]) (d__inner : DefOk P w K mg base "_inner" 1 ["reading"] (spInnerR K)) (d_parts_of : DefOk P w K mg base "parts_of" 1 ["form"] (spParts K)) : DefOk P w K mg base "leaves_read" 2 ["form", "reading"] (spLeaves K) := by
  refine F.ok sc_leaves_read (fun vs H Q E h => ?_) (fun f cdv A outer s H vs Q E hr h => ?_)
  · obtain ⟨_, _, _, _, _, rfl, _⟩ := h
    rfl
  obtain ⟨v, u, fm, r, oq, rfl, hf, hr20, hsz, hq, k⟩ := h
  obtain ⟨t3, h3, f3⟩ : ∃ t3, PSs (cxOf CX0 P w K mg base n_leaves_read "leaves_read" (defScope s_leaves_read) f cdv A outer s H E).nox ((whileBody ((defBody s_leaves_read).getD 2 (.Pass ⟨0, 0, 0, 0⟩))).drop 2) t3 ∧
      ∀ (TD aA : Addr) (D : Ends) (H6 : Hp) (pl : List Nat) (g : Fm) (q : Rdg) (ws' : List V) (plv gv qv : V) (o7 : Option V), Dp K H6 plv (plD pl) → FmAt K H6 gv g → Dp K H6 qv q.dat → H6 aA = some (.lst ws') → ws'.length ≤ 200 → pl.length ≤ 200000 → (innerP q).length ≤ 200 → (∀ p, p ∈ innerP q → p.1 < g.parts.length) →
        (∀ (H7 : Hp) (ws7 : List V) (o7 : Option V), (∀ b o, H6 b = some o → b ≠ aA → H7 b = some o) → H7 aA = some (.lst (ws' ++ ws7)) → DpAll K H7 ws7 ((inI pl g q).reverse.map lviD) → D.nx [some v, some u, some (.ref TD), some (.ref aA), some plv, some gv, some qv, o7, none, none] H7) →
        t3 D [some v, some u, some (.ref TD), some (.ref aA), some plv, some gv, some qv, o7, none, none] H6 := by
    refine ⟨_, (pss_cons (ps_setLc (i := 7) (own := [("k", 8), ("part", 9)]) (g := gTup K 2 (gCons (gName 8) (gCons (gName 9) gNil))) rfl sc_leaves_read.nd rfl rfl (sw_true rfl rfl rfl (by decide +kernel)) (pi_list (pe_callD d__inner (hr.mono (by decide)) rfl (pa_cons (pv 6) pa_nil))) (blkOk_by (own := [("k", 8), ("part", 9)]) (N := n_leaves_read) (sc := defScope s_leaves_read) (by decide +kernel)) (fun _ _ _ _ _ => (pg_tup rfl (pgs_cons (pg_name (i := 8) sc_leaves_read.nd rfl (Or.inl rfl)) (pgs_cons (pg_name (i := 9) sc_leaves_read.nd rfl (Or.inl rfl)) pgs_nil)))) (fun _ _ _ _ _ => pts_nil) (te := tTup (tCons (tTup (StX.tStar K (tVar 4) (tCons (tVar 8) tNil))) (tCons (tOp (rIxT K) (tCall (spParts K) [] E0 (tCons (tVar 5) tNil)) (tVar 8)) (tCons (tVar 9) tNil)))) (fun _ _ _ _ _ => (pe_tup (pa_cons (pe_tup (StX.pa_star (pv 4) (pa_cons (pv 8) pa_nil))) (pa_cons (pe_ix (r := rIxT K) ix_tup (pe_callD d_parts_of (hr.mono (by decide)) rfl (pa_cons (pv 5) pa_nil)) (pv 8) (fun _ _ => rfl)) (pa_cons (pv 9) pa_nil))))))
    (pss_one (ps_expr (pe_bm PySem.F.plainAttrs_list PySem.F.slot_list_extend PySem.F.type_list_extend mt_extend (pv 3) (pa_cons (pe_revL (pv 7)) pa_nil))))), ?_⟩
    intro TD aA D H6 pl g q ws' plv gv qv o7 hpl hg hqv hA6 hw6 hpl2 hil hik fin
    refine ⟨_, rfl, qv, q, rfl, hqv, by omega, fun H7 D1 ws1 s7 hD1 nD1 hws1 => ?_⟩
    have hl1 : ws1.length = (innerP q).length := by rw [dpsLen hws1, datP_map, List.length_map]
    obtain ⟨pa', pxs, rfl, hpx, hpxd⟩ := dpTup hpl
    have hpxl : pxs.length = pl.length := by rw [dpsLen hpxd, List.length_map]
    refine ⟨D1, rfl, ⟨_, sL hD1⟩, fun D2 nD2 => lc_list (K := K) (a := D1) (xs := ws1) (fun i H' => ∃ acc : List V, Same H7 H' ∧ H' D2 = some (.lst acc) ∧ acc.length = i ∧ DpAll K H' acc ((((innerP q).take i).map fun p => (pl ++ [p.1], g.part p.1, p.2)).map lviD))
      ⟨[], .new nD2, upd_same, rfl, .nil⟩ (fun i H' _ ⟨_, g, _⟩ => sL (g _ _ hD1)) ?_ ?_⟩
    · rintro i x H8 hx ⟨acc, g8, hD8, hl8, ha8⟩
      obtain ⟨d, hd, hdp⟩ := dpsAtV hws1 hx
      rw [datP_map, List.getElem?_map] at hd
      obtain ⟨p, hp, rfl⟩ : ∃ p, (innerP q)[i]? = some p ∧ d = PyData.tuple [.int (p.1 : Int), p.2.dat] := by
        cases e : (innerP q)[i]? with
        | none => rw [e] at hd; cases hd
        | some p => rw [e] at hd; exact ⟨p, rfl, (Option.some.inj hd).symm⟩
      obtain ⟨b, ys, rfl, hb, hyd⟩ := dpTup (dpS g8 hdp)
      obtain ⟨y1, ys1, rfl, e2, hy1⟩ := dpCons hyd
      obtain ⟨y2, ys2, rfl, e3, hy2⟩ := dpCons hy1
      cases dpInt e2
      cases dpNil hy2
      have hi := (List.getElem?_eq_some_iff.mp hp).1
      have hplt := hik p (List.mem_of_getElem? hp)
      refine ⟨b, _, rfl, hb, rfl, _, _, rfl, _, _, rfl, rfl, rfl, ?_⟩
      refine ⟨_, rfl, pa', pxs, rfl, .inl ((s7.trans g8).sqT hpx), _, rfl, szl (by rw [List.length_append, hpxl]; show _ + 1 ≤ _; omega), fun p1 np1 => ?_⟩
      have t1 : Same H8 (upd H8 p1 (.tup (pxs ++ [.int (p.1 : Int)]))) := .new np1
      have hp1 : (upd H8 p1 (.tup (pxs ++ [.int (p.1 : Int)]))) p1 = some (.tup (pxs ++ [.int (p.1 : Int)])) := upd_same
      have hpd1 : Dp K (upd H8 p1 (.tup (pxs ++ [.int (p.1 : Int)]))) (.ref p1) (plD (pl ++ [p.1])) := by
        rw [plD, List.map_append]
        exact .tup (sT hp1) (dpAllSnoc (dpAllS ((s7.trans g8).trans t1) (noLs_map _ (fun a => by simp [noL]) _) hpxd) (.int _))
      generalize upd H8 p1 (.tup (pxs ++ [.int (p.1 : Int)])) = H9 at t1 hpd1 ⊢
      refine ⟨_, rfl, gv, g, rfl, dpS ((s7.trans g8).trans t1) hg, fun H10 ga gws s10 hga hgd => ?_⟩
      have hgd : DpAll K H10 gws (g.parts.map Fm.dat) := by rw [← Fm.dats_map]; exact hgd
      obtain ⟨gp, hgp⟩ : ∃ gp, g.parts[p.1]? = some gp := ⟨_, List.getElem?_eq_getElem hplt⟩
      obtain ⟨gpv, hgpv, hgpd⟩ := dpsAt hgd (i := p.1) (d := gp.dat) (by rw [List.getElem?_map, hgp]; rfl)
      have egp : g.part p.1 = gp := by rw [Fm.part, hgp]; rfl
      refine ⟨_, rfl, ga, gws, p.1, _, rfl, rfl, hga, atI_nat (j := p.1) hgpv, _, rfl, (by show 3 ≤ sizeLine; decide), fun p2 np2 => ?_⟩
      have t2 : Same H10 (upd H10 p2 (.tup [.ref p1, gpv, y2])) := .new np2
      have t12 := (t1.trans s10).trans t2
      have hD9 := t12 _ _ hD8
      refine ⟨acc, hD9, szb (by omega), acc ++ [.ref p2], (g8.trans t12).mut nD2, upd_same, by rw [List.length_append, hl8]; rfl, ?_⟩
      rw [take_snoc hp, List.map_append, List.map_append]
      refine dpAllSnoc (dpAllL hD9 (noLs_map _ noL_lvi _) (dpAllS t12 (noLs_map _ noL_lvi _) ha8)) ?_
      refine dpL hD9 (noL_lvi _) ?_
      show Dp K _ _ (.tuple [plD (pl ++ [p.1]), (g.part p.1).dat, p.2.dat])
      rw [egp]
      exact .tup (sT upd_same) (.cons (dpS (s10.trans t2) hpd1) (.cons (dpS t2 hgpd) (.cons (dpS t12 e3) .nil)))
    · rintro H8 ⟨acc, g8, hD8, hl8, ha8⟩
      rw [hl1, List.take_length] at ha8
      have hA8' := (s7.trans g8) _ _ hA6
      refine ⟨_, rfl, .inl ⟨rfl, _, sL hA8'⟩, ?_⟩
      refine ⟨_, rfl, D2, acc, rfl, sL hD8, fun D3 nD3 => ?_⟩
      have t3' : Same H8 (upd H8 D3 (.lst acc.reverse)) := .new nD3
      have hA8 := t3' _ _ hA8'
      refine ⟨aA, D3, _, _, rfl, rfl, hA8, upd_same, szl (by rw [List.length_reverse]; omega), ?_⟩
      refine fin _ acc.reverse _ (fun b o hb nb => by rw [upd_ne nb]; exact ((s7.trans g8).trans t3') _ _ hb) upd_same ?_
      rw [List.map_reverse]
      exact dpAllL hA8 (by rw [← List.map_reverse]; exact noLs_map _ noL_lvi _) (dpAllS t3' (by rw [← List.map_reverse]; exact noLs_map _ noL_lvi _) (dpAllRev ha8))
  obtain ⟨t4, h4, f4⟩ : ∃ t4, PSs (cxOf CX0 P w K mg base n_leaves_read "leaves_read" (defScope s_leaves_read) f cdv A outer s H E).nox ((defBody s_leaves_read).drop 2) t4 ∧
      ∀ (TD aA : Addr) (H3 : Hp) (ws : List V) (S : List LvI) (rr : RowS), H TD = none → H aA = none → TD ≠ aA → Same H H3 → H3 aA = some (.lst ws) → DpAll K H3 ws (S.reverse.map lviD) → H3 TD = some (.lst []) → lvS S = lvO fm oq → Stl S rr → rr.length ≤ 200 → (∀ t, t ∈ S → t.1.length + t.2.2.siz ≤ 200000) →
        t4 { nx := fun _ H' => Q .non H', rt := Q } [some v, some u, some (.ref TD), some (.ref aA), none, none, none, none, none, none] H3 := by
    refine ⟨_, (pss_cons (ps_while PassesOwn.never (pt_truth (pv 3) (by intro _; rfl)) (pss_cons (ps_asg (pe_bm0 PySem.F.plainAttrs_list PySem.F.slot_list_pop PySem.F.type_list_pop mt_pop (pv 3)) (pg_tup rfl (pgs_cons (pg_name (i := 4) sc_leaves_read.nd rfl (Or.inr rfl)) (pgs_cons (pg_name (i := 5) sc_leaves_read.nd rfl (Or.inr rfl)) (pgs_cons (pg_name (i := 6) sc_leaves_read.nd rfl (Or.inl rfl)) pgs_nil)))))
    (pss_cons (ps_if (pt_cmpR op_eq (pe_ix ix_tup (pv 5) pe_int (fun _ _ => rfl)) pe_str (nomark _)) (pss_one (ps_expr (pe_bm PySem.F.plainAttrs_list PySem.F.slot_list_append PySem.F.type_list_append mt_append (pv 2) (pa_cons (pv 4) pa_nil)))) pss_nil)
    h3)))
    (pss_one (ps_ret (pv 2)))), ?_⟩
    intro TD aA H3 ws S rr nTD nA nTA g3 hA3 hS3 hT3 hlv hst hrr hbd
    refine ⟨LvW K H v u TD aA (lvO fm oq), ⟨_, S, [], ws, [], rr, none, none, none, none, rfl, rfl, g3, hA3, hS3, hT3, .nil, hlv, hst, by show 0 + rr.length ≤ 200; omega, hbd⟩, ?_⟩
    rintro m σ H4 ⟨S, done, ws, ts, rr, o4, o5, o6, o7, rfl, rfl, g4, hA4, hS4, hT4, hd4, hall, hst, hlen, hbd⟩
    have htl : ts.length = done.length := by rw [dpsLen hd4, List.length_map]
    cases S with
    | nil =>
      cases hS4
      refine ⟨_, rfl, false, .inl ⟨_, sL hA4, rfl⟩, iteF ?_⟩
      have e : done = lvO fm oq := by rw [← hall]; exact (List.append_nil _).symm
      subst e
      exact ⟨_, rfl, k H4 TD ts g4 hT4 nTD hd4 (by omega)⟩
    | cons it S' =>
      obtain ⟨pl, g, q⟩ := it
      obtain ⟨r1, r2, hok1, rfl, hst2⟩ := hst
      have hbd1 : pl.length + q.siz ≤ 200000 := hbd _ List.mem_cons_self
      rw [List.reverse_cons, List.map_append] at hS4
      obtain ⟨ws', wv, rfl, hS5, hw⟩ := dpAllUnsnoc (ds := S'.reverse.map lviD) (d := lviD (pl, g, q)) hS4
      rw [List.length_append] at hlen
      have hr1 := List.length_pos_iff.mpr (ok_ne _ _ _ hok1)
      have hSl := hst2.len
      have hwl : ws'.length = S'.length := by rw [dpsLen hS5, List.length_map, List.length_reverse]
      refine ⟨_, rfl, true, .inl ⟨_, sL hA4, by simp⟩, iteT ?_⟩
      refine ⟨fun σ' H' => ∃ m', m' < sizI ((pl, g, q) :: S') ∧ LvW K H v u TD aA (lvO fm oq) m' σ' H', fun σ' H' h => h, ?_⟩
      have eL : (ws' ++ [wv])[(ws' ++ [wv]).length - 1]? = some wv := by simp
      have eD : (ws' ++ [wv]).dropLast = ws' := by simp
      refine ⟨_, rfl, .inl ⟨rfl, _, sL hA4⟩, aA, _, _, rfl, rfl, hA4, eL, ?_⟩
      rw [eD]
      have g5 : Same H (upd H4 aA (.lst ws')) := g4.mut nA
      have hS6 := dpAllL (o := .lst ws') hA4 (noLs_map _ noL_lvi _) hS5
      have hd5 := dpAllL (o := .lst ws') hA4 (noLs_map _ noL_pl _) hd4
      have hw5 := dpL (o := .lst ws') hA4 (noL_lvi _) hw
      have hA5 : (upd H4 aA (.lst ws')) aA = some (.lst ws') := upd_same
      have hT5 : (upd H4 aA (.lst ws')) TD = some (.lst ts) := by rw [upd_ne nTA]; exact hT4
      generalize upd H4 aA (.lst ws') = H5 at g5 hS6 hd5 hw5 hA5 hT5 ⊢
      obtain ⟨b, ys, rfl, hb, hyd⟩ := dpTup hw5
      obtain ⟨y1, ys1, rfl, e1, hy1⟩ := dpCons hyd
      obtain ⟨y2, ys2, rfl, e2, hy2⟩ := dpCons hy1
      obtain ⟨y3, ys3, rfl, e3, hy3⟩ := dpCons hy2
      cases dpNil hy3
      refine ⟨b, _, rfl, hb, rfl, _, _, rfl, _, _, rfl, _, _, rfl, rfl, ?_⟩
      have goOn : ∀ (H6 : Hp) (done' : List (List Nat)) (ts' : List V) (o7 : Option V), Same H H6 → (∀ b o, H5 b = some o → b ≠ TD → H6 b = some o) → H6 TD = some (.lst ts') → DpAll K H6 ts' (done'.map plD) → done' ++ lvS (inI pl g q ++ S') = lvO fm oq → (∃ rr, Stl (inI pl g q ++ S') rr ∧ done'.length + rr.length ≤ 200) → (∀ p, p ∈ innerP q → p.1 < g.parts.length) → (innerP q).length ≤ 200 →
          ∀ D : Ends, (∀ σ' H', (∃ m', m' < sizI ((pl, g, q) :: S') ∧ LvW K H v u TD aA (lvO fm oq) m' σ' H') → D.nx σ' H') → t3 D [some v, some u, some (.ref TD), some (.ref aA), some y1, some y2, some y3, o7, none, none] H6 := by
        intro H6 done' ts' o7 g6 fr6 hT6 hd6 hall' ⟨rr', hst', hlen'⟩ hik hil DD hDD
        have sq6 : ∀ a xs, SqT K H5 a xs → SqT K H6 a xs := fun a xs t => by
          rcases t with t | t
          · rcases t with t | ⟨o', t⟩
            · exact .inl (.inl (fr6 _ _ t (fun e => by rw [e, hT5] at t; cases t)))
            · exact .inl (.inr ⟨o', fr6 _ _ t (fun e => by rw [e, hT5] at t; cases t)⟩)
          · exact .inr t
        have hA6 := fr6 _ _ hA5 nTA.symm
        refine f3 TD aA DD H6 pl g q ws' y1 y2 y3 o7 (dpSameT sq6 _ _ (noL_pl _) e1) (dpSameT sq6 _ _ (noL_fm _) e2) (dpSameT sq6 _ _ (noL_dat _) e3) hA6 (by omega) (by omega) hil hik fun H7 ws7 o7' fr hA7 hd7 => hDD _ _ ?_
        have sq7 : ∀ a xs, SqT K H6 a xs → SqT K H7 a xs := fun a xs t => by
          rcases t with t | t
          · rcases t with t | ⟨o', t⟩
            · exact .inl (.inl (fr _ _ t (fun e => by rw [e, hA6] at t; cases t)))
            · exact .inl (.inr ⟨o', fr _ _ t (fun e => by rw [e, hA6] at t; cases t)⟩)
          · exact .inr t
        refine ⟨_, ?_, inI pl g q ++ S', done', ws' ++ ws7, ts', rr', _, _, _, _, rfl, rfl, fun y o hy => fr _ _ (g6 _ _ hy) (fun e => by rw [e, nA] at hy; cases hy), hA7, ?_, fr _ _ hT6 nTA, dpAllSameT sq7 _ _ (noLs_map _ noL_pl _) hd6, hall', hst', hlen', fun t ht => ?_⟩
        · have h1 := sizI_in pl g q
          have h2 : sizI (inI pl g q ++ S') = sizI (inI pl g q) + sizI S' := by unfold sizI; rw [List.map_append, List.sum_append]
          have h3 : sizI ((pl, g, q) :: S') = q.siz + sizI S' := by unfold sizI; rw [List.map_cons, List.sum_cons]
          omega
        · rw [List.reverse_append, List.map_append]
          exact dpAllApp (dpAllSameT (fun a xs t => sq7 a xs (sq6 a xs t)) _ _ (noLs_map _ noL_lvi _) hS6) hd7
        · rcases List.mem_append.mp ht with ht | ht
          · obtain ⟨p, hp, rfl⟩ := List.mem_map.mp ht
            have := siz_mem hp
            show (pl ++ [p.1]).length + p.2.siz ≤ 200000
            rw [List.length_append, List.length_singleton]
            omega
          · exact hbd t (List.mem_cons_of_mem _ ht)
      obtain ⟨a, xs, ea', hta⟩ := fmTup e2
      have ea2 : y2 = .ref a := ea'
      refine ⟨_, rfl, a, _, 0, _, ea2, rfl, hta, atI_nat (j := 0) rfl, rfl, _, rfl, ?_⟩
      rcases stl_in (pl := pl) hok1 with ⟨x, rfl, rfl, rfl⟩ | ⟨hns, hin, hik⟩
      · refine iteT ⟨_, rfl, .inl ⟨rfl, _, sL hT5⟩, _, rfl, TD, _, _, rfl, rfl, hT5, szb (by omega), ?_⟩
        refine goOn _ (done ++ [pl]) (ts ++ [y1]) _ (g5.mut nTD) (fun b o hb nb => by rw [upd_ne nb]; exact hb) upd_same ?_ ?_ ⟨r2, hst2, by rw [List.length_append]; simp at hlen ⊢; omega⟩ (fun p hp => by cases hp) (Nat.zero_le _) _ (fun _ _ h => h)
        · rw [List.map_append]
          exact dpAllSnoc (dpAllL hT5 (noLs_map _ noL_pl _) hd5) (dpL hT5 (noL_pl _) e1)
        · rw [← hall]
          show (done ++ [pl]) ++ lvS S' = done ++ (lv (.sign x) .leaf pl ++ lvS S')
          rw [lv_sign, List.append_assoc]
      · have hkd : g.kind ≠ "sign" := by
          cases g with
          | sign s => cases hns
          | row _ => exact (show ("row" : Str) ≠ "sign" by decide)
          | pick _ => exact (show ("pick" : Str) ≠ "sign" by decide)
          | times _ _ _ => exact (show ("times" : Str) ≠ "sign" by decide)
        rw [show decide (V.str g.kind = V.str "sign") = false from decide_eq_false fun e => hkd (V.str.inj e)]
        refine iteF (goOn H5 done ts _ g5 (fun _ _ h _ => h) hT5 hd5 ?_ ⟨r1 ++ r2, hin.app hst2, by rw [List.length_append]; omega⟩ hik ?_ _ (fun _ _ h => h))
        · rw [← hall]
          show done ++ lvS (inI pl g q ++ S') = done ++ (lv g q pl ++ lvS S')
          have : lvS (inI pl g q ++ S') = lvS (inI pl g q) ++ lvS S' := by unfold lvS; rw [List.flatMap_append]
          rw [this, lv_in q pl hns, inI, lvS_in]
        · have := hin.len
          rw [inI, List.length_map] at this
          omega
  refine ⟨_, (pss_cons (ps_set (i := 2) sc_leaves_read.nd rfl (Or.inl rfl) (pe_lst pa_nil))
    (pss_cons (ps_set (i := 3) sc_leaves_read.nd rfl (Or.inl rfl) (pe_ifExp (pt_cmp (pc_isN (pv 1)) rfl) (pe_lst pa_nil) (pe_lst (pa_cons (pe_tup (pa_cons (pe_tup pa_nil) (pa_cons (pv 0) (pa_cons (pv 1) pa_nil)))) pa_nil))))
    h4)), ?_⟩
  refine ⟨(by show 0 ≤ sizeLine; decide), fun TD nTD => ?_⟩
  have s1 : Same H (upd H TD (.lst [])) := .new nTD
  have hTD1 : (upd H TD (.lst [])) TD = some (.lst []) := upd_same
  generalize upd H TD (.lst []) = H1 at s1 hTD1 ⊢
  rcases hq with ⟨rfl, rfl⟩ | ⟨q, rfl, hok, hqd⟩
  · refine ⟨_, rfl, _, rfl, iteT ⟨(by show 0 ≤ sizeLine; decide), fun aA nA => ?_⟩⟩
    have s2 : Same H1 (upd H1 aA (.lst [])) := .new nA
    exact f4 TD aA _ [] [] [] nTD (fresh0 s1 nA) (fun e => by rw [← e, hTD1] at nA; cases nA) (s1.trans s2) upd_same .nil (s2 _ _ hTD1) rfl rfl (Nat.zero_le _) (fun t h => by cases h)
  · obtain ⟨qa, qx, rfl, hqt⟩ := rdTup hqd
    refine ⟨_, rfl, _, rfl, iteF ⟨(by show 0 ≤ sizeLine; decide), fun p0 np0 => ⟨_, rfl, _, rfl, (by show 3 ≤ sizeLine; decide), fun p1 np1 => ⟨(by show 1 ≤ sizeLine; decide), fun aA nA => ?_⟩⟩⟩⟩
    have s2 : Same H1 (upd H1 p0 (.tup [])) := .new np0
    have s3 : Same (upd H1 p0 (.tup [])) (upd (upd H1 p0 (.tup [])) p1 (.tup [.ref p0, v, .ref qa])) := .new np1
    have s4 : Same (upd (upd H1 p0 (.tup [])) p1 (.tup [.ref p0, v, .ref qa])) (upd (upd (upd H1 p0 (.tup [])) p1 (.tup [.ref p0, v, .ref qa])) aA (.lst [.ref p1])) := .new nA
    have s13 := s1.trans (s2.trans s3)
    have hbound : ([] : List Nat).length + q.siz ≤ 200000 := by
      have h1 := siz_ok q fm r hok
      have h2 : fm.size * r.length ≤ 1000 * 200 := Nat.mul_le_mul hsz hr20
      show 0 + q.siz ≤ 200000
      omega
    refine f4 TD aA _ [.ref p1] [([], fm, q)] r nTD (fresh0 s13 nA) (fun e => by have := (s2.trans s3) _ _ hTD1; rw [e, nA] at this; cases this) (s13.trans s4) upd_same (.cons ?_ .nil) (s4 _ _ ((s2.trans s3) _ _ hTD1)) (by show lv fm q [] ++ [] = _; rw [List.append_nil]; rfl) ⟨r, [], hok, by rw [List.append_nil], rfl⟩ hr20 (fun t h => by rw [List.mem_singleton.mp h]; exact hbound)
    refine .tup (sT (s4 _ _ upd_same)) (.cons (.tup (sT (s4 _ _ (s3 _ _ upd_same))) .nil) (.cons (dpS (s13.trans s4) hf) (.cons (dpS (s13.trans s4) hqd) .nil)))
end
end Sw
set_option Elab.async false
set_option maxRecDepth 100000
set_option maxHeartbeats 8000000
namespace Sw
open PySem L2 PySem.Spec PyProof.Rows
/-! ### the state of a law: a dict of the script and the place in it -/
def stK (sp : Addr) (i : Nat) : List (Key × V) := [(.inr "script", .ref sp), (.inr "at", .int (i : Int))]
theorem stK_script (sp : Addr) (i : Nat) : valV (stK sp i) (.inr "script") = some (.ref sp) := by rfl
theorem stK_at (sp : Addr) (i : Nat) : valV (stK sp i) (.inr "at") = some (.int (i : Int)) := by rfl
theorem stK_put (sp : Addr) (i j : Nat) : putK (stK sp i) (.inr "at") (.int (j : Int)) = stK sp j := by rfl
def StateAt (H : Hp) (st sp : Addr) : Prop := ∃ (ns : List Int) (i : Nat), H st = some (.dK (stK sp i)) ∧ H sp = some (.lst (ns.map V.int))
theorem dkRd {H : Hp} {st : Addr} {kvs : List (Key × V)} (h : H st = some (.dK kvs)) {u : HO} (r : Rd H st u) : ∀ xs, u ≠ .lst xs ∧ u ≠ .tup xs := by
  intro xs
  rcases r with r | ⟨o, r⟩
  · rw [h] at r
    cases r
    exact ⟨(fun e => by cases e), (fun e => by cases e)⟩
  · rw [h] at r
    cases r
theorem StateAt.same {H H' : Hp} {st sp : Addr} (h : StateAt H st sp) (s : Same H H') : StateAt H' st sp := by
  obtain ⟨ns, i, h1, h2⟩ := h
  exact ⟨ns, i, s _ _ h1, s _ _ h2⟩
theorem fmD {K : PySem.W.Frag} {H H' : Hp} {st sp : Addr} (h : StateAt H st sp) (b : But st H H') {v : V} {f : Fm} (hf : FmAt K H v f) : FmAt K H' v f := by
  obtain ⟨ns, i, h1, h2⟩ := h
  exact dpB b (fun _ r => dkRd h1 r) hf
theorem fmsD {K : PySem.W.Frag} {H H' : Hp} {st sp : Addr} (h : StateAt H st sp) (b : But st H H') : ∀ {vs : List V} {fs : List Fm}, FmsAt K H vs fs → FmsAt K H' vs fs := by
  intro vs fs
  induction fs generalizing vs with
  | nil => intro h1; cases h1; exact .nil
  | cons f fs ih =>
    intro h1
    cases h1 with
    | cons a c => exact .cons (fmD h b a) (ih c)
theorem sqTD {K : PySem.W.Frag} {H H' : Hp} {st sp : Addr} (h : StateAt H st sp) (b : But st H H') {a : Addr} {xs : List V} (hq : SqT K H a xs) : SqT K H' a xs := by
  obtain ⟨ns, i, h1, h2⟩ := h
  have n : ∀ u, Rd H a u → u = .tup xs → a ≠ st := fun u r e hm => (dkRd h1 (hm ▸ r) xs).2 e
  rcases hq with hq | hq
  · have hn := n _ hq rfl
    rcases hq with hq | ⟨o, hq⟩
    · exact .inl (.inl (b _ _ hq hn))
    · exact .inl (.inr ⟨o, b _ _ hq hn⟩)
  · exact .inr hq
theorem lsD {H H' : Hp} {st sp : Addr} (h : StateAt H st sp) (b : But st H H') {a : Addr} {xs : List V} (hq : H a = some (.lst xs)) : H' a = some (.lst xs) := by
  obtain ⟨ns, i, h1, h2⟩ := h
  exact b _ _ hq (fun e => by rw [e, h1] at hq; cases hq)
/-- a list that was not there ahead may be written -/
theorem StateAt.w {H0 H : Hp} {st sp D : Addr} {o : HO} (h : StateAt H st sp) (h0 : StateAt H0 st sp) (hD : H0 D = none) : StateAt (upd H D o) st sp := by
  obtain ⟨ns, i, h1, h2⟩ := h
  obtain ⟨_, _, h3, h4⟩ := h0
  exact ⟨ns, i, by rw [upd_ne (ne_of_none h3 hD)]; exact h1, by rw [upd_ne (ne_of_none h4 hD)]; exact h2⟩
section
variable {P : Program} {w : World} {K : PySem.W.Frag} {mg : Str → Option Value} {base : Heap}
abbrev n_law_cell : List Str := ["state"]
theorem sc_law_cell : FnScope n_law_cell ["state"] (defScope s_law_cell) := ⟨rfl, rfl, rfl, by decide +kernel, rfl, by decide +kernel, by decide +kernel⟩
def spCell : Sp := fun vs H Q _ => ∃ st sp, vs = [.ref st] ∧ StateAt H st sp ∧ ∀ H' z, But st H H' → StateAt H' st sp → Q (.int z) H'
theorem ok_law_cell (F : DefAt K mg "_law_cell" s_law_cell ["state"]) (b_len : mg "len" = none) : DefOk P w K mg base "_law_cell" 1 ["state"] spCell := by
  refine F.ok sc_law_cell (fun vs H Q E h => ?_) (fun f cdv A outer s H vs Q E hr h => ?_)
  · obtain ⟨_, _, rfl, _⟩ := h
    rfl
  obtain ⟨st, sp, rfl, ⟨ns, i, h1, h2⟩, k⟩ := h
  have hu := hu_of hr
  refine ⟨_, (pss_cons (ps_dput hu (pv 0) pe_str (pe_op op_add (pe_dget hu (pv 0) pe_str (fun _ _ => rfl)) pe_int) rfl)
    (pss_cons (ps_if (pt_cmpR op_gt (pe_dget hu (pv 0) pe_str (fun _ _ => rfl)) (pe_callB call_len_seq (by rfl) b_len PySem.boot_len (pa_cons (pe_dget hu (pv 0) pe_str (fun _ _ => rfl)) pa_nil)) (nomark _)) (pss_one (ps_ret pe_int)) pss_nil)
    (pss_one (ps_ret (pe_ix ix_list (pe_dget hu (pv 0) pe_str (fun _ _ => rfl)) (pe_op op_sub (pe_dget hu (pv 0) pe_str (fun _ _ => rfl)) pe_int) (fun _ _ => rfl)))))), ?_⟩
  have g1 : ∀ (H' : Hp) (j : Nat), H' st = some (.dK (stK sp j)) → DGet H' st (.str "at") (some (.int (j : Int))) := fun H' j h => DGet.k (k := .inr "at") h
  have g2 : ∀ (H' : Hp) (j : Nat), H' st = some (.dK (stK sp j)) → DGet H' st (.str "script") (some (.ref sp)) := fun H' j h => DGet.k (k := .inr "script") h
  refine ⟨_, rfl, st, _, rfl, g1 _ _ h1, _, _, rfl, rfl, _, rfl, st, _, rfl, DPut.k (k := .inr "at") h1 (by show 2 < sizeLine; decide), ?_⟩
  have e0 : (((i : Nat) : Int) + 1 : Int) = ((i + 1 : Nat) : Int) := by omega
  dsimp only
  rw [e0, stK_put]
  have nsp : sp ≠ st := fun e => by rw [e, h1] at h2; cases h2
  have h3 : (upd H st (.dK (stK sp (i + 1)))) st = some (.dK (stK sp (i + 1))) := upd_same
  have h4 : (upd H st (.dK (stK sp (i + 1)))) sp = some (.lst (ns.map V.int)) := by rw [upd_ne nsp]; exact h2
  have sa : StateAt (upd H st (.dK (stK sp (i + 1)))) st sp := ⟨ns, i + 1, h3, h4⟩
  refine ⟨_, rfl, st, _, rfl, g1 _ _ h3, _, rfl, st, _, rfl, g2 _ _ h3, sp, _, rfl, .inl (sL h4), _, _, rfl, rfl, _, rfl, ?_⟩
  rw [List.length_map]
  refine ite2 (fun _ => ?_) (fun hle => ?_)
  · exact k _ 0 But.refl.upd sa
  · have hle' : ¬ ((ns.length : Int) < ((i + 1 : Nat) : Int)) := fun h => hle (decide_eq_true h)
    obtain ⟨z, hz⟩ : ∃ z, ns[i]? = some z := ⟨_, List.getElem?_eq_getElem (by omega)⟩
    refine ⟨_, rfl, st, _, rfl, g2 _ _ h3, _, rfl, st, _, rfl, g1 _ _ h3, _, _, rfl, rfl, sp, _, _, _, rfl, rfl, sL h4, at_of (j := i) (v := V.int z) (by omega) (by rw [List.getElem?_map, hz]; rfl), ?_⟩
    exact k _ z But.refl.upd sa
abbrev n_law_sign : List Str := ["cell"]
theorem sc_law_sign : FnScope n_law_sign ["cell"] (defScope s_law_sign) := ⟨rfl, rfl, rfl, by decide +kernel, rfl, by decide +kernel, by decide +kernel⟩
def okS (s : Str) : Prop := s = "a" ∨ s = "b" ∨ s = "ab" ∨ s = "c" ∨ s = "ba" ∨ s = "zzzzzz"
theorem okS_str {s : Str} (h : okS s) : PyData.strOk s = true := by
  rcases h with rfl | rfl | rfl | rfl | rfl | rfl <;> decide +kernel
def spSign : Sp := fun vs H Q _ => ∃ c, vs = [.int c] ∧ ∀ H' s, Same H H' → okS s → Q (.str s) H'
theorem ok_law_sign (F : DefAt K mg "_law_sign" s_law_sign ["cell"]) : DefOk P w K mg base "_law_sign" 1 ["cell"] spSign := by
  refine F.ok sc_law_sign (fun vs H Q E h => ?_) (fun f cdv A outer s H vs Q E hr h => ?_)
  · obtain ⟨_, rfl, _⟩ := h
    rfl
  obtain ⟨c, rfl, k⟩ := h
  refine ⟨_, (pss_one (ps_ret (pe_ix ix_list (pe_lst (pa_cons pe_str (pa_cons pe_str (pa_cons pe_str (pa_cons pe_str (pa_cons pe_str (pa_cons pe_str (pa_cons pe_str (pa_cons pe_str pa_nil))))))))) (pe_op op_mod (pv 0) pe_int) (fun _ _ => rfl)))), ?_⟩
  refine ⟨(by show 8 ≤ sizeLine; decide), fun p hp => ⟨_, rfl, _, _, rfl, rfl, (by show (0 : Int) < 8; decide), ?_⟩⟩
  have h0 : 0 ≤ c % 8 := Int.emod_nonneg _ (by decide)
  have h3 : c % 8 < 8 := Int.emod_lt_of_pos _ (by decide)
  obtain ⟨j, hj⟩ : ∃ j : Nat, c % 8 = (j : Int) := ⟨(c % 8).toNat, by omega⟩
  have s1 : Same H (upd H p (.lst [.str "a", .str "b", .str "ab", .str "a", .str "b", .str "c", .str "ba", .str "zzzzzz"])) := .new hp
  have hj3 : j < 8 := by omega
  match j, hj3, hj with
  | 0, _, hj => exact ⟨p, _, _, _, rfl, rfl, sL upd_same, at_of (j := 0) hj rfl, k _ _ s1 (.inl rfl)⟩
  | 1, _, hj => exact ⟨p, _, _, _, rfl, rfl, sL upd_same, at_of (j := 1) hj rfl, k _ _ s1 (.inr (.inl rfl))⟩
  | 2, _, hj => exact ⟨p, _, _, _, rfl, rfl, sL upd_same, at_of (j := 2) hj rfl, k _ _ s1 (.inr (.inr (.inl rfl)))⟩
  | 3, _, hj => exact ⟨p, _, _, _, rfl, rfl, sL upd_same, at_of (j := 3) hj rfl, k _ _ s1 (.inl rfl)⟩
  | 4, _, hj => exact ⟨p, _, _, _, rfl, rfl, sL upd_same, at_of (j := 4) hj rfl, k _ _ s1 (.inr (.inl rfl))⟩
  | 5, _, hj => exact ⟨p, _, _, _, rfl, rfl, sL upd_same, at_of (j := 5) hj rfl, k _ _ s1 (.inr (.inr (.inr (.inl rfl))))⟩
  | 6, _, hj => exact ⟨p, _, _, _, rfl, rfl, sL upd_same, at_of (j := 6) hj rfl, k _ _ s1 (.inr (.inr (.inr (.inr (.inl rfl)))))⟩
  | 7, _, hj => exact ⟨p, _, _, _, rfl, rfl, sL upd_same, at_of (j := 7) hj rfl, k _ _ s1 (.inr (.inr (.inr (.inr (.inr rfl)))))⟩
end
end Sw
set_option Elab.async false
set_option maxRecDepth 100000
set_option maxHeartbeats 8000000
namespace Sw
open PySem L2 PySem.Spec PyProof.Rows
/-- the forms that the laws make, so deep -/
def Lw : Nat → Fm → Prop
  | 0, f => match f with
    | .sign s => okS s
    | _ => False
  | n + 1, f => match f with
    | .sign s => okS s
    | .row ps => ps.length ≤ 3 ∧ ∀ p, p ∈ ps → Lw n p
    | .pick ps => 1 ≤ ps.length ∧ ps.length ≤ 3 ∧ ∀ p, p ∈ ps → Lw n p
    | .times p low high => Lw n p ∧ low ≤ 3 ∧ ∀ h, high = some h → low ≤ h ∧ h ≤ 12
theorem butW {H0 H : Hp} {st D : Addr} {o : HO} (b : But st H0 H) (hD : H0 D = none) : But st H0 (L2.upd H D o) := fun x u e n => by
  rw [upd_ne (ne_of_none e hD)]
  exact b x u e n
theorem lw_sign {n : Nat} {s : Str} (h : okS s) : Lw n (.sign s) := by cases n <;> exact h
theorem fmsW {K : PySem.W.Frag} {H : Hp} {p : Addr} {xs : List V} {o : HO} (h : H p = some (.lst xs)) : ∀ {fs : List Fm} {vs : List V}, FmsAt K H vs fs → FmsAt K (upd H p o) vs fs
  | [], _, h1 => by cases h1; exact .nil
  | f :: fs, _, h1 => by
    cases h1 with
    | cons a c => exact .cons (fmW h a) (fmsW h c)
theorem fmsSnoc {K : PySem.W.Frag} {H : Hp} {v : V} {f : Fm} (hv : FmAt K H v f) : ∀ {fs : List Fm} {vs : List V}, FmsAt K H vs fs → FmsAt K H (vs ++ [v]) (fs ++ [f])
  | [], _, h1 => by cases h1; exact .cons hv .nil
  | g :: fs, _, h1 => by
    cases h1 with
    | cons a c => exact .cons a (fmsSnoc hv c)
section
variable {P : Program} {w : World} {K : PySem.W.Frag} {mg : Str → Option Value} {base : Heap}
abbrev n_law_times : List Str := ["cell", "low"]
theorem sc_law_times : FnScope n_law_times ["cell"] (defScope s_law_times) := ⟨rfl, rfl, rfl, by decide +kernel, rfl, by decide +kernel, by decide +kernel⟩
def spTimes : Sp := fun vs H Q _ => ∃ c, vs = [.int c] ∧ ∀ (H' : Hp) (a : Addr) (low : Nat) (high : Option Nat), Same H H' → H' a = some (.tup [.int (low : Int), highV high]) → low ≤ 3 → (∀ h, high = some h → low ≤ h ∧ h ≤ 12) → Q (.ref a) H'
theorem ok_law_times (F : DefAt K mg "_law_times" s_law_times ["cell"]) (b_max : mg "max" = none) : DefOk P w K mg base "_law_times" 1 ["cell"] spTimes := by
  refine F.ok sc_law_times (fun vs H Q E h => ?_) (fun f cdv A outer s H vs Q E hr h => ?_)
  · obtain ⟨_, rfl, _⟩ := h
    rfl
  obtain ⟨c, rfl, k⟩ := h
  refine ⟨_, (pss_cons (ps_set (i := 1) sc_law_times.nd rfl (Or.inl rfl) (pe_ix ix_list (pe_lst (pa_cons pe_int (pa_cons pe_int (pa_cons pe_int (pa_cons pe_int (pa_cons pe_int (pa_cons pe_int pa_nil))))))) (pe_op op_mod (pv 0) pe_int) (fun _ _ => rfl)))
    (pss_one (ps_ret (pe_tup (pa_cons (pv 1) (pa_cons (pe_ix ix_list (pe_lst (pa_cons pe_non (pa_cons (pe_callB (call_max2 rfl) (by rfl) b_max (by decide +kernel) (pa_cons pe_int (pa_cons (pv 1) pa_nil))) (pa_cons (pe_op op_add (pv 1) pe_int) (pa_cons (pe_op op_add (pv 1) pe_int) (pa_cons pe_int pa_nil)))))) (pe_op op_mod (pe_op op_fdiv (pv 0) pe_int) pe_int) (fun _ _ => rfl)) pa_nil)))))), ?_⟩
  obtain ⟨j, hj⟩ : ∃ j : Nat, c % 6 = (j : Int) := ⟨(c % 6).toNat, by have := Int.emod_nonneg c (b := 6) (by decide); omega⟩
  have hj6 : j < 6 := by have := Int.emod_lt_of_pos c (b := 6) (by decide); omega
  obtain ⟨low, hl1, hl2⟩ : ∃ low : Nat, ([.int 0, .int 0, .int 1, .int 2, .int 3, .int 1] : List V)[j]? = some (.int (low : Int)) ∧ low ≤ 3 := by
    match j, hj6 with
    | 0, _ => exact ⟨0, rfl, by decide⟩
    | 1, _ => exact ⟨0, rfl, by decide⟩
    | 2, _ => exact ⟨1, rfl, by decide⟩
    | 3, _ => exact ⟨2, rfl, by decide⟩
    | 4, _ => exact ⟨3, rfl, by decide⟩
    | 5, _ => exact ⟨1, rfl, by decide⟩
  refine ⟨(by show 6 ≤ sizeLine; decide), fun p hp => ⟨_, rfl, _, _, rfl, rfl, (by show (0 : Int) < 6; decide), p, _, _, _, rfl, rfl, sL upd_same, at_of (j := j) hj hl1, ?_⟩⟩
  obtain ⟨i, hi⟩ : ∃ i : Nat, c / 6 % 5 = (i : Int) := ⟨(c / 6 % 5).toNat, by have := Int.emod_nonneg (c / 6) (b := 5) (by decide); omega⟩
  have hi5 : i < 5 := by have := Int.emod_lt_of_pos (c / 6) (b := 5) (by decide); omega
  obtain ⟨high, hh1, hh2⟩ : ∃ high : Option Nat, ([.non, .int (if ((low : Int) > 1) then (low : Int) else 1), .int ((low : Int) + 1), .int ((low : Int) + 2), .int 12] : List V)[i]? = some (highV high) ∧ ∀ h, high = some h → low ≤ h ∧ h ≤ 12 := by
    match i, hi5 with
    | 0, _ => exact ⟨none, rfl, fun h e => by cases e⟩
    | 1, _ =>
      refine ⟨some (if low > 1 then low else 1), ?_, fun h e => ?_⟩
      · show some (V.int (if ((low : Int) > 1) then (low : Int) else 1)) = some (.int ((if low > 1 then low else 1 : Nat) : Int))
        congr 2
        split <;> split <;> omega
      · cases e
        split <;> omega
    | 2, _ => exact ⟨some (low + 1), rfl, fun h e => by cases e; omega⟩
    | 3, _ => exact ⟨some (low + 2), rfl, fun h e => by cases e; omega⟩
    | 4, _ => exact ⟨some 12, rfl, fun h e => by cases e; omega⟩
  refine ⟨_, rfl, _, rfl, _, _, rfl, _, rfl, _, _, rfl, rfl, _, rfl, _, _, rfl, rfl, (by show 5 ≤ sizeLine; decide), fun p2 hp2 => ?_⟩
  refine ⟨_, rfl, _, _, rfl, rfl, ⟨by decide, by decide⟩, _, _, rfl, rfl, (by show (0 : Int) < 5; decide), p2, _, _, _, rfl, rfl, sL upd_same, at_of (j := i) hi hh1, (by show 2 ≤ sizeLine; decide), fun q hq => ?_⟩
  exact k _ q low high (((Same.new hp).trans (.new hp2)).trans (.new hq)) upd_same hl2 hh2
abbrev n_law_form : List Str := ["state", "left", "times", "cell", "low", "high", "many", "parts", "k"]
theorem sc_law_form : FnScope n_law_form ["state", "left", "times"] (defScope s_law_form) := ⟨rfl, rfl, rfl, by decide +kernel, rfl, by decide +kernel, by decide +kernel⟩
def spForm (K : PySem.W.Frag) (n : Nat) : Sp := fun vs H Q _ => ∃ (st sp : Addr) (t : Nat), vs = [.ref st, .int (n : Int), .int (t : Int)] ∧ StateAt H st sp ∧ ∀ (H' : Hp) (v : V) (f : Fm), But st H H' → StateAt H' st sp → FmAt K H' v f → Lw n f → Q v H'
theorem sign_at {K : PySem.W.Frag} {H : Hp} {q : Addr} {s : Str} (h : H q = some (.tup [.str "sign", .str s])) : FmAt K H (.ref q) (.sign s) := .tup (sT h) (.cons (.str _) (.cons (.str _) .nil))
theorem ok_law_form0 (F : DefAt K mg "_law_form" s_law_form ["state", "left", "times"]) (d__law_cell : DefOk P w K mg base "_law_cell" 1 ["state"] spCell) (d__law_sign : DefOk P w K mg base "_law_sign" 1 ["cell"] spSign) : DefOk P w K mg base "_law_form" 2 ["state", "left", "times"] (spForm K 0) := by
  refine F.ok sc_law_form (fun vs H Q E h => ?_) (fun f cdv A outer s H vs Q E hr h => ?_)
  · obtain ⟨_, _, _, rfl, _⟩ := h
    rfl
  obtain ⟨st, sp, t, rfl, S, k⟩ := h
  refine ⟨_, (pss_cons (ps_set (i := 3) sc_law_form.nd rfl (Or.inl rfl) (pe_callD d__law_cell (hr.mono (by decide)) rfl (pa_cons (pv 0) pa_nil)))
    (pss_cons (ps_if (PW.pt (pw_or (pt_cmpR op_eq (pv 1) pe_int (nomark _)) (pw_or1 (pt_cmpR op_eq (pe_op op_mod (pv 3) pe_int) pe_int (nomark _))))) (pss_one (ps_ret (pe_tup (pa_cons pe_str (pa_cons (pe_callD d__law_sign (hr.mono (by decide)) rfl (pa_cons (pe_op op_fdiv (pv 3) pe_int) pa_nil)) pa_nil))))) pss_nil)
    pss_never)), ?_⟩
  refine ⟨_, rfl, st, sp, rfl, S, fun H1 c b1 S1 => ?_⟩
  refine ⟨_, rfl, rfl, _, rfl, iteT (iteT ?_)⟩
  refine ⟨_, rfl, _, _, rfl, rfl, ⟨by decide, by decide⟩, _, rfl, fun H2 x s2 hx => ⟨(by show 2 ≤ sizeLine; decide), fun q hq => ?_⟩⟩
  have s3 : Same H1 (upd H2 q (.tup [.str "sign", .str x])) := s2.trans (Same.new hq)
  exact k _ (.ref q) (.sign x) (b1.trans (.of s3)) (S1.same s3) (sign_at upd_same) hx
theorem ok_law_formS (n : Nat) (F : DefAt K mg "_law_form" s_law_form ["state", "left", "times"]) (d__law_cell : DefOk P w K mg base "_law_cell" 1 ["state"] spCell) (d__law_sign : DefOk P w K mg base "_law_sign" 1 ["cell"] spSign) (d__law_times : DefOk P w K mg base "_law_times" 1 ["cell"] spTimes)
    (d__law_form : DefOk P w K mg base "_law_form" (n + 2) ["state", "left", "times"] (spForm K n)) (b_max : mg "max" = none) (b_range : mg "range" = none) (b_int : mg "int" = none) (b_tuple : mg "tuple" = none) : DefOk P w K mg base "_law_form" (n + 3) ["state", "left", "times"] (spForm K (n + 1)) := by
  refine F.ok sc_law_form (fun vs H Q E h => ?_) (fun f cdv A outer s H vs Q E hr h => ?_)
  · obtain ⟨_, _, _, rfl, _⟩ := h
    rfl
  obtain ⟨st, sp, t, rfl, S, k⟩ := h
  refine ⟨_, (pss_cons (ps_set (i := 3) sc_law_form.nd rfl (Or.inl rfl) (pe_callD d__law_cell (hr.mono (by omega)) rfl (pa_cons (pv 0) pa_nil)))
    (pss_cons (ps_if (PW.pt (pw_or (pt_cmpR op_eq (pv 1) pe_int (nomark _)) (pw_or1 (pt_cmpR op_eq (pe_op op_mod (pv 3) pe_int) pe_int (nomark _))))) (pss_one (ps_ret (pe_tup (pa_cons pe_str (pa_cons (pe_callD d__law_sign (hr.mono (by omega)) rfl (pa_cons (pe_op op_fdiv (pv 3) pe_int) pa_nil)) pa_nil))))) pss_nil)
    (pss_cons (ps_if (PW.pt (pw_and (pt_cmpR op_lt (pe_op op_mod (pv 3) pe_int) pe_int (nomark _)) (pw_and1 (pt_cmpR op_gt (pv 2) pe_int (nomark _))))) (pss_cons (ps_asg (pe_callD d__law_times (hr.mono (by omega)) rfl (pa_cons (pe_op op_fdiv (pv 3) pe_int) pa_nil)) (pg_tup rfl (pgs_cons (pg_name (i := 4) sc_law_form.nd rfl (Or.inl rfl)) (pgs_cons (pg_name (i := 5) sc_law_form.nd rfl (Or.inl rfl)) pgs_nil))))
    (pss_one (ps_ret (pe_tup (pa_cons pe_str (pa_cons (pe_callD d__law_form (hr.mono (by omega)) rfl (pa_cons (pv 0) (pa_cons (pe_op op_sub (pv 1) pe_int) (pa_cons (pe_op op_sub (pv 2) pe_int) pa_nil)))) (pa_cons (pv 4) (pa_cons (pv 5) pa_nil)))))))) pss_nil)
    (pss_cons (ps_set (i := 6) sc_law_form.nd rfl (Or.inl rfl) (pe_op op_mod (pe_op op_fdiv (pv 3) pe_int) pe_int))
    (pss_cons (ps_if (PW.pt (pw_or (pt_cmpR op_eq (pe_op op_mod (pv 3) pe_int) pe_int (nomark _)) (pw_or1 (PW.pt (pw_and (pt_cmpR op_eq (pe_op op_mod (pv 3) pe_int) pe_int (nomark _)) (pw_and1 (pt_cmpR op_eq (pv 2) pe_int (nomark _)))))))) (pss_one (ps_set (i := 6) sc_law_form.nd rfl (Or.inl rfl) (pe_callB (call_max2 rfl) (by rfl) b_max (by decide +kernel) (pa_cons pe_int (pa_cons (pv 6) pa_nil))))) pss_nil)
    (pss_cons (ps_set (i := 7) sc_law_form.nd rfl (Or.inl rfl) (pe_callTy call_tuple_of (by rfl) b_tuple (by decide +kernel) (pa_cons (pe_lc (own := [("k", 8)]) (g := gName 8) rfl sc_law_form.nd (pi_range1 rfl b_range (pa_cons (pv 6) pa_nil)) (blkOk_by (own := [("k", 8)]) (N := n_law_form) (sc := defScope s_law_form) (by decide +kernel)) (fun _ _ _ _ _ => (pg_name (i := 8) sc_law_form.nd rfl (Or.inl rfl))) (fun _ _ _ _ _ => pts_nil) (fun _ _ _ _ _ => (pe_callD d__law_form (hr.mono (by omega)) rfl (pa_cons (pv 0) (pa_cons (pe_op op_sub (pv 1) pe_int) (pa_cons (pv 2) pa_nil)))))) pa_nil)))
    (pss_one (ps_ret (pe_tup (pa_cons (pe_ix ix_list (pe_lst (pa_cons pe_str (pa_cons pe_str pa_nil))) (pe_callTy call_int1 (by rfl) b_int (by decide +kernel) (pa_cons (pe_or (pe_cmpR op_eq (pe_op op_mod (pv 3) pe_int) pe_int (nomark _)) (pe_one (pe_cmpR op_eq (pe_op op_mod (pv 3) pe_int) pe_int (nomark _)))) pa_nil)) (fun _ _ => rfl)) (pa_cons (pv 7) pa_nil))))))))))), ?_⟩
  refine ⟨_, rfl, st, sp, rfl, S, fun H1 c b1 S1 => ?_⟩
  refine ⟨_, rfl, rfl, _, rfl, ite2 (fun _ => iteT ?s1) (fun _ => ⟨_, rfl, _, _, rfl, rfl, (by show (0 : Int) < 5; decide), rfl, _, rfl, ite2 (fun _ => ?s2) (fun _ => ?r)⟩)⟩
  case s1 | s2 =>
    refine ⟨_, rfl, _, _, rfl, rfl, ⟨by decide, by decide⟩, _, rfl, fun H2 x s2 hx => ⟨(by show 2 ≤ sizeLine; decide), fun q hq => ?_⟩⟩
    have s3 : Same H1 (upd H2 q (.tup [.str "sign", .str x])) := s2.trans (Same.new hq)
    exact k _ (.ref q) (.sign x) (b1.trans (.of s3)) (S1.same s3) (sign_at upd_same) (lw_sign hx)
  -- behind the number of parts
  have tail : ∀ (z : Int) (m : Nat), z = (m : Int) → m ≤ 3 → ((c % 5 = 4 ∨ c % 5 = 2) → 1 ≤ m) → tSeq
      (tAsg (tCB (fun xs H Q => ∃ p ys, xs = [V.ref p] ∧ ((SqL K H p ys ∧ ∀ (l : Addr), H l = none → Q (V.ref l) (upd H l (HO.tup ys))) ∨ SqT K H p ys ∧ Q (V.ref p) H))
          (tCons (tLc (iRng1 (tCons (tVar 6) tNil)) (gName 8) tYes (tCall (spForm K n) [] E0 (tCons (tVar 0) (tCons (tOp (rI0 fun i j => V.int (i - j)) (tVar 1) (tC (V.int 1))) (tCons (tVar 2) tNil)))) [8]) tNil)) (gName 7))
      (tRet (tTup (tCons (tOp (rIxL K) (tLst (tCons (tC (V.str "row")) (tCons (tC (V.str "pick")) tNil)))
            (tCB (fun xs H Q => (∃ i, xs = [V.int i] ∧ Q (V.int i) H) ∨ ∃ k, xs = [V.bl k] ∧ Q (V.int (if k = true then 1 else 0)) H)
              (tCons (tOrV (tOp rEq (tOp (rI (fun x j => 0 < j) fun i j => V.int (i % j)) (tVar 3) (tC (V.int 5))) (tC (V.int 4))) (tOp rEq (tOp (rI (fun x j => 0 < j) fun i j => V.int (i % j)) (tVar 3) (tC (V.int 5))) (tC (V.int 2)))) tNil)))
          (tCons (tVar 7) tNil)))) { nx := fun _ H' => Q .non H', rt := Q }
      [some (.ref st), some (.int ((n + 1 : Nat) : Int)), some (.int (t : Int)), some (.int c), none, none, some (.int z), none, none] H1 := by
    rintro _ m rfl hm3 hpk
    refine ⟨_, rfl, _, rfl, by omega, by omega, fun D hD => lc_range (lo := 0) (n := m) (fun i H' => ∃ (vs : List V) (fs : List Fm), But st H1 H' ∧ StateAt H' st sp ∧ H' D = some (.lst vs) ∧ FmsAt K H' vs fs ∧ fs.length = i ∧ ∀ p, p ∈ fs → Lw n p)
      ⟨[], [], .of (.new hD), S1.same (.new hD), upd_same, .nil, rfl, fun p h => by cases h⟩ ?_ ?_⟩
    · rintro i H2 hi ⟨vs, fs, b2, S2, hD2, hfs, hlf, hw⟩
      refine ⟨rfl, ?_⟩
      refine ⟨_, rfl, _, rfl, _, _, rfl, rfl, _, rfl, st, sp, t, ?_, S2, fun H3 v g b3 S3 hv hg => ?_⟩
      · show [V.ref st, V.int (((n + 1 : Nat) : Int) - 1), V.int (t : Int)] = [V.ref st, V.int (n : Int), V.int (t : Int)]
        rw [show (((n + 1 : Nat) : Int) - 1) = (n : Int) by omega]
      have hD3 := lsD S2 b3 hD2
      have hlv : vs.length = fs.length := by rw [dpsLen hfs, Fm.dats_map, List.length_map]
      refine ⟨vs, hD3, szb (by omega), vs ++ [v], fs ++ [g], butW (b2.trans b3) hD, S3.w S1 hD, upd_same, fmsW hD3 (fmsSnoc hv (fmsD S2 b3 hfs)), by rw [List.length_append, hlf]; rfl, fun p hp => ?_⟩
      rcases List.mem_append.mp hp with hp | hp
      · exact hw p hp
      · rw [List.mem_singleton.mp hp]; exact hg
    · rintro H2 ⟨vs, fs, b2, S2, hD2, hfs, hlf, hw⟩
      refine ⟨D, vs, rfl, .inl ⟨sL hD2, fun l hl => ?_⟩⟩
      have s3 : Same H2 (upd H2 l (.tup vs)) := .new hl
      -- the kind
      refine ⟨(by show 2 ≤ sizeLine; decide), fun p hp => ?_⟩
      have s4 := s3.trans (Same.new (o := .lst [.str "row", .str "pick"]) hp)
      have fin : ∀ (f : Fm), Lw (n + 1) f → f.dat = .tuple [.str f.kind, .tuple (Fm.dats fs)] → ∀ q, upd (upd H2 l (.tup vs)) p (.lst [.str "row", .str "pick"]) q = none → Q (.ref q) (upd (upd (upd H2 l (.tup vs)) p (.lst [.str "row", .str "pick"])) q (.tup [.str f.kind, .ref l])) := fun f hf hd q hq => by
        refine k _ (.ref q) f (b1.trans (b2.trans (.of (s4.trans (.new hq))))) (S2.same (s4.trans (.new hq))) ?_ hf
        unfold FmAt
        rw [hd]
        refine .tup (sT upd_same) (.cons (.str _) (.cons (.tup (sT ?_) (dpsS (s4.trans (.new hq)) hfs)) .nil))
        exact (Same.new hq) _ _ (Same.new hp _ _ upd_same)
      have hrow : Lw (n + 1) (.row fs) := ⟨by omega, hw⟩
      refine ⟨_, rfl, _, _, rfl, rfl, (by show (0 : Int) < 5; decide), rfl, _, rfl, ite2 (fun h4 => ?_) (fun h4 => ⟨_, rfl, _, _, rfl, rfl, (by show (0 : Int) < 5; decide), rfl, ?_⟩)⟩
      · have h4' : c % 5 = 4 := by have := of_decide_eq_true h4; exact V.int.inj this
        refine .inr ⟨true, rfl, p, _, 1, _, rfl, rfl, sL upd_same, atI_nat (j := 1) rfl, _, rfl, (by show 2 ≤ sizeLine; decide), fun q hq => ?_⟩
        exact fin (.pick fs) ⟨by have := hpk (.inl h4'); omega, by omega, hw⟩ rfl q hq
      · by_cases h2 : c % 5 = 2
        · rw [show decide (V.int (c % 5) = V.int 2) = true from decide_eq_true (by rw [h2])]
          refine .inr ⟨true, rfl, p, _, 1, _, rfl, rfl, sL upd_same, atI_nat (j := 1) rfl, _, rfl, (by show 2 ≤ sizeLine; decide), fun q hq => ?_⟩
          exact fin (.pick fs) ⟨by have := hpk (.inr h2); omega, by omega, hw⟩ rfl q hq
        · rw [show decide (V.int (c % 5) = V.int 2) = false from decide_eq_false fun e => h2 (V.int.inj e)]
          refine .inr ⟨false, rfl, p, _, 0, _, rfl, rfl, sL upd_same, atI_nat (j := 0) rfl, _, rfl, (by show 2 ≤ sizeLine; decide), fun q hq => ?_⟩
          exact fin (.row fs) hrow rfl q hq
  have hm0 : 0 ≤ c / 5 % 4 := Int.emod_nonneg _ (by decide)
  have hm4 : c / 5 % 4 < 4 := Int.emod_lt_of_pos _ (by decide)
  obtain ⟨m, hm⟩ : ∃ m : Nat, c / 5 % 4 = (m : Int) := ⟨(c / 5 % 4).toNat, by omega⟩
  have mx : (if c / 5 % 4 > 1 then c / 5 % 4 else 1) = ((max 1 m : Nat) : Int) := by
    rw [hm]
    split <;> omega
  refine ⟨_, rfl, _, _, rfl, rfl, (by show (0 : Int) < 5; decide), _, _, rfl, rfl, _, rfl, ite2 (fun h3 => ⟨_, rfl, _, _, rfl, rfl, _, rfl, ite2 (fun ht => ?_) (fun ht => ?_)⟩) (fun h3 => ?_)⟩
  · -- times
    have ht' : 0 < t := by have := of_decide_eq_true ht; omega
    refine ⟨_, rfl, _, _, rfl, rfl, ⟨by decide, by decide⟩, _, rfl, fun H2 a low high s2 ha hlow hhigh => ?_⟩
    refine ⟨a, _, rfl, sT ha, rfl, _, _, rfl, _, _, rfl, rfl, ?_⟩
    refine ⟨_, rfl, _, rfl, _, _, rfl, rfl, _, rfl, _, _, rfl, rfl, ?_⟩
    refine ⟨st, sp, t - 1, ?_, S1.same s2, fun H3 v g b3 S3 hv hg => ?_⟩
    · show [V.ref st, V.int (((n + 1 : Nat) : Int) - 1), V.int ((t : Int) - 1)] = [V.ref st, V.int (n : Int), V.int ((t - 1 : Nat) : Int)]
      rw [show (((n + 1 : Nat) : Int) - 1) = (n : Int) by omega, show ((t : Int) - 1) = ((t - 1 : Nat) : Int) by omega]
    refine ⟨_, rfl, _, rfl, (by show 4 ≤ sizeLine; decide), fun q hq => ?_⟩
    refine k _ (.ref q) (.times g low high) ((b1.trans (.of s2)).trans (b3.trans (.of (.new hq)))) (S3.same (.new hq)) ?_ ⟨hg, hlow, hhigh⟩
    exact .tup (sT upd_same) (.cons (.str _) (.cons (dpS (.new hq) hv) (.cons (.int _) (.cons (highDp high) .nil))))
  all_goals
    have hc2 : c % 5 = 2 → t = 0 := fun e => by
      first
      | (have hh := of_decide_eq_false (Bool.eq_false_iff.mpr ht); omega)
      | (have hh := of_decide_eq_false (Bool.eq_false_iff.mpr h3); omega)
    refine ⟨_, rfl, _, _, rfl, rfl, ⟨by decide, by decide⟩, _, _, rfl, rfl, (by show (0 : Int) < 4; decide), ?_⟩
    refine ⟨_, rfl, _, _, rfl, rfl, (by show (0 : Int) < 5; decide), rfl, _, rfl, ite2 (fun h4 => iteT ?_) (fun h4 => ⟨_, rfl, _, _, rfl, rfl, (by show (0 : Int) < 5; decide), rfl, _, rfl, ite2 (fun h2 => ⟨_, rfl, rfl, _, rfl, ite2 (fun h0 => ?_) (fun h0 => ?_)⟩) (fun h2 => iteF ?_)⟩)⟩
    · exact ⟨_, rfl, _, _, rfl, tail _ (max 1 m) mx (by omega) (fun _ => by omega)⟩
    · exact ⟨_, rfl, _, _, rfl, tail _ (max 1 m) mx (by omega) (fun _ => by omega)⟩
    · have e2 : c % 5 = 2 := by have := of_decide_eq_true h2; exact V.int.inj this
      exact absurd (decide_eq_true (by rw [hc2 e2]; rfl)) h0
    · refine tail _ m hm (by omega) fun h => ?_
      rcases h with h | h
      · exact absurd (decide_eq_true (congrArg V.int h)) h4
      · exact absurd (decide_eq_true (congrArg V.int h)) h2
theorem ok_law_form (F : DefAt K mg "_law_form" s_law_form ["state", "left", "times"]) (d__law_cell : DefOk P w K mg base "_law_cell" 1 ["state"] spCell) (d__law_sign : DefOk P w K mg base "_law_sign" 1 ["cell"] spSign) (d__law_times : DefOk P w K mg base "_law_times" 1 ["cell"] spTimes)
    (b_max : mg "max" = none) (b_range : mg "range" = none) (b_int : mg "int" = none) (b_tuple : mg "tuple" = none) : ∀ n : Nat, DefOk P w K mg base "_law_form" (n + 2) ["state", "left", "times"] (spForm K n)
  | 0 => ok_law_form0 F d__law_cell d__law_sign
  | n + 1 => ok_law_formS n F d__law_cell d__law_sign d__law_times (ok_law_form F d__law_cell d__law_sign d__law_times b_max b_range b_int b_tuple n) b_max b_range b_int b_tuple
end
end Sw
set_option Elab.async false
set_option maxRecDepth 100000
set_option maxHeartbeats 8000000
namespace Sw
open PySem L2 PySem.Spec PyProof.Rows
theorem fmsAtI {K : PySem.W.Frag} {H : Hp} {ws : List V} {fs : List Fm} {i : Nat} {v : V} (h : FmsAt K H ws fs) (hv : ws[i]? = some v) : ∃ f, fs[i]? = some f ∧ FmAt K H v f := by
  obtain ⟨d, h1, h2⟩ := dpsAtV h hv
  rw [Fm.dats_map, List.getElem?_map] at h1
  obtain ⟨f, hf, rfl⟩ := Option.map_eq_some_iff.mp h1
  exact ⟨f, hf, h2⟩
theorem fmsLenA {K : PySem.W.Frag} {H : Hp} {ws : List V} {fs : List Fm} (h : FmsAt K H ws fs) : ws.length = fs.length := by
  have := dpsLen h
  rw [Fm.dats_map, List.length_map] at this
  exact this
mutual
def Fm.dp : Fm → Nat
  | .sign _ => 1
  | .row ps => 1 + Fm.dps ps
  | .pick ps => 1 + Fm.dps ps
  | .times p _ _ => 1 + p.dp
def Fm.dps : List Fm → Nat
  | [] => 0
  | p :: ps => max p.dp (Fm.dps ps)
end
theorem dps_mem : ∀ {ps : List Fm} {p : Fm}, p ∈ ps → p.dp ≤ Fm.dps ps
  | q :: ps, p, h => by
    rw [Fm.dps]
    rcases List.mem_cons.mp h with rfl | h
    · omega
    · have := dps_mem h
      omega
theorem dp_parts {f p : Fm} (h : p ∈ f.parts) : p.dp < f.dp := by
  cases f with
  | sign s => cases h
  | row ps => have := dps_mem (ps := ps) h; rw [Fm.dp]; omega
  | pick ps => have := dps_mem (ps := ps) h; rw [Fm.dp]; omega
  | times p l u => rw [List.mem_singleton.mp h, Fm.dp]; omega
theorem dp_pos (f : Fm) : 0 < f.dp := by cases f <;> simp [Fm.dp] <;> omega
theorem sizes_mem : ∀ {ps : List Fm} {p : Fm}, p ∈ ps → p.size ≤ Fm.sizes ps
  | q :: ps, p, h => by
    rw [Fm.sizes]
    rcases List.mem_cons.mp h with rfl | h
    · omega
    · have := sizes_mem h
      omega
theorem size_parts {f p : Fm} (h : p ∈ f.parts) : p.size < f.size := by
  have := sizes_mem h
  rw [Fm.size_eq f]
  omega
theorem parts_len (f : Fm) : f.parts.length < f.size := by
  have := len_sizes f.parts
  rw [Fm.size_eq f]
  omega
theorem filter_snoc {α : Type} (f : α → Bool) (l : List α) (p : α) : (l ++ [p]).filter f = l.filter f ++ (if f p = true then [p] else []) := by
  rw [List.filter_append]
  congr 1
  by_cases q : f p = true
  · rw [if_pos q, List.filter_cons_of_pos q]; rfl
  · rw [if_neg q, List.filter_cons_of_neg q]; rfl
theorem all_filter {α : Type} (f : α → Bool) (l : List α) : decide ((l.filter fun x => !f x).length = 0) = l.all f := by
  cases e : l.all f with
  | true =>
    refine decide_eq_true ?_
    rw [List.filter_eq_nil_iff.mpr fun x hx => by rw [List.all_eq_true.mp e x hx]; decide]
    rfl
  | false =>
    refine decide_eq_false fun z => ?_
    have z' := List.eq_nil_of_length_eq_zero z
    have : l.all f = true := List.all_eq_true.mpr fun x hx => by
      have := List.filter_eq_nil_iff.mp z' x hx
      simpa using this
    rw [e] at this
    cases this
theorem any_filter {α : Type} (f : α → Bool) (l : List α) : decide (0 < (l.filter f).length) = l.any f := by
  cases e : l.any f with
  | true =>
    obtain ⟨x, hx, q⟩ := List.any_eq_true.mp e
    exact decide_eq_true (List.length_pos_of_mem (List.mem_filter.mpr ⟨hx, q⟩))
  | false =>
    refine decide_eq_false fun z => ?_
    have : l.filter f = [] := List.filter_eq_nil_iff.mpr fun x hx q => by
      have : l.any f = true := List.any_eq_true.mpr ⟨x, hx, q⟩
      rw [e] at this
      cases this
    rw [this] at z
    exact absurd z (Nat.lt_irrefl _)
section
variable {P : Program} {w : World} {K : PySem.W.Frag} {mg : Str → Option Value} {base : Heap}
/-! ### may it take nothing -/
abbrev n_law_nothing : List Str := ["form", "part"]
theorem sc_law_nothing : FnScope n_law_nothing ["form"] (defScope s_law_nothing) := ⟨rfl, rfl, rfl, by decide +kernel, rfl, by decide +kernel, by decide +kernel⟩
def spNothing (K : PySem.W.Frag) (n : Nat) : Sp := fun vs H Q _ => ∃ v f, vs = [v] ∧ FmAt K H v f ∧ f.dp ≤ n ∧ f.size ≤ 1000 ∧ ∀ H', Same H H' → Q (.bl f.nothing) H'
theorem ok_law_nothing (F : DefAt K mg "_law_nothing" s_law_nothing ["form"]) (b_len : mg "len" = none) : ∀ n, DefOk P w K mg base "_law_nothing" (n + 1) ["form"] (spNothing K n)
  | 0 => by
    refine F.ok sc_law_nothing (fun vs H Q E h => ?_) (fun f cdv A outer s H vs Q E hr h => ?_)
    · obtain ⟨_, _, rfl, _⟩ := h
      rfl
    · obtain ⟨_, f, _, _, q, _⟩ := h
      exact absurd (dp_pos f) (by omega)
  | n + 1 => by
    have d__law_nothing := ok_law_nothing F b_len n
    refine F.ok sc_law_nothing (fun vs H Q E h => ?_) (fun f cdv A outer s H vs Q E hr h => ?_)
    · obtain ⟨_, _, rfl, _⟩ := h
      rfl
    obtain ⟨v, fm, rfl, hf, hdp, hsz, k⟩ := h
    refine ⟨_, (pss_cons (ps_if (pt_cmpR op_eq (pe_ix ix_tup (pv 0) pe_int (fun _ _ => rfl)) pe_str (nomark _)) (pss_one (ps_ret (pe_cmpR op_eq (pe_callB call_len_seq (by rfl) b_len PySem.boot_len (pa_cons (pe_lc (own := [("part", 1)]) (g := gName 1) rfl sc_law_nothing.nd (pi_tup (pe_ix ix_tup (pv 0) pe_int (fun _ _ => rfl))) (blkOk_by (own := [("part", 1)]) (N := n_law_nothing) (sc := defScope s_law_nothing) (by decide +kernel)) (fun _ _ _ _ _ => (pg_name (i := 1) sc_law_nothing.nd rfl (Or.inl rfl))) (fun _ _ _ _ _ => (pts_one (pt_not (pt_val (pe_callD d__law_nothing (hr.mono (Nat.le_refl _)) rfl (pa_cons (pv 1) pa_nil)))))) (fun _ _ _ _ _ => (pv 1))) pa_nil)) pe_int (nomark _)))) pss_nil)
    (pss_cons (ps_if (pt_cmpR op_eq (pe_ix ix_tup (pv 0) pe_int (fun _ _ => rfl)) pe_str (nomark _)) (pss_one (ps_ret (pe_cmpR op_gt (pe_callB call_len_seq (by rfl) b_len PySem.boot_len (pa_cons (pe_lc (own := [("part", 1)]) (g := gName 1) rfl sc_law_nothing.nd (pi_tup (pe_ix ix_tup (pv 0) pe_int (fun _ _ => rfl))) (blkOk_by (own := [("part", 1)]) (N := n_law_nothing) (sc := defScope s_law_nothing) (by decide +kernel)) (fun _ _ _ _ _ => (pg_name (i := 1) sc_law_nothing.nd rfl (Or.inl rfl))) (fun _ _ _ _ _ => (pts_one (pt_val (pe_callD d__law_nothing (hr.mono (Nat.le_refl _)) rfl (pa_cons (pv 1) pa_nil))))) (fun _ _ _ _ _ => (pv 1))) pa_nil)) pe_int (nomark _)))) pss_nil)
    (pss_one (ps_ret (pe_and (pe_cmpR op_eq (pe_ix ix_tup (pv 0) pe_int (fun _ _ => rfl)) pe_str (nomark _)) (pe_one (pe_or (pe_cmpR op_eq (pe_ix ix_tup (pv 0) pe_int (fun _ _ => rfl)) pe_int (nomark _)) (pe_one (pe_callD d__law_nothing (hr.mono (Nat.le_refl _)) rfl (pa_cons (pe_ix ix_tup (pv 0) pe_int (fun _ _ => rfl)) pa_nil)))))))))), ?_⟩
    cases fm with
    | sign s =>
      obtain ⟨a, rfl, ht⟩ := fmSign hf
      refine ⟨_, rfl, a, _, 0, _, rfl, rfl, ht, atI_nat (j := 0) rfl, rfl, _, rfl, iteF ?_⟩
      refine ⟨_, rfl, a, _, 0, _, rfl, rfl, ht, atI_nat (j := 0) rfl, rfl, _, rfl, iteF ?_⟩
      refine ⟨_, rfl, a, _, 0, _, rfl, rfl, ht, atI_nat (j := 0) rfl, rfl, _, rfl, iteF ?_⟩
      exact k H (.refl _)
    | row ps =>
      obtain ⟨a, b, vs, rfl, ht, hb, hv⟩ := fmRow hf
      have hvl := fmsLenA hv
      have hpl := parts_len (Fm.row ps)
      have hpl' : ps.length < (Fm.row ps).size := hpl
      refine ⟨_, rfl, a, _, 0, _, rfl, rfl, ht, atI_nat (j := 0) rfl, rfl, _, rfl, iteT ?_⟩
      refine ⟨_, rfl, a, _, 1, _, rfl, rfl, ht, atI_nat (j := 1) rfl, b, rfl, ⟨_, hb⟩, fun D nD => ?_⟩
      refine lc_tup (K := K) (a := b) (xs := vs) (fun i H' => ∃ us : List V, Same H H' ∧ H' D = some (.lst us) ∧ us.length = ((ps.take i).filter fun p => !p.nothing).length) ⟨[], .new nD, upd_same, rfl⟩ (fun i H' _ ⟨_, g, _⟩ => g.sqT hb) ?_ ?_
      · rintro i x H1 hx ⟨us, s1, hD, hus⟩
        obtain ⟨p, hp, hpx⟩ := fmsAtI hv hx
        have hpm := List.mem_of_getElem? hp
        have h1 := dp_parts (f := Fm.row ps) hpm
        have h2 := size_parts (f := Fm.row ps) hpm
        have hul : us.length ≤ 1000 := by
          rw [hus]
          refine Nat.le_trans (List.length_filter_le _ _) ?_
          rw [List.length_take]
          omega
        refine ⟨rfl, ?_⟩
        refine ⟨_, rfl, x, p, rfl, dpS s1 hpx, by omega, by omega, fun H2 s2 => ⟨_, rfl, ?_⟩⟩
        rw [List.take_add_one, hp, Option.toList_some, filter_snoc]
        cases e : p.nothing with
        | true => exact iteF ⟨us, s1.trans s2, s2 _ _ hD, by rw [hus]; simp⟩
        | false => exact iteT ⟨_, rfl, us, s2 _ _ hD, szb (by omega), us ++ [x], (s1.trans s2).mut nD, upd_same, by rw [List.length_append, hus]; simp⟩
      · rintro H1 ⟨us, s1, hD, hus⟩
        rw [hvl, List.take_length] at hus
        refine ⟨D, us, rfl, .inl (sL hD), rfl, ?_⟩
        have e : decide (V.int (us.length : Int) = V.int 0) = (Fm.row ps).nothing := by
          rw [Fm.nothing, allN_eq, List.all_map, show ps.all (id ∘ Fm.nothing) = ps.all (fun p => p.nothing) from rfl, ← all_filter (fun p => p.nothing) ps, ← hus]
          by_cases q : us.length = 0
          · rw [decide_eq_true q, q]; rfl
          · rw [decide_eq_false q, decide_eq_false (fun z => q (by have := V.int.inj z; omega))]
        rw [e]
        exact k H1 s1
    | pick ps =>
      obtain ⟨a, b, vs, rfl, ht, hb, hv⟩ := fmPick hf
      have hvl := fmsLenA hv
      have hpl' : ps.length < (Fm.pick ps).size := parts_len (Fm.pick ps)
      refine ⟨_, rfl, a, _, 0, _, rfl, rfl, ht, atI_nat (j := 0) rfl, rfl, _, rfl, iteF ?_⟩
      refine ⟨_, rfl, a, _, 0, _, rfl, rfl, ht, atI_nat (j := 0) rfl, rfl, _, rfl, iteT ?_⟩
      refine ⟨_, rfl, a, _, 1, _, rfl, rfl, ht, atI_nat (j := 1) rfl, b, rfl, ⟨_, hb⟩, fun D nD => ?_⟩
      refine lc_tup (K := K) (a := b) (xs := vs) (fun i H' => ∃ us : List V, Same H H' ∧ H' D = some (.lst us) ∧ us.length = ((ps.take i).filter fun p => p.nothing).length) ⟨[], .new nD, upd_same, rfl⟩ (fun i H' _ ⟨_, g, _⟩ => g.sqT hb) ?_ ?_
      · rintro i x H1 hx ⟨us, s1, hD, hus⟩
        obtain ⟨p, hp, hpx⟩ := fmsAtI hv hx
        have hpm := List.mem_of_getElem? hp
        have h1 := dp_parts (f := Fm.pick ps) hpm
        have h2 := size_parts (f := Fm.pick ps) hpm
        have hul : us.length ≤ 1000 := by
          rw [hus]
          refine Nat.le_trans (List.length_filter_le _ _) ?_
          rw [List.length_take]
          omega
        refine ⟨rfl, ?_⟩
        refine ⟨_, rfl, x, p, rfl, dpS s1 hpx, by omega, by omega, fun H2 s2 => ⟨_, rfl, ?_⟩⟩
        rw [List.take_add_one, hp, Option.toList_some, filter_snoc]
        cases e : p.nothing with
        | false => exact iteF ⟨us, s1.trans s2, s2 _ _ hD, by rw [hus]; simp⟩
        | true => exact iteT ⟨_, rfl, us, s2 _ _ hD, szb (by omega), us ++ [x], (s1.trans s2).mut nD, upd_same, by rw [List.length_append, hus]; simp⟩
      · rintro H1 ⟨us, s1, hD, hus⟩
        rw [hvl, List.take_length] at hus
        refine ⟨D, us, rfl, .inl (sL hD), _, _, rfl, rfl, ?_⟩
        have e : decide ((0 : Int) < (us.length : Int)) = (Fm.pick ps).nothing := by
          rw [Fm.nothing, anyN_eq, List.any_map, ← any_filter (id ∘ Fm.nothing) ps]
          have hus' : us.length = (ps.filter (id ∘ Fm.nothing)).length := hus
          rw [← hus']
          by_cases q : 0 < us.length
          · rw [decide_eq_true q, decide_eq_true (by omega)]
          · rw [decide_eq_false q, decide_eq_false (by omega)]
        show Q (.bl (decide ((0 : Int) < (us.length : Int)))) H1
        rw [e]
        exact k H1 s1
    | times p l u =>
      obtain ⟨a, b, rfl, ht, hb⟩ := fmTimes hf
      have h1 : p.dp < (Fm.times p l u).dp := dp_parts (f := Fm.times p l u) (by simp [Fm.parts])
      have h2 : p.size < (Fm.times p l u).size := size_parts (f := Fm.times p l u) (by simp [Fm.parts])
      refine ⟨_, rfl, a, _, 0, _, rfl, rfl, ht, atI_nat (j := 0) rfl, rfl, _, rfl, iteF ?_⟩
      refine ⟨_, rfl, a, _, 0, _, rfl, rfl, ht, atI_nat (j := 0) rfl, rfl, _, rfl, iteF ?_⟩
      refine ⟨_, rfl, a, _, 0, _, rfl, rfl, ht, atI_nat (j := 0) rfl, rfl, _, rfl, iteT ?_⟩
      refine ⟨_, rfl, a, _, 2, _, rfl, rfl, ht, atI_nat (j := 2) rfl, rfl, _, rfl, ?_⟩
      by_cases h0 : l = 0
      · subst h0
        exact iteT (k H (.refl _))
      · have e : decide (V.int (l : Int) = V.int 0) = false := decide_eq_false fun q => h0 (by have := V.int.inj q; omega)
        rw [e]
        refine iteF ?_
        refine ⟨_, rfl, a, _, 1, _, rfl, rfl, ht, atI_nat (j := 1) rfl, b, p, rfl, hb, by omega, by omega, fun H1 s1 => ?_⟩
        have e2 : (Fm.times p l u).nothing = p.nothing := by
          rw [Fm.nothing, beq_eq_false_iff_ne.mpr h0]
          rfl
        rw [e2] at k
        exact k H1 s1
end
end Sw
set_option Elab.async false
set_option maxRecDepth 100000
set_option maxHeartbeats 8000000
namespace Sw
open PySem L2 PySem.Spec PyProof.Rows
theorem slA {K : PySem.W.Frag} {H : Hp} {a : Addr} {xs : List V} {lo hi : Option Int} {Q : VK} (ha : SqT K H a xs) (k : ∀ (H' : Hp) (q : Addr), Same H H' → SqT K H' q (cutV xs lo hi) → Q (.ref q) H') : rSlA K (.ref a) lo hi H Q := by
  refine ⟨a, xs, rfl, ha, fun e => ?_, fun _ p hp => k _ p (.new hp) (sT upd_same)⟩
  refine k H a (Same.refl _) ?_
  unfold cutV
  rw [e.1, e.2, List.drop_zero, Nat.sub_zero, List.take_length]
  exact ha
def cutS (r : RowS) (lo hi : Option Int) : RowS := (r.drop (HT.sIx r.length 0 lo)).take (HT.sIx r.length r.length hi - HT.sIx r.length 0 lo)
theorem cutV_str (r : RowS) (lo hi : Option Int) : cutV (r.map V.str) lo hi = (cutS r lo hi).map V.str := by
  unfold cutV cutS
  rw [List.length_map, ← List.map_drop, ← List.map_take]
theorem cutS_mem {r : RowS} {lo hi : Option Int} {x : Str} (h : x ∈ cutS r lo hi) : x ∈ r := List.mem_of_mem_drop (List.mem_of_mem_take h)
theorem cutS_len (r : RowS) (lo hi : Option Int) : (cutS r lo hi).length ≤ r.length := by
  unfold cutS
  rw [List.length_take, List.length_drop]
  omega
theorem cutS_take (r : RowS) (n : Nat) : cutS r none (some (n : Int)) = r.take n := by
  unfold cutS
  rw [HT.sIx_nat, HT.sIx_none, List.drop_zero, Nat.sub_zero, take_min _ _ _ (Nat.le_refl _)]
theorem cutS_drop (r : RowS) (n : Nat) : cutS r (some (n : Int)) none = r.drop n := by
  unfold cutS
  rw [HT.sIx_nat, HT.sIx_none]
  by_cases h : n ≤ r.length
  · rw [Nat.min_eq_left h, List.take_of_length_le (by rw [List.length_drop]; exact Nat.le_refl _)]
  · rw [Nat.min_eq_right (by omega), List.drop_of_length_le (Nat.le_refl _), List.drop_of_length_le (by omega), List.take_nil]
theorem cut2 (r : RowS) {i j : Int} (h0 : 0 ≤ i) (h : i ≤ j) : (cutS r none (some i)).length + (cutS r (some j) none).length ≤ r.length := by
  obtain ⟨a, rfl⟩ := Int.eq_ofNat_of_zero_le h0
  obtain ⟨b, rfl⟩ := Int.eq_ofNat_of_zero_le (Int.le_trans h0 h)
  rw [cutS_take, cutS_drop, List.length_take, List.length_drop]
  omega
theorem slS {K : PySem.W.Frag} {H : Hp} {a : Addr} {r : RowS} {lo hi : Option Int} {Q : VK} (ha : SqT K H a (r.map V.str)) (k : ∀ (H' : Hp) (q : Addr), Same H H' → SqT K H' q ((cutS r lo hi).map V.str) → Q (.ref q) H') : rSlA K (.ref a) lo hi H Q :=
  slA ha fun H' q s hq => k H' q s (by rw [← cutV_str]; exact hq)
theorem slE {K : PySem.W.Frag} {H : Hp} {σ : L2.St} {a : Addr} {r : RowS} {lo : Option Int} {Q : VK} (ha : SqT K H a (r.map V.str)) (k : ∀ (H' : Hp) (q : Addr), Same H H' → SqT K H' q ((cutS r lo none).map V.str) → Q (.ref q) H') : tNoPart σ H fun u H3 => rSlA K (.ref a) lo u H3 Q :=
  slS (lo := lo) (hi := none) ha k
theorem catS {K : PySem.W.Frag} {H : Hp} {a b : Addr} {r s : RowS} {Q : VK} (ha : SqT K H a (r.map V.str)) (hb : SqT K H b (s.map V.str)) (hl : r.length + s.length ≤ 16000000) (k : ∀ (H' : Hp) (q : Addr), Same H H' → SqT K H' q ((r ++ s).map V.str) → Q (.ref q) H') : rCatA K (.ref a) (.ref b) H Q :=
  catA ha hb (by rw [List.length_map, List.length_map]; exact szl hl) fun H' q s1 hq => k H' q s1 (by rw [List.map_append]; exact hq)
section
variable {P : Program} {w : World} {K : PySem.W.Frag} {mg : Str → Option Value} {base : Heap}
abbrev n_law_bent_row : List Str := ["row", "cell", "at", "sign", "way", "base", "some", "k", "one"]
theorem sc_law_bent_row : FnScope n_law_bent_row ["row", "cell"] (defScope s_law_bent_row) := ⟨rfl, rfl, rfl, by decide +kernel, rfl, by decide +kernel, by decide +kernel⟩
def spBent (K : PySem.W.Frag) : Sp := fun vs H Q _ => ∃ (a : Addr) (r : RowS) (c : Int), vs = [.ref a, .int c] ∧ SqT K H a (r.map V.str) ∧ (∀ x, x ∈ r → okS x) ∧ r.length ≤ 200 ∧
  ∀ (H' : Hp) (b : Addr) (r' : RowS), Same H H' → SqT K H' b (r'.map V.str) → (∀ x, x ∈ r' → okS x) → r'.length ≤ 204 → Q (.ref b) H'
theorem ok_law_bent_row (F : DefAt K mg "_law_bent_row" s_law_bent_row ["row", "cell"]) (b_len : mg "len" = none) (b_range : mg "range" = none) (b_tuple : mg "tuple" = none) : DefOk P w K mg base "_law_bent_row" 1 ["row", "cell"] (spBent K) := by
  refine F.ok sc_law_bent_row (fun vs H Q E h => ?_) (fun f cdv A outer s H vs Q E hr h => ?_)
  · obtain ⟨_, _, _, rfl, _⟩ := h
    rfl
  obtain ⟨a, r, c, rfl, ha, ho, hl, k⟩ := h
  refine ⟨_, (pss_cons (ps_set (i := 2) sc_law_bent_row.nd rfl (Or.inl rfl) (pe_op op_mod (pv 1) (pe_op op_add (pe_callB call_len_seq (by rfl) b_len PySem.boot_len (pa_cons (pv 0) pa_nil)) pe_int)))
    (pss_cons (ps_set (i := 3) sc_law_bent_row.nd rfl (Or.inl rfl) (pe_ix ix_list (pe_lst (pa_cons pe_str (pa_cons pe_str (pa_cons pe_str (pa_cons pe_str pa_nil))))) (pe_op op_mod (pe_op op_fdiv (pv 1) pe_int) pe_int) (fun _ _ => rfl)))
    (pss_cons (ps_set (i := 4) sc_law_bent_row.nd rfl (Or.inl rfl) (pe_op op_mod (pe_op op_fdiv (pv 1) pe_int) pe_int))
    (pss_cons (ps_if (pt_cmpR op_eq (pv 4) pe_int (nomark _)) (pss_one (ps_ret (pv 0))) pss_nil)
    (pss_cons (ps_if (pt_cmpR op_eq (pv 4) pe_int (nomark _)) (pss_one (ps_ret (pe_op op_catA (pe_op op_catA (pe_slice sl_tupA (pv 0) po_none (po_some (pv 2))) (pe_tup (pa_cons (pv 3) pa_nil))) (pe_slice sl_tupA (pv 0) (po_some (pv 2)) po_none)))) pss_nil)
    (pss_cons (ps_if (pt_cmpR op_eq (pv 4) pe_int (nomark _)) (pss_one (ps_ret (pe_op op_catA (pe_slice sl_tupA (pv 0) po_none (po_some (pv 2))) (pe_slice sl_tupA (pv 0) (po_some (pe_op op_add (pv 2) pe_int)) po_none)))) pss_nil)
    (pss_cons (ps_if (pt_cmpR op_eq (pv 4) pe_int (nomark _)) (pss_one (ps_ret (pe_op op_catA (pe_op op_catA (pe_slice sl_tupA (pv 0) po_none (po_some (pv 2))) (pe_tup (pa_cons (pv 3) pa_nil))) (pe_slice sl_tupA (pv 0) (po_some (pe_op op_add (pv 2) pe_int)) po_none)))) pss_nil)
    (pss_cons (ps_set (i := 5) sc_law_bent_row.nd rfl (Or.inr rfl) (pe_op op_mod (pe_op op_fdiv (pv 1) pe_int) pe_int))
    (pss_cons (ps_setLc (i := 6) (own := [("k", 7)]) (g := gName 7) rfl sc_law_bent_row.nd rfl rfl (sw_true rfl rfl rfl (by decide +kernel)) (pi_range1 rfl b_range (pa_cons (pe_op op_mod (pe_op op_fdiv (pv 1) pe_int) pe_int) pa_nil)) (blkOk_by (own := [("k", 7)]) (N := n_law_bent_row) (sc := defScope s_law_bent_row) (by decide +kernel)) (fun _ _ _ _ _ => (pg_name (i := 7) sc_law_bent_row.nd rfl (Or.inl rfl))) (fun _ _ _ _ _ => pts_nil) (fun _ _ _ _ _ => (pe_op op_mod (pe_op op_fdiv (pe_op op_mod (pe_op op_pow (pe_op op_add (pe_op op_add (pv 5) (pe_op op_mul pe_int (pv 7))) pe_int) pe_int) pe_int) pe_int) pe_int)))
    (pss_one (ps_ret (pe_callTy call_tuple_of (by rfl) b_tuple (by decide +kernel) (pa_cons (pe_lc (own := [("one", 8)]) (g := gName 8) rfl sc_law_bent_row.nd (pi_list (pv 6)) (blkOk_by (own := [("one", 8)]) (N := n_law_bent_row) (sc := defScope s_law_bent_row) (by decide +kernel)) (fun _ _ _ _ _ => (pg_name (i := 8) sc_law_bent_row.nd rfl (Or.inl rfl))) (fun _ _ _ _ _ => pts_nil) (fun _ _ _ _ _ => (pe_ix (r := rIxL K) ix_list (pe_lst (pa_cons pe_str (pa_cons pe_str (pa_cons pe_str pa_nil)))) (pv 8) (fun _ _ => rfl)))) pa_nil))))))))))))), ?_⟩
  refine ⟨_, rfl, _, rfl, a, _, rfl, .inr ha, _, _, rfl, rfl, _, _, rfl, rfl, (by show (0 : Int) < ((r.map V.str).length : Int) + 1; omega), ?_⟩
  refine ⟨(by show 4 ≤ sizeLine; decide), fun p hp => ⟨_, rfl, _, _, rfl, rfl, ⟨by decide, by decide⟩, _, _, rfl, rfl, (by show (0 : Int) < 4; decide), ?_⟩⟩
  have s1 : Same H (upd H p (.lst [.str "a", .str "b", .str "ab", .str "c"])) := .new hp
  obtain ⟨j, hj⟩ : ∃ j : Nat, c / 13 % 4 = (j : Int) := ⟨(c / 13 % 4).toNat, by have := Int.emod_nonneg (c / 13) (b := 4) (by decide); omega⟩
  have hj4 : j < 4 := by have := Int.emod_lt_of_pos (c / 13) (b := 4) (by decide); omega
  obtain ⟨x, hx1, hx2⟩ : ∃ x : Str, ([.str "a", .str "b", .str "ab", .str "c"] : List V)[j]? = some (.str x) ∧ okS x := by
    match j, hj4 with
    | 0, _ => exact ⟨_, rfl, .inl rfl⟩
    | 1, _ => exact ⟨_, rfl, .inr (.inl rfl)⟩
    | 2, _ => exact ⟨_, rfl, .inr (.inr (.inl rfl))⟩
    | 3, _ => exact ⟨_, rfl, .inr (.inr (.inr (.inl rfl)))⟩
  refine ⟨p, _, _, _, rfl, rfl, sL upd_same, at_of (j := j) hj hx1, ?_⟩
  refine ⟨_, rfl, _, _, rfl, rfl, ⟨by decide, by decide⟩, _, _, rfl, rfl, (by show (0 : Int) < 5; decide), ?_⟩
  have ha1 := s1.sqT ha
  have okc : ∀ lo hi y, y ∈ cutS r lo hi → okS y := fun lo hi y hy => ho y (cutS_mem hy)
  -- the row with a piece cut out and a sign in
  have put : ∀ (lo : Option Int) (H2 : Hp) (q : Addr) (hi : Option Int), Same H H2 → SqT K H2 q ((cutS r none hi).map V.str) → True := fun _ _ _ _ _ _ => trivial
  refine ⟨_, rfl, rfl, _, rfl, ite2 (fun _ => ?_) (fun _ => ⟨_, rfl, rfl, _, rfl, ite2 (fun _ => ?a) (fun _ => ⟨_, rfl, rfl, _, rfl, ite2 (fun _ => ?_) (fun _ => ⟨_, rfl, rfl, _, rfl, ite2 (fun _ => ?b) (fun _ => ?_)⟩)⟩)⟩)⟩
  · exact ⟨_, rfl, k _ a r s1 ha1 ho (by omega)⟩
  case a | b =>
    refine ⟨_, rfl, _, rfl, _, rfl, slS ha1 fun H2 q2 s2 hq2 => ?_⟩
    refine ⟨_, rfl, (by show 1 ≤ sizeLine; decide), fun t ht => ?_⟩
    have s3 : Same H2 (upd H2 t (.tup [.str x])) := .new ht
    have hl2 := cutS_len r none (some (c % (((r.map V.str).length : Int) + 1)))
    refine catS (s := [x]) (s3.sqT hq2) (sT upd_same) (by show _ + 1 ≤ _; omega) fun H4 q4 s4 hq4 => ?_
    have s14 := ((s1.trans s2).trans s3).trans s4
    first
    | (refine ⟨_, rfl, _, rfl, _, rfl, slE (s14.sqT ha) fun H5 q5 s5 hq5 => ?_⟩; refine catS (s5.sqT hq4) hq5 (by have := cutS_len r (some (c % (((r.map V.str).length : Int) + 1))) none; rw [List.length_append, List.length_singleton]; omega) fun H6 q6 s6 hq6 => ?_;
       refine k H6 q6 _ ((s14.trans s5).trans s6) hq6 (fun y hy => ?_) ?_)
    | (refine ⟨_, rfl, _, rfl, _, _, rfl, rfl, _, rfl, slE (s14.sqT ha) fun H5 q5 s5 hq5 => ?_⟩; refine catS (s5.sqT hq4) hq5 (by have := cutS_len r (some (c % (((r.map V.str).length : Int) + 1) + 1)) none; rw [List.length_append, List.length_singleton]; omega) fun H6 q6 s6 hq6 => ?_;
       refine k H6 q6 _ ((s14.trans s5).trans s6) hq6 (fun y hy => ?_) ?_)
    · rcases List.mem_append.mp hy with hy | hy
      · rcases List.mem_append.mp hy with hy | hy
        · exact okc _ _ y hy
        · rw [List.mem_singleton.mp hy]; exact hx2
      · exact okc _ _ y hy
    · have hl5 := cutS_len r
      rw [List.length_append, List.length_append, List.length_singleton]
      have h0 : 0 ≤ c % (((r.map V.str).length : Int) + 1) := Int.emod_nonneg _ (by omega)
      first
        | (have := cut2 r (i := c % (((r.map V.str).length : Int) + 1)) (j := c % (((r.map V.str).length : Int) + 1)) h0 (Int.le_refl _); omega)
        | (have := cut2 r (i := c % (((r.map V.str).length : Int) + 1)) (j := c % (((r.map V.str).length : Int) + 1) + 1) h0 (by omega); omega)
  · refine ⟨_, rfl, _, rfl, _, rfl, slS ha1 fun H2 q2 s2 hq2 => ?_⟩
    refine ⟨_, rfl, _, rfl, _, _, rfl, rfl, _, rfl, slE ((s1.trans s2).sqT ha) fun H5 q5 s5 hq5 => ?_⟩
    refine catS (s5.sqT hq2) hq5 (Nat.le_trans (Nat.add_le_add (cutS_len r _ _) (cutS_len r _ _)) (by omega)) fun H6 q6 s6 hq6 => ?_
    refine k H6 q6 _ (((s1.trans s2).trans s5).trans s6) hq6 (fun y hy => ?_) ?_
    · rcases List.mem_append.mp hy with hy | hy
      · exact okc _ _ y hy
      · exact okc _ _ y hy
    · rw [List.length_append]
      have h0 : 0 ≤ c % (((r.map V.str).length : Int) + 1) := Int.emod_nonneg _ (by omega)
      first
        | (have := cut2 r (i := c % (((r.map V.str).length : Int) + 1)) (j := c % (((r.map V.str).length : Int) + 1)) h0 (Int.le_refl _); omega)
        | (have := cut2 r (i := c % (((r.map V.str).length : Int) + 1)) (j := c % (((r.map V.str).length : Int) + 1) + 1) h0 (by omega); omega)
  · refine ⟨_, rfl, _, _, rfl, rfl, ⟨by decide, by decide⟩, _, _, rfl, rfl, (by show (0 : Int) < 1000003; decide), ?_⟩
    have hb0 : 0 ≤ c / 1820 % 1000003 := Int.emod_nonneg _ (by decide)
    have hb1 : c / 1820 % 1000003 < 1000003 := Int.emod_lt_of_pos _ (by decide)
    have hk0 : 0 ≤ c / 260 % 7 := Int.emod_nonneg _ (by decide)
    have hk1 : c / 260 % 7 < 7 := Int.emod_lt_of_pos _ (by decide)
    refine ⟨_, rfl, _, _, rfl, rfl, ⟨by decide, by decide⟩, _, _, rfl, rfl, (by show (0 : Int) < 7; decide), _, rfl, (by show -2 ^ 62 ≤ c / 260 % 7; omega), (by show c / 260 % 7 < 2 ^ 62; omega), ?_⟩
    refine fun D hD => lc_range (lo := 0) (n := (c / 260 % 7).toNat) (fun i H' => ∃ ms : List Nat, Same H H' ∧ H' D = some (.lst (ms.map fun (m : Nat) => V.int (m : Int))) ∧ ms.length = i ∧ ∀ m, m ∈ ms → m < 3) ⟨[], s1.trans (.new hD), upd_same, rfl, fun m h => by cases h⟩ ?_ ?_
    · rintro i H2 hi ⟨ms, s2, hD2, hml, hm⟩
      have hi7 : i < 7 := by omega
      refine ⟨rfl, ?_⟩
      refine ⟨_, rfl, _, rfl, _, _, rfl, rfl, .inl ⟨by decide, by decide⟩, _, _, rfl, rfl, _, _, rfl, rfl, _, _, rfl, rfl, ⟨by decide, by decide, ?_⟩, _, _, rfl, rfl, (by show (0 : Int) < 2147483647; decide), _, _, rfl, rfl, ⟨by decide, by decide⟩, _, _, rfl, rfl, (by show (0 : Int) < 3; decide), ?_⟩
      · show (c / 1820 % 1000003 + 7919 * (0 + (i : Int)) + 1).natAbs < 2 ^ 64
        omega
      generalize (c / 1820 % 1000003 + 7919 * (0 + (i : Int)) + 1) ^ (5 : Int).toNat % 2147483647 / 8 = y
      have hy0 : 0 ≤ y % 3 := Int.emod_nonneg _ (by decide)
      have hy3 : y % 3 < 3 := Int.emod_lt_of_pos _ (by decide)
      obtain ⟨m, hmy⟩ : ∃ m : Nat, y % 3 = (m : Int) := ⟨(y % 3).toNat, by omega⟩
      have nsD : D ≠ D → False := fun e => e rfl
      refine ⟨_, hD2, szb (by rw [List.length_map]; omega), ms ++ [m], fun x u e => ?_, ?_, by rw [List.length_append, hml]; rfl, fun z hz => ?_⟩
      · rw [upd_ne (ne_of_none (s1 _ _ e) hD)]
        exact s2 _ _ e
      · rw [upd_same, List.map_append]
        show some (HO.lst (_ ++ [V.int (y % 3)])) = _
        rw [hmy]
        rfl
      · rcases List.mem_append.mp hz with hz | hz
        · exact hm z hz
        · rw [List.mem_singleton.mp hz]; omega
    · rintro H2 ⟨ms, s2, hD2, hml, hm⟩
      have hm7 : ms.length ≤ 7 := by omega
      refine ⟨_, rfl, D, rfl, ⟨_, sL hD2⟩, fun D2 hDn => lc_list (K := K) (a := D) (xs := ms.map fun (m : Nat) => V.int (m : Int)) (fun i H' => ∃ r' : RowS, Same H2 H' ∧ H' D2 = some (.lst (r'.map V.str)) ∧ r'.length = i ∧ ∀ x, x ∈ r' → okS x) ⟨[], .new hDn, upd_same, rfl, fun x h => by cases h⟩ (fun i H' _ ⟨_, g, _⟩ => sL (g _ _ hD2)) ?_ ?_⟩
      · rintro i v H3 hv ⟨r', s3, hD3, hrl, hro⟩
        rw [List.getElem?_map] at hv
        obtain ⟨m, hm1, rfl⟩ : ∃ m, ms[i]? = some m ∧ v = V.int (m : Int) := by
          cases e : ms[i]? with
          | none => rw [e] at hv; cases hv
          | some m => rw [e] at hv; exact ⟨m, rfl, (Option.some.inj hv).symm⟩
        have hm3 := hm m (List.mem_of_getElem? hm1)
        have hi := (List.getElem?_eq_some_iff.mp hm1).1
        refine ⟨rfl, (by show 3 ≤ sizeLine; decide), fun p3 hp3 => ?_⟩
        obtain ⟨x, hx1, hx2⟩ : ∃ x : Str, ([.str "a", .str "b", .str "ab"] : List V)[m]? = some (.str x) ∧ okS x := by
          match m, hm3 with
          | 0, _ => exact ⟨_, rfl, .inl rfl⟩
          | 1, _ => exact ⟨_, rfl, .inr (.inl rfl)⟩
          | 2, _ => exact ⟨_, rfl, .inr (.inr (.inl rfl))⟩
        have s4 : Same H3 (upd H3 p3 (.lst [.str "a", .str "b", .str "ab"])) := .new hp3
        refine ⟨_, rfl, p3, _, _, _, rfl, rfl, sL upd_same, atI_nat (j := m) hx1, _, s4 _ _ hD3, szb (by rw [List.length_map]; omega), r' ++ [x], ?_, by rw [upd_same, List.map_append]; rfl, by rw [List.length_append, hrl]; rfl, fun z hz => ?_⟩
        · exact (s3.trans s4).mut hDn
        · rcases List.mem_append.mp hz with hz | hz
          · exact hro z hz
          · rw [List.mem_singleton.mp hz]; exact hx2
      · rintro H3 ⟨r', s3, hD3, hrl, hro⟩
        refine ⟨D2, _, rfl, .inl ⟨sL hD3, fun q hq => ?_⟩⟩
        rw [List.length_map] at hrl
        exact k _ q r' ((s2.trans s3).trans (.new hq)) (sT upd_same) hro (by omega)
end
end Sw
set_option Elab.async false
set_option maxRecDepth 100000
set_option maxHeartbeats 8000000
namespace Sw
open PySem L2 PySem.Spec PyProof.Rows
/-! ### the leaves of a reading, from another place on -/
mutual
theorem lv_pre : ∀ (q : Rdg) (f : Fm) (pl : List Nat), lv f q pl = (lv f q []).map (pl ++ ·)
  | .leaf, f, pl => by
    rw [lv, lv]
    split
    · simp
    · rfl
  | .row prs, f, pl => by
    rw [lv, lv]
    split
    · simp
    · exact lvP_pre prs f pl
  | .pick k q, f, pl => by
    rw [lv, lv]
    split
    · simp
    · rw [lv_pre q (f.part k) (pl ++ [k]), lv_pre q (f.part k) ([] ++ [k]), List.map_map]
      congr 1
      funext x
      simp
  | .times qs, f, pl => by
    rw [lv, lv]
    split
    · simp
    · exact lvL_pre qs f pl
theorem lvP_pre : ∀ (prs : List (Nat × Rdg)) (f : Fm) (pl : List Nat), lvP f prs pl = (lvP f prs []).map (pl ++ ·)
  | [], f, pl => by rw [lvP, lvP]; rfl
  | (k, q) :: prs, f, pl => by
    rw [lvP, lvP, List.map_append, lv_pre q (f.part k) (pl ++ [k]), lv_pre q (f.part k) ([] ++ [k]), lvP_pre prs f pl, List.map_map]
    congr 2
    funext x
    simp
theorem lvL_pre : ∀ (qs : List Rdg) (f : Fm) (pl : List Nat), lvL f qs pl = (lvL f qs []).map (pl ++ ·)
  | [], f, pl => by rw [lvL, lvL]; rfl
  | q :: qs, f, pl => by
    rw [lvL, lvL, List.map_append, lv_pre q (f.part 0) (pl ++ [0]), lv_pre q (f.part 0) ([] ++ [0]), lvL_pre qs f pl, List.map_map]
    congr 2
    funext x
    simp
end
theorem lvP_app (f : Fm) (pl : List Nat) : ∀ a b : List (Nat × Rdg), lvP f (a ++ b) pl = lvP f a pl ++ lvP f b pl
  | [], b => by rw [lvP]; rfl
  | (k, q) :: a, b => by rw [List.cons_append, lvP, lvP, lvP_app f pl a b, List.append_assoc]
theorem lvP_one (f : Fm) (k : Nat) (q : Rdg) : lvP f [(k, q)] [] = (lv (f.part k) q []).map (k :: ·) := by
  rw [lvP, lvP, List.append_nil, List.nil_append, lv_pre]
  rfl
/-! ### sizes of the law's forms -/
theorem sizes_le : ∀ (ps : List Fm) (m : Nat), (∀ p, p ∈ ps → p.size ≤ m) → Fm.sizes ps ≤ ps.length * m
  | [], m, h => Nat.zero_le _
  | p :: ps, m, h => by
    have h1 := h p List.mem_cons_self
    have h2 := sizes_le ps m fun q hq => h q (List.mem_cons_of_mem _ hq)
    simp only [Fm.sizes, List.length_cons]
    rw [Nat.succ_mul]
    omega
theorem dps_le : ∀ (ps : List Fm) (m : Nat), (∀ p, p ∈ ps → p.dp ≤ m) → Fm.dps ps ≤ m
  | [], m, h => by rw [Fm.dps]; exact Nat.zero_le _
  | p :: ps, m, h => by
    rw [Fm.dps]
    exact Nat.max_le.mpr ⟨h p List.mem_cons_self, dps_le ps m fun q hq => h q (List.mem_cons_of_mem _ hq)⟩
theorem lw_sd : ∀ (n : Nat) (f : Fm), Lw n f → f.size ≤ 4 ^ n ∧ f.dp ≤ n + 1
  | 0, .sign s, h => ⟨Nat.le_refl _, by rw [Fm.dp]; exact Nat.le_refl _⟩
  | 0, .row _, h => h.elim
  | 0, .pick _, h => h.elim
  | 0, .times _ _ _, h => h.elim
  | n + 1, .sign s, h => ⟨Nat.one_le_pow _ _ (by decide), by rw [Fm.dp]; omega⟩
  | n + 1, .row ps, h => by
    have h' : ps.length ≤ 3 ∧ ∀ p, p ∈ ps → Lw n p := h
    have h1 := sizes_le ps (4 ^ n) fun p hp => (lw_sd n p (h'.2 p hp)).1
    have h2 : ps.length * 4 ^ n ≤ 3 * 4 ^ n := Nat.mul_le_mul_right _ h'.1
    have h3 : 1 ≤ 4 ^ n := Nat.one_le_pow _ _ (by decide)
    have h4 := dps_le ps (n + 1) fun p hp => (lw_sd n p (h'.2 p hp)).2
    refine ⟨?_, by rw [Fm.dp]; omega⟩
    rw [Nat.pow_succ]
    simp only [Fm.size]
    omega
  | n + 1, .pick ps, h => by
    have h' : 1 ≤ ps.length ∧ ps.length ≤ 3 ∧ ∀ p, p ∈ ps → Lw n p := h
    have h1 := sizes_le ps (4 ^ n) fun p hp => (lw_sd n p (h'.2.2 p hp)).1
    have h2 : ps.length * 4 ^ n ≤ 3 * 4 ^ n := Nat.mul_le_mul_right _ h'.2.1
    have h3 : 1 ≤ 4 ^ n := Nat.one_le_pow _ _ (by decide)
    have h4 := dps_le ps (n + 1) fun p hp => (lw_sd n p (h'.2.2 p hp)).2
    refine ⟨?_, by rw [Fm.dp]; omega⟩
    rw [Nat.pow_succ]
    simp only [Fm.size]
    omega
  | n + 1, .times p low high, h => by
    obtain ⟨h1, h2⟩ := lw_sd n p h.1
    have h3 : 1 ≤ 4 ^ n := Nat.one_le_pow _ _ (by decide)
    refine ⟨?_, by rw [Fm.dp]; omega⟩
    rw [Nat.pow_succ]
    simp only [Fm.size]
    omega
section
variable {P : Program} {w : World} {K : PySem.W.Frag} {mg : Str → Option Value} {base : Heap}
abbrev n_law_often : List Str := ["form", "cell", "most"]
theorem sc_law_often : FnScope n_law_often ["form", "cell"] (defScope s_law_often) := ⟨rfl, rfl, rfl, by decide +kernel, rfl, by decide +kernel, by decide +kernel⟩
def spOften (K : PySem.W.Frag) : Sp := fun vs H Q _ => ∃ (v : V) (c : Int) (p : Fm) (low : Nat) (high : Option Nat), vs = [v, .int c] ∧ FmAt K H v (.times p low high) ∧ (∀ h, high = some h → low ≤ h) ∧ ∀ m : Nat, low ≤ m → m ≤ low + 2 → (∀ h, high = some h → m ≤ h) → Q (.int (m : Int)) H
theorem ok_law_often (F : DefAt K mg "_law_often" s_law_often ["form", "cell"]) (b_min : mg "min" = none) : DefOk P w K mg base "_law_often" 1 ["form", "cell"] (spOften K) := by
  refine F.ok sc_law_often (fun vs H Q E h => ?_) (fun f cdv A outer s H vs Q E hr h => ?_)
  · obtain ⟨_, _, _, _, _, rfl, _⟩ := h
    rfl
  obtain ⟨v, c, p, low, high, rfl, hf, hh, k⟩ := h
  obtain ⟨t1, h1, f1⟩ : ∃ t1, PSs (cxOf CX0 P w K mg base n_law_often "_law_often" (defScope s_law_often) f cdv A outer s H E).nox ((defBody s_law_often).drop 1) t1 ∧
      ∀ (most : Nat), low ≤ most → most ≤ low + 2 → (∀ h, high = some h → most ≤ h) → t1 { nx := fun _ H' => Q .non H', rt := Q } [some v, some (.int c), some (.int (most : Int))] H := by
    refine ⟨_, (pss_one (ps_ret (pe_op op_add (pe_ix ix_tup (pv 0) pe_int (fun _ _ => rfl)) (pe_op op_mod (pv 1) (pe_op op_add (pe_op op_sub (pv 2) (pe_ix ix_tup (pv 0) pe_int (fun _ _ => rfl))) pe_int))))), ?_⟩
    intro most m1 m2 m3
    obtain ⟨a, u, rfl, ht, _⟩ := fmTimes hf
    refine ⟨_, rfl, a, _, 2, _, rfl, rfl, ht, atI_nat (j := 2) rfl, _, rfl, _, rfl, _, rfl, a, _, 2, _, rfl, rfl, ht, atI_nat (j := 2) rfl, _, _, rfl, rfl, _, _, rfl, rfl, _, _, rfl, rfl, (by show (0 : Int) < (most : Int) - (low : Int) + 1; omega), _, _, rfl, rfl, ?_⟩
    have e1 := Int.emod_nonneg c (b := (most : Int) - (low : Int) + 1) (by omega)
    have e2 := Int.emod_lt_of_pos c (b := (most : Int) - (low : Int) + 1) (by omega)
    have q := k (low + (c % ((most : Int) - (low : Int) + 1)).toNat) (by omega) (by omega) (fun h e => by have := m3 h e; omega)
    rw [show (((low + (c % ((most : Int) - (low : Int) + 1)).toNat : Nat)) : Int) = (low : Int) + c % ((most : Int) - (low : Int) + 1) by omega] at q
    exact q
  refine ⟨_, (pss_cons (ps_set (i := 2) sc_law_often.nd rfl (Or.inl rfl) (pe_ifExp (pt_cmp (pc_isN (pe_ix ix_tup (pv 0) pe_int (fun _ _ => rfl))) rfl) (pe_op op_add (pe_ix ix_tup (pv 0) pe_int (fun _ _ => rfl)) pe_int) (pe_callB (call_min2 rfl) (by rfl) b_min (by decide +kernel) (pa_cons (pe_ix ix_tup (pv 0) pe_int (fun _ _ => rfl)) (pa_cons (pe_op op_add (pe_ix ix_tup (pv 0) pe_int (fun _ _ => rfl)) pe_int) pa_nil)))))
    h1), ?_⟩
  obtain ⟨a, u, rfl, ht, _⟩ := fmTimes hf
  refine ⟨_, rfl, a, _, 3, _, rfl, rfl, ht, atI_nat (j := 3) rfl, _, rfl, ?_⟩
  cases high with
  | none =>
    refine iteT ⟨_, rfl, a, _, 2, _, rfl, rfl, ht, atI_nat (j := 2) rfl, _, _, rfl, rfl, ?_⟩
    exact f1 (low + 2) (by omega) (Nat.le_refl _) (fun h e => by cases e)
  | some h =>
    have hlh := hh h rfl
    refine iteF ⟨_, rfl, a, _, 3, _, rfl, rfl, ht, atI_nat (j := 3) rfl, _, rfl, a, _, 2, _, rfl, rfl, ht, atI_nat (j := 2) rfl, _, _, rfl, rfl, _, _, rfl, ?_⟩
    have q := f1 (min h (low + 2)) (by omega) (by omega) (fun h' e => by cases e; omega)
    rw [show (((min h (low + 2) : Nat)) : Int) = (if (low : Int) + 2 < (h : Int) then (low : Int) + 2 else (h : Int)) by split <;> omega] at q
    exact q
end
end Sw
set_option Elab.async false
set_option maxRecDepth 100000
set_option maxHeartbeats 8000000
namespace Sw
open PySem L2 PySem.Spec PyProof.Rows
/-! ### how great data may be that is shown (k15's SwAk, with whole numbers from -10 on) -/
mutual
def ekB : PyData → Bool
  | .int i => decide (-10 ≤ i) && decide (i ≤ 201)
  | .str t => decide (t.length ≤ 9) && PyData.strOk t
  | .tuple l => decide (l.length ≤ 250) && eks l
  | .list l => decide (l.length ≤ 250) && eks l
  | .dict _ => false
  | _ => true
def eks : List PyData → Bool
  | [] => true
  | d :: l => ekB d && eks l
end
theorem ek_int {i : Int} (h : (decide (-10 ≤ i) && decide (i ≤ 201)) = true) : i.natAbs.log2 < 1920 ∧ (PyData.shown (.int i)).length ≤ 25 := by
  rw [shown_leaf.2.2.1]
  rw [Bool.and_eq_true] at h
  obtain ⟨h1, h2⟩ := h
  have h1 := of_decide_eq_true h1
  have h2 := of_decide_eq_true h2
  have : ∀ n : Fin 212, (((n.val : Nat) : Int) - 10).natAbs.log2 < 1920 ∧ (Str.ofString (toString (((n.val : Nat) : Int) - 10))).length ≤ 25 := by decide +kernel
  have q := this ⟨(i + 10).toNat, by omega⟩
  have e : (((i + 10).toNat : Nat) : Int) - 10 = i := by omega
  dsimp only at q
  rw [e] at q
  exact q
mutual
theorem ek_all : ∀ d : PyData, ekB d = true → d.showable = true ∧ d.leavesShort 25 = true ∧ d.canLay0 = true ∧ d.bulk + 1 ≤ 10 * ndD d
  | .none, _ => by simp [PyData.showable, PyData.leavesShort, PyData.canLay0, PyData.bulk, ndD]
  | .bool _, _ => by simp [PyData.showable, PyData.leavesShort, PyData.canLay0, PyData.bulk, ndD]
  | .int i, h => by
    rw [ekB] at h
    obtain ⟨h1, h2⟩ := ek_int h
    simp [PyData.showable, PyData.leavesShort, PyData.canLay0, PyData.bulk, ndD, h1, h2]
  | .str t, h => by
    rw [ekB, Bool.and_eq_true] at h
    have h1 := of_decide_eq_true h.1
    have h2 := h.2
    have h3 : t.cps.size ≤ 9 := h1
    refine ⟨by simp [PyData.showable], ?_, by rw [PyData.canLay0]; exact h2, by simp only [PyData.bulk, ndD]; omega⟩
    rw [PyData.leavesShort]
    unfold PyData.strOk at h2
    rw [← Array.all_toList] at h2
    refine List.all_eq_true.mpr fun c hc => decide_eq_true ?_
    have := of_decide_eq_true (List.all_eq_true.mp h2 c hc)
    have e : (16 : Nat) ^ 8 = 4294967296 := by decide
    omega
  | .tuple l, h => by
    rw [ekB, Bool.and_eq_true] at h
    have hl := of_decide_eq_true h.1
    obtain ⟨h1, h2, h3, h5⟩ := eks_all l h.2
    exact ⟨by rw [PyData.showable]; exact h1, by rw [PyData.leavesShort]; exact h2, by rw [PyData.canLay0]; exact h3, by simp only [PyData.bulk, ndD]; omega⟩
  | .list l, h => by
    rw [ekB, Bool.and_eq_true] at h
    have hl := of_decide_eq_true h.1
    obtain ⟨h1, h2, h3, h5⟩ := eks_all l h.2
    exact ⟨by rw [PyData.showable]; exact h1, by rw [PyData.leavesShort]; exact h2, by rw [PyData.canLay0]; exact h3, by simp only [PyData.bulk, ndD]; omega⟩
  | .dict _, h => by rw [ekB] at h; cases h
theorem eks_all : ∀ l : List PyData, eks l = true → PyData.showableAll l = true ∧ PyData.leavesShortAll 25 l = true ∧ PyData.canLayAll0 l = true ∧ PyData.bulkAll l ≤ 10 * nds l
  | [], _ => by simp [PyData.showableAll, PyData.leavesShortAll, PyData.canLayAll0, PyData.bulkAll]
  | d :: l, h => by
    rw [eks, Bool.and_eq_true] at h
    obtain ⟨a1, a2, a3, a5⟩ := ek_all d h.1
    obtain ⟨b1, b2, b3, b5⟩ := eks_all l h.2
    exact ⟨by rw [PyData.showableAll, a1, b1]; rfl, by rw [PyData.leavesShortAll, a2, b2]; rfl, by rw [PyData.canLayAll0, a3, b3]; rfl, by rw [PyData.bulkAll, nds]; omega⟩
end
structure OkR (d : PyData) : Prop where
  sh : d.showable = true
  nd : d.hasDict = false
  dep : d.depth ≤ 605
  len : d.shown.length ≤ sizeLine
theorem okR {d : PyData} (h : ekB d = true) (hn : ndD d ≤ 20000) (hd : d.depth ≤ 605) : OkR d := by
  obtain ⟨h1, h2, h3, h5⟩ := ek_all d h
  refine ⟨h1, PyData.hasDict_of_canLay d h3, hd, ?_⟩
  have hb := PyData.shown_le_bulk 25 (by omega) d h2
  have e27 : (25 + 2) * d.bulk ≤ (25 + 2) * 200000 := Nat.mul_le_mul_left _ (by omega)
  rw [sizeLine_eq]
  omega
mutual
theorem eqv_self : ∀ d : PyData, d.canLay0 = true → PyData.eqv d d = true
  | .none, _ => by simp [PyData.eqv]
  | .bool b, _ => by simp [PyData.eqv]
  | .int i, _ => by simp [PyData.eqv]
  | .str x, _ => by simp [PyData.eqv]
  | .list xs, h => by
    rw [PyData.canLay0] at h
    rw [PyData.eqv]
    exact eqvAll_self xs h
  | .tuple xs, h => by
    rw [PyData.canLay0] at h
    rw [PyData.eqv]
    exact eqvAll_self xs h
  | .dict _, h => by simp [PyData.canLay0] at h
theorem eqvAll_self : ∀ ds : List PyData, PyData.canLayAll0 ds = true → PyData.eqvAll ds ds = true
  | [], _ => by simp [PyData.eqvAll]
  | d :: ds, h => by
    rw [PyData.canLayAll0, Bool.and_eq_true] at h
    rw [PyData.eqvAll, eqv_self d h.1, eqvAll_self ds h.2]
    rfl
end
theorem wd_ok : PyData.strOk "leaf" = true ∧ PyData.strOk "row" = true ∧ PyData.strOk "pick" = true ∧ PyData.strOk "times" = true ∧ PyData.strOk "none" = true := by decide +kernel
mutual
theorem lay_dat : ∀ q : Rdg, q.dat.canLay0 = true
  | .leaf => by simp [Rdg.dat, PyData.canLay0, PyData.canLayAll0, wd_ok.1]
  | .row ps => by simp [Rdg.dat, PyData.canLay0, PyData.canLayAll0, wd_ok.2.1, lay_datP ps]
  | .pick k q => by simp [Rdg.dat, PyData.canLay0, PyData.canLayAll0, wd_ok.2.2.1, lay_dat q]
  | .times qs => by simp [Rdg.dat, PyData.canLay0, PyData.canLayAll0, wd_ok.2.2.2.1, lay_datL qs]
theorem lay_datP : ∀ ps : List (Nat × Rdg), PyData.canLayAll0 (Rdg.datP ps) = true
  | [] => by simp [Rdg.datP, PyData.canLayAll0]
  | (k, q) :: ps => by simp [Rdg.datP, PyData.canLay0, PyData.canLayAll0, lay_dat q, lay_datP ps]
theorem lay_datL : ∀ qs : List Rdg, PyData.canLayAll0 (Rdg.datL qs) = true
  | [] => by simp [Rdg.datL, PyData.canLayAll0]
  | q :: qs => by simp [Rdg.datL, PyData.canLayAll0, lay_dat q, lay_datL qs]
end
/-! ### readings as data: how great -/
theorem ek_leaf : ekB (.str "leaf") = true ∧ ekB (.str "row") = true ∧ ekB (.str "pick") = true ∧ ekB (.str "times") = true := by decide +kernel
theorem ek_natA {n : Nat} (h : n ≤ 200) : ekB (.int (n : Int)) = true := by
  rw [ekB, decide_eq_true (show (-10 : Int) ≤ (n : Int) by omega), decide_eq_true (show (n : Int) ≤ 201 by omega)]
  rfl
theorem okAll_gr {p : Fm} {c e : Nat} (h : ∀ (q : Rdg) (r : RowS), q.ok p r → r.length ≤ 200 → ekB q.dat = true ∧ ndD q.dat ≤ c * r.length ∧ q.dat.depth ≤ e) : ∀ (qs : List Rdg) (r : RowS), Rdg.okAll qs p r → r.length ≤ 200 →
    eks (Rdg.datL qs) = true ∧ nds (Rdg.datL qs) ≤ c * r.length ∧ PyData.depthAll (Rdg.datL qs) ≤ e ∧ (Rdg.datL qs).length ≤ r.length
  | [], r, hk, hr => by simp [Rdg.datL, eks, nds, PyData.depthAll]
  | q :: qs, r, hk, hr => by
    rw [Rdg.okAll] at hk
    obtain ⟨r1, r2, rfl, h1, h2⟩ := hk
    rw [List.length_append] at hr
    obtain ⟨a1, a2, a3⟩ := h q r1 h1 (by omega)
    obtain ⟨b1, b2, b3, b4⟩ := okAll_gr h qs r2 h2 (by omega)
    have hp : 0 < r1.length := List.length_pos_iff.mpr (ok_ne q p r1 h1)
    refine ⟨by rw [Rdg.datL, eks, a1, b1]; rfl, ?_, ?_, ?_⟩
    · rw [Rdg.datL, nds, List.length_append, Nat.mul_add]
      omega
    · rw [Rdg.datL, PyData.depthAll]
      omega
    · rw [Rdg.datL, List.length_cons, List.length_append]
      omega
theorem okRow_gr {ps : List Fm} {c e : Nat} (hps : ps.length ≤ 200) (h : ∀ (p : Fm), p ∈ ps → ∀ (q : Rdg) (r : RowS), q.ok p r → r.length ≤ 200 → ekB q.dat = true ∧ ndD q.dat ≤ c * r.length ∧ q.dat.depth ≤ e) : ∀ (prs : List (Nat × Rdg)) (lo : Nat) (r : RowS),
    Rdg.okRow prs ps lo ps.length r → r.length ≤ 200 → eks (Rdg.datP prs) = true ∧ nds (Rdg.datP prs) ≤ (c + 2) * r.length ∧ PyData.depthAll (Rdg.datP prs) ≤ e + 1 ∧ (Rdg.datP prs).length ≤ r.length
  | [], lo, r, hk, hr => by simp [Rdg.datP, eks, nds, PyData.depthAll]
  | (j, q) :: prs, lo, r, hk, hr => by
    rw [Rdg.okRow] at hk
    obtain ⟨h1, h2, h3, p, r1, r2, h4, rfl, h5, h6⟩ := hk
    rw [List.length_append] at hr
    obtain ⟨a1, a2, a3⟩ := h p (List.mem_of_getElem? h4) q r1 h5 (by omega)
    obtain ⟨b1, b2, b3, b4⟩ := okRow_gr hps h prs (j + 1) r2 h6 (by omega)
    have hp : 0 < r1.length := List.length_pos_iff.mpr (ok_ne q p r1 h5)
    refine ⟨?_, ?_, ?_, ?_⟩
    · rw [Rdg.datP, eks, b1, ekB, eks, eks, eks, a1, ek_natA (by omega)]
      rfl
    · rw [Rdg.datP, nds, List.length_append, Nat.mul_add, Nat.add_mul c 2 r1.length]
      simp only [ndD, nds]
      omega
    · rw [Rdg.datP, PyData.depthAll]
      simp only [PyData.depth, PyData.depthAll]
      omega
    · rw [Rdg.datP, List.length_cons, List.length_append]
      omega
theorem rdg_gr : ∀ (n : Nat) (f : Fm) (q : Rdg) (r : RowS), Lw n f → q.ok f r → r.length ≤ 200 → ekB q.dat = true ∧ ndD q.dat ≤ (5 * n + 5) * r.length ∧ q.dat.depth ≤ 3 * n + 3
  | n, .sign s, q, r, hw, hq, hr => by
    cases q with
    | leaf =>
      rw [Rdg.ok] at hq
      subst hq
      refine ⟨by rw [Rdg.dat, ekB, eks, eks, ek_leaf.1]; rfl, ?_, ?_⟩
      · simp only [Rdg.dat, ndD, nds, List.length_singleton]
        omega
      · simp only [Rdg.dat, PyData.depth, PyData.depthAll]
        omega
    | row _ => rw [Rdg.ok] at hq; exact hq.elim; all_goals intros; contradiction
    | pick _ _ => rw [Rdg.ok] at hq; exact hq.elim; all_goals intros; contradiction
    | times _ => rw [Rdg.ok] at hq; exact hq.elim; all_goals intros; contradiction
  | 0, .row ps, q, r, hw, hq, hr => hw.elim
  | 0, .pick ps, q, r, hw, hq, hr => hw.elim
  | 0, .times p l h, q, r, hw, hq, hr => hw.elim
  | n + 1, .pick ps, q, r, hw, hq, hr => by
    have hw' : 1 ≤ ps.length ∧ ps.length ≤ 3 ∧ ∀ p, p ∈ ps → Lw n p := hw
    have hp : 0 < r.length := List.length_pos_iff.mpr (ok_ne q _ r hq)
    cases q with
    | pick k q =>
      rw [Rdg.ok] at hq
      obtain ⟨p, h1, h2⟩ := hq
      obtain ⟨a1, a2, a3⟩ := rdg_gr n p q r (hw'.2.2 p (List.mem_of_getElem? h1)) h2 hr
      have hk := (List.getElem?_eq_some_iff.mp h1).1
      refine ⟨by rw [Rdg.dat, ekB, eks, eks, eks, eks, ek_leaf.2.2.1, ek_natA (by omega), a1]; rfl, ?_, ?_⟩
      · have e : (5 * (n + 1) + 5) * r.length = (5 * n + 5) * r.length + 5 * r.length := by rw [← Nat.add_mul]; congr 1
        rw [e]
        simp only [Rdg.dat, ndD, nds]
        omega
      · simp only [Rdg.dat, PyData.depth, PyData.depthAll]
        omega
    | leaf => rw [Rdg.ok] at hq; exact hq.elim; all_goals intros; contradiction
    | row _ => rw [Rdg.ok] at hq; exact hq.elim; all_goals intros; contradiction
    | times _ => rw [Rdg.ok] at hq; exact hq.elim; all_goals intros; contradiction
  | n + 1, .row ps, q, r, hw, hq, hr => by
    have hw' : ps.length ≤ 3 ∧ ∀ p, p ∈ ps → Lw n p := hw
    have hp : 0 < r.length := List.length_pos_iff.mpr (ok_ne q _ r hq)
    cases q with
    | row prs =>
      rw [Rdg.ok] at hq
      obtain ⟨a1, a2, a3, a4⟩ := okRow_gr (by omega) (fun p hp q r h1 h2 => rdg_gr n p q r (hw'.2 p hp) h1 h2) prs 0 r hq.2 hr
      have w : ekB (.tuple (Rdg.datP prs)) = true := by
        rw [ekB, a1, decide_eq_true (show (Rdg.datP prs).length ≤ 250 by omega)]
        rfl
      refine ⟨by rw [Rdg.dat, ekB, eks, eks, eks, ek_leaf.2.1, w]; rfl, ?_, ?_⟩
      · have e : (5 * (n + 1) + 5) * r.length = (5 * n + 5 + 2) * r.length + 3 * r.length := by rw [← Nat.add_mul]; congr 1
        rw [e]
        simp only [Rdg.dat, ndD, nds]
        omega
      · simp only [Rdg.dat, PyData.depth, PyData.depthAll]
        omega
    | leaf => rw [Rdg.ok] at hq; exact hq.elim; all_goals intros; contradiction
    | pick _ _ => rw [Rdg.ok] at hq; exact hq.elim; all_goals intros; contradiction
    | times _ => rw [Rdg.ok] at hq; exact hq.elim; all_goals intros; contradiction
  | n + 1, .times p low high, q, r, hw, hq, hr => by
    have hw' : Lw n p ∧ low ≤ 3 ∧ ∀ h, high = some h → low ≤ h ∧ h ≤ 12 := hw
    have hp : 0 < r.length := List.length_pos_iff.mpr (ok_ne q _ r hq)
    cases q with
    | times qs =>
      rw [Rdg.ok] at hq
      obtain ⟨a1, a2, a3, a4⟩ := okAll_gr (fun q r h1 h2 => rdg_gr n p q r hw'.1 h1 h2) qs r hq.2.2.2 hr
      have w : ekB (.tuple (Rdg.datL qs)) = true := by
        rw [ekB, a1, decide_eq_true (show (Rdg.datL qs).length ≤ 250 by omega)]
        rfl
      refine ⟨by rw [Rdg.dat, ekB, eks, eks, eks, ek_leaf.2.2.2, w]; rfl, ?_, ?_⟩
      · have e : (5 * (n + 1) + 5) * r.length = (5 * n + 5) * r.length + 5 * r.length := by rw [← Nat.add_mul]; congr 1
        rw [e]
        simp only [Rdg.dat, ndD, nds]
        omega
      · simp only [Rdg.dat, PyData.depth, PyData.depthAll]
        omega
    | leaf => rw [Rdg.ok] at hq; exact hq.elim; all_goals intros; contradiction
    | row _ => rw [Rdg.ok] at hq; exact hq.elim; all_goals intros; contradiction
    | pick _ _ => rw [Rdg.ok] at hq; exact hq.elim; all_goals intros; contradiction
end Sw
set_option Elab.async false
set_option maxRecDepth 100000
set_option maxHeartbeats 8000000
namespace Sw
open PySem L2 PySem.Spec PyProof.Rows
/-! ### a reading made from the left -/
theorem okRow_skip {ps : List Fm} {i : Nat} {p : Fm} (hp : ps[i]? = some p) (hn : p.nothing = true) : ∀ {prs : List (Nat × Rdg)} {lo : Nat} {r : RowS}, Rdg.okRow prs ps lo i r → Rdg.okRow prs ps lo (i + 1) r
  | [], lo, r, h => by
    rw [Rdg.okRow] at h ⊢
    refine ⟨h.1, fun j p' h1 h2 h3 => ?_⟩
    rcases Nat.lt_or_ge j i with h4 | h4
    · exact h.2 j p' h1 h4 h3
    · have : j = i := by omega
      subst this
      rw [hp] at h3
      cases h3
      exact hn
  | (j, q) :: prs, lo, r, h => by
    rw [Rdg.okRow] at h ⊢
    obtain ⟨h1, h2, h3, p', r1, r2, h4, h5, h6, h7⟩ := h
    exact ⟨h1, by omega, h3, p', r1, r2, h4, h5, h6, okRow_skip hp hn h7⟩
theorem okRow_snoc {ps : List Fm} {i : Nat} {p : Fm} {q : Rdg} {s : RowS} (hp : ps[i]? = some p) (hq : q.ok p s) : ∀ {prs : List (Nat × Rdg)} {lo : Nat} {r : RowS}, lo ≤ i → Rdg.okRow prs ps lo i r → Rdg.okRow (prs ++ [(i, q)]) ps lo (i + 1) (r ++ s)
  | [], lo, r, hl, h => by
    rw [Rdg.okRow] at h
    rw [List.nil_append, Rdg.okRow]
    refine ⟨hl, by omega, fun j p' h1 h2 h3 => h.2 j p' h1 h2 h3, p, s, [], hp, by rw [h.1, List.append_nil]; rfl, hq, ?_⟩
    rw [Rdg.okRow]
    exact ⟨rfl, fun j p' h1 h2 _ => absurd h1 (by omega)⟩
  | (j, q') :: prs, lo, r, hl, h => by
    rw [Rdg.okRow] at h
    rw [List.cons_append, Rdg.okRow]
    obtain ⟨h1, h2, h3, p', r1, r2, h4, rfl, h6, h7⟩ := h
    exact ⟨h1, by omega, h3, p', r1, r2 ++ s, h4, by rw [List.append_assoc], h6, okRow_snoc hp hq (by omega) h7⟩
theorem okAll_snoc {p : Fm} {q : Rdg} {s : RowS} (hq : q.ok p s) : ∀ {qs : List Rdg} {r : RowS}, Rdg.okAll qs p r → Rdg.okAll (qs ++ [q]) p (r ++ s)
  | [], r, h => by
    rw [Rdg.okAll] at h
    subst h
    rw [List.nil_append, List.nil_append, Rdg.okAll]
    exact ⟨s, [], by rw [List.append_nil], hq, by rw [Rdg.okAll]⟩
  | q' :: qs, r, h => by
    rw [Rdg.okAll] at h
    obtain ⟨r1, r2, rfl, h1, h2⟩ := h
    rw [List.cons_append, Rdg.okAll]
    exact ⟨r1, r2 ++ s, by rw [List.append_assoc], h1, okAll_snoc hq h2⟩
/-- what is read so far -/
def PreR : Fm → Nat → List (Nat × Rdg) → RowS → Prop
  | .row ps, i, prs, r => Rdg.okRow prs ps 0 i r
  | .times p _ _, i, prs, r => ∃ qs : List Rdg, prs = qs.map (fun q => (0, q)) ∧ Rdg.okAll qs p r ∧ qs.length ≤ i ∧ (p.nothing = false → qs.length = i)
  | _, _, _, _ => False
def ixR : Fm → Nat → Nat
  | .row _, k => k
  | _, _ => 0
def ptR : Fm → Nat → Option Fm
  | .row ps, k => ps[k]?
  | .times p _ _, _ => some p
  | _, _ => none
def elD : Fm → Nat × Rdg → PyData
  | .row _, p => .tuple [.int (p.1 : Int), p.2.dat]
  | _, p => p.2.dat
theorem noL_elD (f : Fm) (p : Nat × Rdg) : noL (elD f p) = true := by
  unfold elD
  split
  · simp [noL, noLs, noL_dat]
  · exact noL_dat _
theorem noLs_elD (f : Fm) (prs : List (Nat × Rdg)) : noLs (prs.map (elD f)) = true := noLs_map (elD f) (noL_elD f) prs
theorem PreR.nil {f : Fm} (h : (∃ ps, f = .row ps) ∨ ∃ p l u, f = .times p l u) : PreR f 0 [] [] := by
  rcases h with ⟨ps, rfl⟩ | ⟨p, l, u, rfl⟩
  · show Rdg.okRow [] ps 0 0 []
    rw [Rdg.okRow]
    exact ⟨rfl, fun i p _ h _ => absurd h (by omega)⟩
  · exact ⟨[], rfl, by rw [Rdg.okAll], Nat.le_refl _, fun _ => rfl⟩
theorem PreR.skip {f g : Fm} {i : Nat} {prs : List (Nat × Rdg)} {r : RowS} (h : PreR f i prs r) (hg : ptR f i = some g) (hn : g.nothing = true) : PreR f (i + 1) prs r := by
  cases f with
  | row ps => exact okRow_skip hg hn h
  | times p l u =>
    obtain ⟨qs, h1, h2, h3, h4⟩ := h
    have e : p = g := Option.some.inj hg
    subst e
    exact ⟨qs, h1, h2, by omega, fun z => by rw [hn] at z; cases z⟩
  | sign x => exact h.elim
  | pick ps => exact h.elim
theorem PreR.snoc {f g : Fm} {i : Nat} {prs : List (Nat × Rdg)} {r s : RowS} {q : Rdg} (h : PreR f i prs r) (hg : ptR f i = some g) (hq : q.ok g s) : PreR f (i + 1) (prs ++ [(ixR f i, q)]) (r ++ s) := by
  cases f with
  | row ps => exact okRow_snoc hg hq (Nat.zero_le _) h
  | times p l u =>
    obtain ⟨qs, rfl, h2, h3, h4⟩ := h
    have e : p = g := Option.some.inj hg
    subst e
    exact ⟨qs ++ [q], by rw [List.map_append]; rfl, okAll_snoc hq h2, by rw [List.length_append, List.length_singleton]; omega, fun z => by rw [List.length_append, List.length_singleton, h4 z]⟩
  | sign x => exact h.elim
  | pick ps => exact h.elim
/-- a reading, or none where nothing is taken -/
def Mk (f : Fm) (r : RowS) (oq : Option Rdg) : Prop := (oq = none ∧ r = [] ∧ f.nothing = true) ∨ ∃ q, oq = some q ∧ q.ok f r
def finR (f : Fm) (prs : List (Nat × Rdg)) : Option Rdg := if prs = [] then none else match f with
  | .row _ => some (.row prs)
  | _ => some (.times (prs.map Prod.snd))
def upTo (f : Fm) (many : Nat) : Prop := match f with
  | .row ps => many = ps.length
  | .times _ low high => low ≤ many ∧ ∀ h, high = some h → many ≤ h
  | _ => False
theorem mapSnd0 (qs : List Rdg) : (qs.map fun q => ((0 : Nat), q)).map Prod.snd = qs := by
  rw [List.map_map]
  induction qs with
  | nil => rfl
  | cons q qs ih => rw [List.map_cons, ih]; rfl
theorem PreR.fin {f : Fm} {many : Nat} {prs : List (Nat × Rdg)} {r : RowS} (h : PreR f many prs r) (hm : upTo f many) : Mk f r (finR f prs) := by
  unfold finR
  cases f with
  | row ps =>
    have hm' : many = ps.length := hm
    subst hm'
    have h' : Rdg.okRow prs ps 0 ps.length r := h
    by_cases e : prs = []
    · subst e
      rw [if_pos rfl]
      rw [Rdg.okRow] at h'
      refine .inl ⟨rfl, h'.1, ?_⟩
      rw [Fm.nothing, allN_eq, List.all_map, List.all_eq_true]
      intro p hp
      obtain ⟨i, hi⟩ := List.mem_iff_getElem?.mp hp
      exact h'.2 i p (Nat.zero_le _) (List.getElem?_eq_some_iff.mp hi).1 hi
    · rw [if_neg e]
      exact .inr ⟨_, rfl, by rw [Rdg.ok]; exact ⟨e, h'⟩⟩
  | times p low high =>
    obtain ⟨qs, rfl, h2, h3, h4⟩ := h
    obtain ⟨m1, m2⟩ := hm
    rw [mapSnd0]
    by_cases e : qs = []
    · subst e
      simp only [List.map_nil, if_true]
      rw [Rdg.okAll] at h2
      refine .inl ⟨rfl, h2, ?_⟩
      rw [Fm.nothing]
      cases hn : p.nothing with
      | true => rw [Bool.or_true]
      | false =>
        have := h4 hn
        have hl : low = 0 := by
          have : many = 0 := this.symm
          omega
        rw [hl]
        rfl
    · rw [if_neg (fun z => e (List.map_eq_nil_iff.mp z))]
      refine .inr ⟨_, rfl, ?_⟩
      rw [Rdg.ok]
      refine ⟨e, ?_, fun h' e' => by have := m2 h' e'; omega, h2⟩
      unfold few
      have hl : 0 < qs.length := List.length_pos_iff.mpr e
      split
      · omega
      · rename_i hn
        have := h4 (eq_false_of_ne_true hn)
        omega
  | sign x => exact h.elim
  | pick ps => exact h.elim
theorem finR_lv {f : Fm} {prs : List (Nat × Rdg)} (h : (∃ ps, f = .row ps) ∨ ((∃ p l u, f = .times p l u) ∧ ∃ qs : List Rdg, prs = qs.map fun q => (0, q))) : lvO f (finR f prs) = lvP f prs [] := by
  unfold finR
  by_cases e : prs = []
  · subst e
    rw [if_pos rfl, lvP]
    rfl
  · rw [if_neg e]
    rcases h with ⟨ps, rfl⟩ | ⟨⟨p, l, u, rfl⟩, qs, rfl⟩
    · show lv _ _ [] = _
      rw [lv]
      rfl
    · rw [mapSnd0]
      show lv _ _ [] = _
      rw [lv, lvL_P]
      rfl
theorem PreR.lv {f : Fm} {many : Nat} {prs : List (Nat × Rdg)} {r : RowS} (h : PreR f many prs r) : lvO f (finR f prs) = lvP f prs [] := by
  cases f with
  | row ps => exact finR_lv (.inl ⟨_, rfl⟩)
  | times p l u =>
    obtain ⟨qs, h1, _⟩ := h
    exact finR_lv (.inr ⟨⟨_, _, _, rfl⟩, qs, h1⟩)
  | sign x => exact h.elim
  | pick ps => exact h.elim
theorem PreR.dat {f : Fm} {many : Nat} {prs : List (Nat × Rdg)} {r : RowS} (h : PreR f many prs r) (he : prs ≠ []) : datO (finR f prs) = .tuple [.str f.kind, .tuple (prs.map (elD f))] := by
  unfold finR
  rw [if_neg he]
  cases f with
  | row ps =>
    show PyData.tuple [.str "row", .tuple (Rdg.datP prs)] = _
    rw [datP_map]
    rfl
  | times p l u =>
    show PyData.tuple [.str "times", .tuple (Rdg.datL (prs.map Prod.snd))] = _
    rw [datL_map, List.map_map]
    rfl
  | sign x => exact h.elim
  | pick ps => exact h.elim
theorem PreR.datN {f : Fm} : datO (finR f []) = .none := by
  unfold finR
  rw [if_pos rfl]
  rfl
theorem lay_elD (f : Fm) (p : Nat × Rdg) : (elD f p).canLay0 = true := by
  unfold elD
  split
  · simp [PyData.canLay0, PyData.canLayAll0, lay_dat]
  · exact lay_dat _
theorem lays_elD (f : Fm) : ∀ prs : List (Nat × Rdg), PyData.canLayAll0 (prs.map (elD f)) = true
  | [] => by simp [PyData.canLayAll0]
  | p :: prs => by rw [List.map_cons, PyData.canLayAll0, lay_elD, lays_elD f prs]; rfl
theorem depths_map {α : Type} (g : α → PyData) (n : Nat) : ∀ l : List α, (∀ a, a ∈ l → (g a).depth ≤ n) → PyData.depthAll (l.map g) ≤ n
  | [], _ => by simp [PyData.depthAll]
  | a :: l, h => by
    rw [List.map_cons, PyData.depthAll]
    have h1 := h a List.mem_cons_self
    have h2 := depths_map g n l fun b hb => h b (List.mem_cons_of_mem _ hb)
    omega
theorem depth_elD {f : Fm} {n : Nat} {many : Nat} {prs : List (Nat × Rdg)} {r : RowS} (h : PreR f many prs r) (hm : upTo f many) (hw : Lw n f) (hr : r.length ≤ 200) (hn : n ≤ 10) : SeqAt.shaped (.tuple (prs.map (elD f))) = true := by
  have h1 : PyData.depth (.tuple (prs.map (elD f))) ≤ 3 * n + 4 := by
    by_cases e : prs = []
    · subst e
      simp [PyData.depth, PyData.depthAll]
    · have h2 := h.dat e
      rcases h.fin hm with ⟨h3, _⟩ | ⟨q, h3, h4⟩
      · rw [h3] at h2; cases h2
      · rw [h3] at h2
        have h5 := (rdg_gr n f q r hw h4 hr).2.2
        have h6 : q.dat.depth = _ := congrArg PyData.depth h2
        rw [PyData.depth, PyData.depthAll, PyData.depthAll, PyData.depthAll] at h6
        omega
  unfold SeqAt.shaped
  rw [PyData.canLay0, lays_elD f prs, decide_eq_true (by omega)]
  rfl
theorem eqv_nil (f : Fm) (prs : List (Nat × Rdg)) : PyData.eqv (.tuple (prs.map (elD f))) (.tuple []) = decide (prs = []) := by
  cases prs with
  | nil => simp [PyData.eqv, PyData.eqvAll]
  | cons p prs => simp [PyData.eqv, PyData.eqvAll]
end Sw
set_option Elab.async false
set_option maxRecDepth 100000
set_option maxHeartbeats 16000000
namespace Sw
open PySem L2 PySem.Spec PyProof.Rows
structure OutR (K : PySem.W.Frag) (H : Hp) (f : Fm) (n : Nat) (u : V) (rv L : Addr) (oq : Option Rdg) (r : RowS) (ws : List V) : Prop where
  u : Dp K H u (datO oq)
  row : SqT K H rv (r.map V.str)
  ok : ∀ x, x ∈ r → okS x
  len : r.length ≤ 5 ^ n
  lst : H L = some (.lst ws)
  sp : DpAll K H ws ((lvO f oq).map plD)
  wl : ws.length ≤ 5 ^ n
  pw : ∀ pl, pl ∈ lvO f oq → pl.length ≤ n
theorem noLs_pl (l : List (List Nat)) : noLs (l.map plD) = true := noLs_map plD noL_pl l
theorem noL_datO (q : Option Rdg) : noL (datO q) = true := by
  cases q with
  | none => simp [datO, noL]
  | some q => exact noL_dat q
theorem sqTBd {K : PySem.W.Frag} {H H' : Hp} {p a : Addr} {kvs : List (Key × V)} {xs : List V} (b : But p H H') (hp : H p = some (.dK kvs)) (h : SqT K H a xs) : SqT K H' a xs := by
  rcases h with h | h
  · rcases h with h | ⟨o, h⟩
    · exact .inl (.inl (b _ _ h fun e => by rw [e, hp] at h; cases h))
    · exact .inl (.inr ⟨o, b _ _ h fun e => by rw [e, hp] at h; cases h⟩)
  · exact .inr h
theorem dpD {K : PySem.W.Frag} {H H' : Hp} {st sp : Addr} (h : StateAt H st sp) (b : But st H H') {v : V} {d : PyData} (n : noL d = true) (hd : Dp K H v d) : Dp K H' v d := dpSameT (fun _ _ q => sqTD h b q) d v n hd
theorem dpAllD {K : PySem.W.Frag} {H H' : Hp} {st sp : Addr} (h : StateAt H st sp) (b : But st H H') {vs : List V} {ds : List PyData} (n : noLs ds = true) (hd : DpAll K H vs ds) : DpAll K H' vs ds := dpAllSameT (fun _ _ q => sqTD h b q) ds vs n hd
def forBody : Stmt → List Stmt
  | .For _ _ body _ _ => body
  | _ => []
structure LpI (K : PySem.W.Frag) (H1 H : Hp) (f : Fm) (n : Nat) (st sp sa fa wa : Addr) (i : Nat) (prs : List (Nat × Rdg)) (r : RowS) (vs ws : List V) : Prop where
  b : But st H1 H
  S : StateAt H st sp
  sm : SqT K H sa vs
  sd : DpAll K H vs (prs.map (elD f))
  row : SqT K H fa (r.map V.str)
  ok : ∀ x, x ∈ r → okS x
  rl : r.length ≤ i * 5 ^ n
  wr : H wa = some (.lst ws)
  wd : DpAll K H ws ((lvP f prs []).map plD)
  wl : ws.length ≤ i * 5 ^ n
  vl : vs.length ≤ i
  pw : ∀ pl, pl ∈ lvP f prs [] → pl.length ≤ n + 1
  pre : PreR f i prs r
def spReadL (K : PySem.W.Frag) (n : Nat) : Sp := fun vs H Q _ => ∃ (st sp : Addr) (v : V) (f : Fm), vs = [.ref st, v] ∧ StateAt H st sp ∧ FmAt K H v f ∧ Lw n f ∧
  ∀ (H' : Hp) (D : Addr) (u : V) (rv L : Addr) (oq : Option Rdg) (r : RowS) (ws : List V), But st H H' → StateAt H' st sp → H' D = some (.tup [u, .ref rv, .ref L]) → OutR K H' f n u rv L oq r ws → Mk f r oq → Q (.ref D) H'
def spLeast (K : PySem.W.Frag) (n : Nat) : Sp := fun vs H Q _ => ∃ (v : V) (f : Fm), vs = [v] ∧ FmAt K H v f ∧ Lw n f ∧
  ∀ (H' : Hp) (D : Addr) (u : V) (rv L : Addr) (oq : Option Rdg) (r : RowS) (ws : List V), Same H H' → H' D = some (.tup [u, .ref rv, .ref L]) → OutR K H' f n u rv L oq r ws → Mk f r oq → Q (.ref D) H'
theorem lv_cons (k : Nat) (q : Rdg) (f : Fm) : (lv f q []).map (k :: ·) = (lv f q []).map ([k] ++ ·) := rfl
theorem pl_cons {K : PySem.W.Frag} {H : Hp} {q : Addr} {k : Nat} {pl : List Nat} {xs : List V} (h : SqT K H q ([.int (k : Int)] ++ xs)) (hx : DpAll K H xs (pl.map fun j : Nat => PyData.int (j : Int))) : Dp K H (.ref q) (plD (k :: pl)) := .tup h (.cons (.int _) hx)
theorem pow5_pos (n : Nat) : 1 ≤ 5 ^ n := Nat.one_le_pow _ _ (by decide)
theorem noLs_app : ∀ {a b : List PyData}, noLs a = true → noLs b = true → noLs (a ++ b) = true
  | [], b, _, h => h
  | d :: a, b, h, h2 => by
    rw [noLs, Bool.and_eq_true] at h
    rw [List.cons_append, noLs, h.1, noLs_app h.2 h2]
    rfl
section
variable {P : Program} {w : World} {K : PySem.W.Frag} {mg : Str → Option Value} {base : Heap}
abbrev n_law_read : List Str := ["state", "form", "cell", "k", "inner", "row", "spots", "spot", "some", "found", "where", "many", "part"]
theorem sc_law_read : FnScope n_law_read ["state", "form"] (defScope s_law_read) := ⟨rfl, rfl, rfl, by decide +kernel, rfl, by decide +kernel, by decide +kernel⟩
theorem ok_law_read0 (F : DefAt K mg "_law_read" s_law_read ["state", "form"]) (d__law_cell : DefOk P w K mg base "_law_cell" 1 ["state"] spCell) : DefOk P w K mg base "_law_read" 2 ["state", "form"] (spReadL K 0) := by
  refine F.ok sc_law_read (fun vs H Q E h => ?_) (fun fA cdv A outer s H vs Q E hr h => ?_)
  · obtain ⟨_, _, _, _, rfl, _⟩ := h
    rfl
  obtain ⟨st, sp, v, f, rfl, S, hf, hw, k⟩ := h
  refine ⟨_, (pss_cons (ps_set (i := 2) sc_law_read.nd rfl (Or.inl rfl) (pe_callD d__law_cell (hr.mono (by decide)) rfl (pa_cons (pv 0) pa_nil)))
    (pss_cons (ps_if (pt_cmpR op_eq (pe_ix ix_tup (pv 1) pe_int (fun _ _ => rfl)) pe_str (nomark _)) (pss_one (ps_ret (pe_tup (pa_cons (pe_tup (pa_cons pe_str pa_nil)) (pa_cons (pe_tup (pa_cons (pe_ix ix_tup (pv 1) pe_int (fun _ _ => rfl)) pa_nil)) (pa_cons (pe_lst (pa_cons (pe_tup pa_nil) pa_nil)) pa_nil)))))) pss_nil)
    pss_never)), ?_⟩
  refine ⟨_, rfl, st, sp, rfl, S, fun H1 c b1 S1 => ?_⟩
  cases f with
  | sign x =>
    obtain ⟨a, rfl, ht⟩ := fmSign (fmD S b1 hf)
    refine ⟨_, rfl, a, _, 0, _, rfl, rfl, ht, atI_nat (j := 0) rfl, rfl, _, rfl, iteT ?_⟩
    refine ⟨(by show 1 ≤ sizeLine; decide), fun p1 n1 => ?_⟩
    have s1 : Same H1 (upd H1 p1 (.tup [.str "leaf"])) := .new n1
    refine ⟨_, rfl, a, _, 1, _, rfl, rfl, s1.sqT ht, atI_nat (j := 1) rfl, (by show 1 ≤ sizeLine; decide), fun p2 n2 => ⟨(by show 0 ≤ sizeLine; decide), fun p3 n3 => ⟨(by show 1 ≤ sizeLine; decide), fun L nL => ⟨(by show 3 ≤ sizeLine; decide), fun D nD => ?_⟩⟩⟩⟩
    have e2 := Same.new n2 (o := .tup [.str x])
    have e3 := Same.new n3 (o := .tup [])
    have e4 := Same.new nL (o := .lst [.ref p3])
    have e5 := Same.new nD (o := .tup [.ref p1, .ref p2, .ref L])
    have sA := (((s1.trans e2).trans e3).trans e4).trans e5
    refine k _ D (.ref p1) p2 L (some .leaf) [x] [.ref p3] (b1.trans (.of sA)) (S1.same sA) upd_same ⟨?_, ?_, ?_, ?_, ?_, ?_, ?_, ?_⟩ (.inr ⟨.leaf, rfl, by rw [Rdg.ok]⟩)
    · exact .tup (sT (((e2.trans e3).trans e4).trans e5 _ _ upd_same)) (.cons (.str _) .nil)
    · exact sT (((e3.trans e4).trans e5) _ _ upd_same)
    · intro y hy
      rw [List.mem_singleton.mp hy]
      exact hw
    · exact pow5_pos _
    · exact e5 _ _ upd_same
    · show DpAll K _ [.ref p3] ((lv (.sign x) .leaf []).map plD)
      rw [lv_sign]
      exact .cons (.tup (sT ((e4.trans e5) _ _ upd_same)) .nil) .nil
    · exact pow5_pos _
    · intro pl hpl
      have hpl' : pl ∈ lv (.sign x) .leaf [] := hpl
      rw [lv_sign] at hpl'
      rw [List.mem_singleton.mp hpl']
      exact Nat.zero_le _
  | row ps => exact hw.elim
  | pick ps => exact hw.elim
  | times p low high => exact hw.elim
theorem ok_law_readS (n : Nat) (hn : n ≤ 2) (F : DefAt K mg "_law_read" s_law_read ["state", "form"]) (d__law_cell : DefOk P w K mg base "_law_cell" 1 ["state"] spCell) {lr : Nat} (hlr : 7 ≤ lr) (d__law_read : DefOk P w K mg base "_law_read" lr ["state", "form"] (spReadL K n)) (d__law_least : DefOk P w K mg base "_law_least" (lr + 1) ["form"] (spLeast K n))
    (d__law_nothing : DefOk P w K mg base "_law_nothing" 6 ["form"] (spNothing K 5)) (d__law_often : DefOk P w K mg base "_law_often" 1 ["form", "cell"] (spOften K)) (b_len : mg "len" = none) (b_range : mg "range" = none) : DefOk P w K mg base "_law_read" (lr + 2) ["state", "form"] (spReadL K (n + 1)) := by
  refine F.ok sc_law_read (fun vs H Q E h => ?_) (fun fA cdv A outer s H vs Q E hr h => ?_)
  · obtain ⟨_, _, _, _, rfl, _⟩ := h
    rfl
  obtain ⟨st, sp, v, f, rfl, S, hf, hw, k⟩ := h
  have h5 : 5 ^ n ≤ 25 := Nat.le_trans (Nat.pow_le_pow_right (by decide) hn) (by decide)
  have h5s : 5 ^ (n + 1) = 5 * 5 ^ n := by rw [Nat.pow_succ]; omega
  have h51 := pow5_pos n
  -- what is found is put in
  obtain ⟨t3, h3, f3⟩ : ∃ t3, PSs (cxOf CX0 P w K mg base n_law_read "_law_read" (defScope s_law_read) fA cdv A outer s H E).nox ((forBody ((defBody s_law_read).getD 7 (.Pass ⟨0, 0, 0, 0⟩))).drop 3) t3 ∧
      ∀ (D : Ends) (H1 H4 : Hp) (c : Int) (i many : Nat) (u x : V) (rv L sa fa wa a : Addr) (rest : List V) (g : Fm) (oq : Option Rdg) (r3 : RowS) (ws3 : List V) (prs : List (Nat × Rdg)) (r : RowS) (vs ws : List V), (∀ ps, f ≠ .pick ps) → v = .ref a → SqT K H1 a (.str f.kind :: rest) → StateAt H1 st sp → H1 wa = none → i ≤ 4 →
        LpI K H1 H4 f n st sp sa fa wa i prs r vs ws → OutR K H4 g n u rv L oq r3 ws3 → Mk g r3 oq → ptR f i = some g →
        (∀ (H' : Hp) (sa' fa' : Addr) (prs' : List (Nat × Rdg)) (r' : RowS) (vs' ws' : List V), LpI K H1 H' f n st sp sa' fa' wa (i + 1) prs' r' vs' ws' → D.nx [some (.ref st), some v, some (.int c), some (.int (i : Int)), some u, some (.ref rv), some (.ref L), none, some (.ref sa'), some (.ref fa'), some (.ref wa), some (.int (many : Int)), some x] H') →
        t3 D [some (.ref st), some v, some (.int c), some (.int (i : Int)), some u, some (.ref rv), some (.ref L), none, some (.ref sa), some (.ref fa), some (.ref wa), some (.int (many : Int)), some x] H4 := by
    refine ⟨_, (pss_one (ps_if (pt_cmp (pc_notN (pv 4)) rfl) (pss_cons (ps_set (i := 8) sc_law_read.nd rfl (Or.inl rfl) (pe_op op_catA (pv 8) (pe_tup (pa_cons (pe_ifExp (pt_cmpR op_eq (pe_ix ix_tup (pv 1) pe_int (fun _ _ => rfl)) pe_str (nomark _)) (pe_tup (pa_cons (pv 3) (pa_cons (pv 4) pa_nil))) (pv 4)) pa_nil))))
      (pss_cons (ps_set (i := 9) sc_law_read.nd rfl (Or.inl rfl) (pe_op op_catA (pv 9) (pv 5)))
      (pss_one (ps_expr (pe_bm PySem.F.plainAttrs_list PySem.F.slot_list_extend PySem.F.type_list_extend mt_extend (pv 10) (pa_cons (pe_lc (own := [("spot", 7)]) (g := gName 7) rfl sc_law_read.nd (pi_list (pv 6)) (blkOk_by (own := [("spot", 7)]) (N := n_law_read) (sc := defScope s_law_read) (by decide +kernel)) (fun _ _ _ _ _ => (pg_name (i := 7) sc_law_read.nd rfl (Or.inl rfl))) (fun _ _ _ _ _ => pts_nil) (fun _ _ _ _ _ => (pe_op (r := rCatA K) op_catA (pe_tup (pa_cons (pe_ifExp (pt_cmpR op_eq (pe_ix (r := rIxT K) ix_tup (pv 1) pe_int (fun _ _ => rfl)) pe_str (nomark _)) (pv 3) pe_int) pa_nil)) (pv 7)))) pa_nil)))))) pss_nil)), ?_⟩
    intro D H1 H4 c i many u x rv L sa fa wa a rest g oq r3 ws3 prs r vs ws hnp hva hA S1 nwa hi I O M hg fin
    subst hva
    have hA4 := sqTD S1 I.b hA
    have hil : (i + 1) * 5 ^ n = i * 5 ^ n + 5 ^ n := by rw [Nat.succ_mul]
    have hi4 : i * 5 ^ n ≤ 4 * 25 := Nat.mul_le_mul hi h5
    rcases M with ⟨rfl, rfl, hgn⟩ | ⟨q, rfl, hq⟩
    · -- nothing
      have hu : u = .non := dpNone O.u
      subst hu
      refine ⟨_, rfl, _, rfl, iteF ?_⟩
      exact fin H4 sa fa prs r vs ws ⟨I.b, I.S, I.sm, I.sd, I.row, I.ok, by have := I.rl; omega, I.wr, I.wd, by have := I.wl; omega, by have := I.vl; omega, I.pw, I.pre.skip hg hgn⟩
    · obtain ⟨ua, uxs, rfl, hua⟩ := rdTup O.u
      refine ⟨_, rfl, _, rfl, iteT ?_⟩
      have hOu : Dp K H4 (.ref ua) q.dat := O.u
      cases f with
      | sign x => exact I.pre.elim
      | pick ps => exact absurd rfl (hnp ps)
      | row ps =>
        refine ⟨_, rfl, _, rfl, a, _, 0, _, rfl, rfl, hA4, atI_nat (j := 0) rfl, rfl, _, rfl, iteT ?_⟩
        refine ⟨_, rfl, _, rfl, (by show 2 ≤ sizeLine; decide), fun p5 n5 => ?_⟩
        have s5 : Same H4 (upd H4 p5 (.tup [.int (i : Int), .ref ua])) := .new n5
        have hy : Dp K (upd H4 p5 (.tup [.int (i : Int), .ref ua])) (.ref p5) (elD (.row ps) (ixR (.row ps) i, q)) := .tup (sT upd_same) (.cons (.int _) (.cons (dpS s5 hOu) .nil))
        generalize (V.ref p5) = y at hy ⊢
        generalize upd H4 p5 (.tup [.int (i : Int), .ref ua]) = H5 at s5 hy ⊢
        refine ⟨(by show 1 ≤ sizeLine; decide), fun p6 n6 => ?_⟩
        have s6 : Same H5 (upd H5 p6 (.tup [y])) := .new n6
        have hy6 := dpS s6 hy
        have s46 := s5.trans s6
        refine catA (s46.sqT I.sm) (sT upd_same) (szb (by have := I.vl; omega)) fun H7 sa' s7 hsa' => ?_
        have s47 := s46.trans s7
        refine ⟨_, rfl, _, rfl, ?_⟩
        refine catS (s47.sqT I.row) (s47.sqT O.row) (by have := I.rl; have := O.len; omega) fun H8 fa' s8 hfa' => ?_
        have s48 := s47.trans s8
        refine ⟨_, rfl, .inl ⟨rfl, _, sL (s48 _ _ I.wr)⟩, ?_⟩
        refine ⟨_, rfl, L, rfl, ⟨_, sL (s48 _ _ O.lst)⟩, fun D2 nD2 => lc_list (K := K) (a := L) (xs := ws3) (fun j H' => ∃ acc : List V, Same H8 H' ∧ H' D2 = some (.lst acc) ∧ acc.length = j ∧ DpAll K H' acc ((((lv g q []).take j).map (ixR (.row ps) i :: ·)).map plD))
          ⟨[], .new nD2, upd_same, rfl, .nil⟩ (fun j H' _ ⟨_, e, _⟩ => sL (e _ _ (s48 _ _ O.lst))) ?_ ?_⟩
        · rintro j x9 H9 hx9 ⟨acc, g9, hD9, hl9, ha9⟩
          have hj := (List.getElem?_eq_some_iff.mp hx9).1
          obtain ⟨d9, hd1, hd2⟩ := dpsAtV O.sp hx9
          rw [List.getElem?_map] at hd1
          obtain ⟨pl, hpl, rfl⟩ := Option.map_eq_some_iff.mp hd1
          obtain ⟨xa, xxs, rfl, hxa, hxx⟩ := dpTup hd2
          have hpl' : (lv g q [])[j]? = some pl := hpl
          refine ⟨rfl, ?_⟩
          have hA9 := g9.sqT (s48.sqT hA4)
          refine ⟨_, rfl, a, _, 0, _, rfl, rfl, hA9, atI_nat (j := 0) rfl, rfl, _, rfl, iteT ?_⟩
          refine ⟨_, rfl, (by show 1 ≤ sizeLine; decide), fun p9 n9 => ?_⟩
          have e9 := Same.new n9 (o := .tup [.int ((ixR (.row ps) i : Nat) : Int)])
          refine ⟨_, rfl, ?_⟩
          refine catA (sT upd_same) (e9.sqT (g9.sqT (s48.sqT hxa))) ?_ fun H10 p10 s10 hp10 => ?_
          · have : xxs.length = pl.length := by rw [dpsLen hxx, List.length_map]
            have := O.pw pl (List.mem_of_getElem? hpl')
            show 1 + xxs.length ≤ sizeLine
            exact szl (by omega)
          have hD10 := s10 _ _ (e9 _ _ hD9)
          refine ⟨acc, hD10, szb (by have := O.wl; omega), acc ++ [.ref p10], ((g9.trans e9).trans s10).mut nD2, upd_same, by rw [List.length_append, hl9]; rfl, ?_⟩
          rw [take_snoc hpl', List.map_append, List.map_append]
          refine dpAllSnoc (dpAllL hD10 (noLs_pl _) (dpAllS (e9.trans s10) (noLs_pl _) ha9)) (dpL hD10 (noL_pl _) ?_)
          exact pl_cons hp10 (dpAllS ((s48.trans g9).trans (e9.trans s10)) (noLs_map _ (fun _ => by simp [noL]) pl) hxx)
        · rintro H9 ⟨acc, g9, hD9, hl9, ha9⟩
          have hwl : ws3.length = (lv g q []).length := by rw [dpsLen O.sp, List.length_map]; rfl
          rw [hwl, List.take_length] at ha9
          have s49 := s48.trans g9
          have hW9 := s49 _ _ I.wr
          have b9 := I.b.trans (.of s49)
          refine ⟨wa, D2, _, _, rfl, rfl, hW9, hD9, szl (by have := I.wl; have := O.wl; omega), ?_⟩
          refine fin _ sa' fa' (prs ++ [(ixR (.row ps) i, q)]) (r ++ r3) (vs ++ [y]) (ws ++ acc) ⟨butW b9 nwa, (I.S.same s49).w S1 nwa, ?_, ?_, ?_, ?_, ?_, upd_same, ?_, ?_, ?_, ?_, I.pre.snoc hg hq⟩
          · exact sqTW hW9 ((s8.trans g9).sqT hsa')
          · rw [List.map_append]
            exact dpAllL hW9 (noLs_app (noLs_elD _ _) (noLs_elD _ _)) (dpAllSnoc (dpAllS s49 (noLs_elD _ _) I.sd) (dpS ((s7.trans s8).trans g9) hy6))
          · exact sqTW hW9 (g9.sqT hfa')
          · intro z hz
            rcases List.mem_append.mp hz with hz | hz
            · exact I.ok z hz
            · exact O.ok z hz
          · have := I.rl
            have := O.len
            rw [List.length_append]
            omega
          · rw [lvP_app, List.map_append, lvP_one]
            refine dpAllL hW9 (noLs_app (noLs_pl _) (noLs_pl _)) (dpAllApp (dpAllS s49 (noLs_pl _) I.wd) ?_)
            have eg : (.row ps : Fm).part (ixR (.row ps) i) = g := by show (ps[i]?).getD _ = g; rw [show ps[i]? = some g from hg]; rfl
            rw [eg]
            exact ha9
          · have := I.wl
            have := O.wl
            rw [List.length_append]
            omega
          · have := I.vl
            rw [List.length_append, List.length_singleton]
            omega
          · intro pl hpl
            have eg : (.row ps : Fm).part (ixR (.row ps) i) = g := by show (ps[i]?).getD _ = g; rw [show ps[i]? = some g from hg]; rfl
            rw [lvP_app, lvP_one, eg] at hpl
            rcases List.mem_append.mp hpl with hpl | hpl
            · exact I.pw pl hpl
            · obtain ⟨pl', h1, rfl⟩ := List.mem_map.mp hpl
              have := O.pw pl' h1
              rw [List.length_cons]
              omega
      | times p low high =>
        refine ⟨_, rfl, _, rfl, a, _, 0, _, rfl, rfl, hA4, atI_nat (j := 0) rfl, rfl, _, rfl, iteF ?_⟩
        have s5 : Same H4 H4 := .refl _
        have hy : Dp K H4 (.ref ua) (elD (.times p low high) (ixR (.times p low high) i, q)) := hOu
        refine ⟨_, rfl, ?_⟩
        refine ⟨(by show 1 ≤ sizeLine; decide), fun p6 n6 => ?_⟩
        have s6 : Same H4 (upd H4 p6 (.tup [.ref ua])) := .new n6
        have hy6 := dpS s6 hy
        have s46 := s5.trans s6
        refine catA (s46.sqT I.sm) (sT upd_same) (szb (by have := I.vl; omega)) fun H7 sa' s7 hsa' => ?_
        have s47 := s46.trans s7
        refine ⟨_, rfl, _, rfl, ?_⟩
        refine catS (s47.sqT I.row) (s47.sqT O.row) (by have := I.rl; have := O.len; omega) fun H8 fa' s8 hfa' => ?_
        have s48 := s47.trans s8
        refine ⟨_, rfl, .inl ⟨rfl, _, sL (s48 _ _ I.wr)⟩, ?_⟩
        refine ⟨_, rfl, L, rfl, ⟨_, sL (s48 _ _ O.lst)⟩, fun D2 nD2 => lc_list (K := K) (a := L) (xs := ws3) (fun j H' => ∃ acc : List V, Same H8 H' ∧ H' D2 = some (.lst acc) ∧ acc.length = j ∧ DpAll K H' acc ((((lv g q []).take j).map (ixR (.times p low high) i :: ·)).map plD))
          ⟨[], .new nD2, upd_same, rfl, .nil⟩ (fun j H' _ ⟨_, e, _⟩ => sL (e _ _ (s48 _ _ O.lst))) ?_ ?_⟩
        · rintro j x9 H9 hx9 ⟨acc, g9, hD9, hl9, ha9⟩
          have hj := (List.getElem?_eq_some_iff.mp hx9).1
          obtain ⟨d9, hd1, hd2⟩ := dpsAtV O.sp hx9
          rw [List.getElem?_map] at hd1
          obtain ⟨pl, hpl, rfl⟩ := Option.map_eq_some_iff.mp hd1
          obtain ⟨xa, xxs, rfl, hxa, hxx⟩ := dpTup hd2
          have hpl' : (lv g q [])[j]? = some pl := hpl
          refine ⟨rfl, ?_⟩
          have hA9 := g9.sqT (s48.sqT hA4)
          refine ⟨_, rfl, a, _, 0, _, rfl, rfl, hA9, atI_nat (j := 0) rfl, rfl, _, rfl, iteF ?_⟩
          refine ⟨(by show 1 ≤ sizeLine; decide), fun p9 n9 => ?_⟩
          have e9 := Same.new n9 (o := .tup [.int ((ixR (.times p low high) i : Nat) : Int)])
          refine ⟨_, rfl, ?_⟩
          refine catA (sT upd_same) (e9.sqT (g9.sqT (s48.sqT hxa))) ?_ fun H10 p10 s10 hp10 => ?_
          · have : xxs.length = pl.length := by rw [dpsLen hxx, List.length_map]
            have := O.pw pl (List.mem_of_getElem? hpl')
            show 1 + xxs.length ≤ sizeLine
            exact szl (by omega)
          have hD10 := s10 _ _ (e9 _ _ hD9)
          refine ⟨acc, hD10, szb (by have := O.wl; omega), acc ++ [.ref p10], ((g9.trans e9).trans s10).mut nD2, upd_same, by rw [List.length_append, hl9]; rfl, ?_⟩
          rw [take_snoc hpl', List.map_append, List.map_append]
          refine dpAllSnoc (dpAllL hD10 (noLs_pl _) (dpAllS (e9.trans s10) (noLs_pl _) ha9)) (dpL hD10 (noL_pl _) ?_)
          exact pl_cons hp10 (dpAllS ((s48.trans g9).trans (e9.trans s10)) (noLs_map _ (fun _ => by simp [noL]) pl) hxx)
        · rintro H9 ⟨acc, g9, hD9, hl9, ha9⟩
          have hwl : ws3.length = (lv g q []).length := by rw [dpsLen O.sp, List.length_map]; rfl
          rw [hwl, List.take_length] at ha9
          have s49 := s48.trans g9
          have hW9 := s49 _ _ I.wr
          have b9 := I.b.trans (.of s49)
          refine ⟨wa, D2, _, _, rfl, rfl, hW9, hD9, szl (by have := I.wl; have := O.wl; omega), ?_⟩
          refine fin _ sa' fa' (prs ++ [(ixR (.times p low high) i, q)]) (r ++ r3) (vs ++ [.ref ua]) (ws ++ acc) ⟨butW b9 nwa, (I.S.same s49).w S1 nwa, ?_, ?_, ?_, ?_, ?_, upd_same, ?_, ?_, ?_, ?_, I.pre.snoc hg hq⟩
          · exact sqTW hW9 ((s8.trans g9).sqT hsa')
          · rw [List.map_append]
            exact dpAllL hW9 (noLs_app (noLs_elD _ _) (noLs_elD _ _)) (dpAllSnoc (dpAllS s49 (noLs_elD _ _) I.sd) (dpS ((s7.trans s8).trans g9) hy6))
          · exact sqTW hW9 (g9.sqT hfa')
          · intro z hz
            rcases List.mem_append.mp hz with hz | hz
            · exact I.ok z hz
            · exact O.ok z hz
          · have := I.rl
            have := O.len
            rw [List.length_append]
            omega
          · rw [lvP_app, List.map_append, lvP_one]
            refine dpAllL hW9 (noLs_app (noLs_pl _) (noLs_pl _)) (dpAllApp (dpAllS s49 (noLs_pl _) I.wd) ?_)
            have eg : (.times p low high : Fm).part (ixR (.times p low high) i) = g := by have : p = g := Option.some.inj hg; subst this; rfl
            rw [eg]
            exact ha9
          · have := I.wl
            have := O.wl
            rw [List.length_append]
            omega
          · have := I.vl
            rw [List.length_append, List.length_singleton]
            omega
          · intro pl hpl
            have eg : (.times p low high : Fm).part (ixR (.times p low high) i) = g := by have : p = g := Option.some.inj hg; subst this; rfl
            rw [lvP_app, lvP_one, eg] at hpl
            rcases List.mem_append.mp hpl with hpl | hpl
            · exact I.pw pl hpl
            · obtain ⟨pl', h1, rfl⟩ := List.mem_map.mp hpl
              have := O.pw pl' h1
              rw [List.length_cons]
              omega
  obtain ⟨t2, h2, f2⟩ : ∃ t2, PSs (cxOf CX0 P w K mg base n_law_read "_law_read" (defScope s_law_read) fA cdv A outer s H E).nox ((forBody ((defBody s_law_read).getD 7 (.Pass ⟨0, 0, 0, 0⟩))).drop 2) t2 ∧
      ∀ (D : Ends) (H1 H4 : Hp) (c : Int) (i many : Nat) (u x : V) (rv L sa fa wa a : Addr) (rest : List V) (g : Fm) (oq : Option Rdg) (r3 : RowS) (ws3 : List V) (prs : List (Nat × Rdg)) (r : RowS) (vs ws : List V), (∀ ps, f ≠ .pick ps) → v = .ref a → SqT K H1 a (.str f.kind :: rest) → StateAt H1 st sp → H1 wa = none → i ≤ 4 →
        LpI K H1 H4 f n st sp sa fa wa i prs r vs ws → OutR K H4 g n u rv L oq r3 ws3 → ((oq = none ∧ r3 = []) ∨ ∃ q, oq = some q ∧ q.ok g r3) → ptR f i = some g → FmAt K H1 x g → Lw n g →
        (∀ (H' : Hp) (u' : V) (rv' L' sa' fa' : Addr) (prs' : List (Nat × Rdg)) (r' : RowS) (vs' ws' : List V), LpI K H1 H' f n st sp sa' fa' wa (i + 1) prs' r' vs' ws' → D.nx [some (.ref st), some v, some (.int c), some (.int (i : Int)), some u', some (.ref rv'), some (.ref L'), none, some (.ref sa'), some (.ref fa'), some (.ref wa), some (.int (many : Int)), some x] H') →
        t2 D [some (.ref st), some v, some (.int c), some (.int (i : Int)), some u, some (.ref rv), some (.ref L), none, some (.ref sa), some (.ref fa), some (.ref wa), some (.int (many : Int)), some x] H4 := by
    refine ⟨_, (pss_cons (ps_if (PW.pt (pw_and (pt_cmp (pc_isN (pv 4)) rfl) (pw_and1 (pt_not (pt_val (pe_callD d__law_nothing (hr.mono (by omega)) rfl (pa_cons (pv 12) pa_nil))))))) (pss_one (ps_asg (pe_callD d__law_least (hr.mono (by omega)) rfl (pa_cons (pv 12) pa_nil)) (pg_tup rfl (pgs_cons (pg_name (i := 4) sc_law_read.nd rfl (Or.inl rfl)) (pgs_cons (pg_name (i := 5) sc_law_read.nd rfl (Or.inl rfl)) (pgs_cons (pg_name (i := 6) sc_law_read.nd rfl (Or.inl rfl)) pgs_nil)))))) pss_nil)
      h3), ?_⟩
    intro D H1 H4 c i many u x rv L sa fa wa a rest g oq r3 ws3 prs r vs ws hnp hva hA S1 nwa hi I O M hg hx hwg fin
    have hx4 := fmD S1 I.b hx
    obtain ⟨z1, z2⟩ := lw_sd n g hwg
    have z3 : 4 ^ n ≤ 64 := Nat.le_trans (Nat.pow_le_pow_right (by decide) hn) (by decide)
    rcases M with ⟨rfl, rfl⟩ | ⟨q, rfl, hq⟩
    · have hu : u = .non := dpNone O.u
      subst hu
      refine ⟨_, rfl, _, rfl, iteT ⟨_, rfl, x, g, rfl, hx4, by omega, by omega, fun H5 s5 => ?_⟩⟩
      have I5 : LpI K H1 H5 f n st sp sa fa wa i prs r vs ws := ⟨I.b.trans (.of s5), I.S.same s5, s5.sqT I.sm, dpAllS s5 (noLs_elD _ _) I.sd, s5.sqT I.row, I.ok, I.rl, s5 _ _ I.wr, dpAllS s5 (noLs_pl _) I.wd, I.wl, I.vl, I.pw, I.pre⟩
      cases hgn : g.nothing with
      | true =>
        refine ⟨_, rfl, iteF ?_⟩
        exact f3 D H1 H5 c i many .non x rv L sa fa wa a rest g none [] ws3 prs r vs ws hnp hva hA S1 nwa hi I5 ⟨.non, s5.sqT O.row, O.ok, O.len, s5 _ _ O.lst, dpAllS s5 (noLs_pl _) O.sp, O.wl, O.pw⟩ (.inl ⟨rfl, rfl, hgn⟩) hg fun H' sa' fa' prs' r' vs' ws' I' => fin H' _ _ _ _ _ _ _ _ _ I'
      | false =>
        refine ⟨_, rfl, iteT ?_⟩
        refine ⟨_, rfl, x, g, rfl, dpS s5 hx4, hwg, fun H6 D6 u6 rv6 L6 oq6 r6 ws6 s6 hD6 O6 M6 => ?_⟩
        have I6 : LpI K H1 H6 f n st sp sa fa wa i prs r vs ws := ⟨I5.b.trans (.of s6), I5.S.same s6, s6.sqT I5.sm, dpAllS s6 (noLs_elD _ _) I5.sd, s6.sqT I5.row, I5.ok, I5.rl, s6 _ _ I5.wr, dpAllS s6 (noLs_pl _) I5.wd, I5.wl, I5.vl, I5.pw, I5.pre⟩
        refine ⟨D6, _, rfl, sT hD6, rfl, _, _, rfl, _, _, rfl, _, _, rfl, rfl, ?_⟩
        exact f3 D H1 H6 c i many u6 x rv6 L6 sa fa wa a rest g oq6 r6 ws6 prs r vs ws hnp hva hA S1 nwa hi I6 O6 M6 hg fun H' sa' fa' prs' r' vs' ws' I' => fin H' _ _ _ _ _ _ _ _ _ I'
    · obtain ⟨ua, uxs, rfl, hua⟩ := rdTup O.u
      refine ⟨_, rfl, _, rfl, iteF ?_⟩
      refine iteF ?_
      exact f3 D H1 H4 c i many (.ref ua) x rv L sa fa wa a rest g (some q) r3 ws3 prs r vs ws hnp hva hA S1 nwa hi I O (.inr ⟨q, rfl, hq⟩) hg fun H' sa' fa' prs' r' vs' ws' I' => fin H' _ _ _ _ _ _ _ _ _ I'
  obtain ⟨t7, h7, f7⟩ : ∃ t7, PSs (cxOf CX0 P w K mg base n_law_read "_law_read" (defScope s_law_read) fA cdv A outer s H E).nox ((defBody s_law_read).drop 7) t7 ∧
      ∀ (H1 H2 : Hp) (c : Int) (many : Nat) (sa fa wa a : Addr) (rest : List V), (∀ ps, f ≠ .pick ps) → (∀ x, f ≠ .sign x) → v = .ref a → SqT K H1 a (.str f.kind :: rest) → StateAt H1 st sp → But st H H1 → Same H1 H2 → H1 wa = none → SqT K H2 sa [] → SqT K H2 fa [] → H2 wa = some (.lst []) → many ≤ 5 → upTo f many → (∀ i, i < many → ∃ (x : V) (g : Fm), FmAt K H1 x g ∧ Lw n g ∧ ptR f i = some g ∧ ((f.kind = "row" ∧ ∃ (b : Addr) (us : List V), rest = [.ref b] ∧ SqT K H1 b us ∧ us[i]? = some x) ∨ (f.kind = "times" ∧ ∃ z1 z2, rest = [x, z1, z2]))) →
        t7 { nx := fun _ H' => Q .non H', rt := Q } [some (.ref st), some v, some (.int c), none, none, none, none, none, some (.ref sa), some (.ref fa), some (.ref wa), some (.int (many : Int)), none] H2 := by
    refine ⟨_, (pss_cons (ps_for PassesOwn.never rfl (pi_range1 rfl b_range (pa_cons (pv 11) pa_nil)) (pg_name (i := 3) sc_law_read.nd rfl (Or.inr rfl))
      (pss_cons (ps_set (i := 12) sc_law_read.nd rfl (Or.inl rfl) (pe_ifExp (pt_cmpR op_eq (pe_ix ix_tup (pv 1) pe_int (fun _ _ => rfl)) pe_str (nomark _)) (pe_ix ix_tup (pe_ix ix_tup (pv 1) pe_int (fun _ _ => rfl)) (pv 3) (fun _ _ => rfl)) (pe_ix ix_tup (pv 1) pe_int (fun _ _ => rfl))))
      (pss_cons (ps_asg (pe_ifExp (pt_cmpR op_lt (pe_callB call_len_seq (by rfl) b_len PySem.boot_len (pa_cons (pv 9) pa_nil)) pe_int (nomark _)) (pe_callD d__law_read (hr.mono (by omega)) rfl (pa_cons (pv 0) (pa_cons (pv 12) pa_nil))) (pe_tup (pa_cons pe_non (pa_cons (pe_tup pa_nil) (pa_cons (pe_lst pa_nil) pa_nil))))) (pg_tup rfl (pgs_cons (pg_name (i := 4) sc_law_read.nd rfl (Or.inl rfl)) (pgs_cons (pg_name (i := 5) sc_law_read.nd rfl (Or.inl rfl)) (pgs_cons (pg_name (i := 6) sc_law_read.nd rfl (Or.inl rfl)) pgs_nil)))))
      h2)))
    (pss_one (ps_ret (pe_tup (pa_cons (pe_ifExp (pt_cmpR (op_eqD hr.units) (pv 8) (pe_tup pa_nil) (nomark _)) pe_non (pe_tup (pa_cons (pe_ix ix_tup (pv 1) pe_int (fun _ _ => rfl)) (pa_cons (pv 8) pa_nil)))) (pa_cons (pv 9) (pa_cons (pv 10) pa_nil))))))), ?_⟩
    intro H1 H2 c many sa fa wa a rest hnp hns hva hA S1 b1 s12 nwa hsa hfa hwa hm5 hup hprt
    refine ⟨_, rfl, _, rfl, by omega, by omega, ?_⟩
    refine for_range (lo := 0) (n := many) (fun i σ H' => ∃ (sa fa : Addr) (prs : List (Nat × Rdg)) (r : RowS) (vs ws : List V) (o3 o4 o5 o6 o12 : Option V), σ = [some (.ref st), some v, some (.int c), o3, o4, o5, o6, none, some (.ref sa), some (.ref fa), some (.ref wa), some (.int (many : Int)), o12] ∧ LpI K H1 H' f n st sp sa fa wa i prs r vs ws)
      ⟨sa, fa, [], [], [], [], none, none, none, none, none, rfl, .of s12, S1.same s12, hsa, .nil, hfa, (fun x h => by cases h), Nat.zero_le _, hwa, .nil, Nat.zero_le _, Nat.zero_le _, (fun pl h => by rw [lvP] at h; cases h), PreR.nil ?_⟩ ?_ ?_
    · cases f with
      | sign x => exact absurd rfl (hns x)
      | pick ps => exact absurd rfl (hnp ps)
      | row ps => exact .inl ⟨_, rfl⟩
      | times p l u => exact .inr ⟨_, _, _, rfl⟩
    · rintro i σ H3 hi ⟨sa, fa, prs, r, vs, ws, o3, o4, o5, o6, o12, rfl, I⟩
      obtain ⟨x, g, hx, hwg, hg, kx⟩ := hprt i hi
      rw [Int.zero_add]
      have after : ∀ (D : Ends), (∀ (H' : Hp) (u' : V) (rv' L' sa' fa' : Addr) (prs' : List (Nat × Rdg)) (r' : RowS) (vs' ws' : List V), LpI K H1 H' f n st sp sa' fa' wa (i + 1) prs' r' vs' ws' → D.nx [some (.ref st), some v, some (.int c), some (.int (i : Int)), some u', some (.ref rv'), some (.ref L'), none, some (.ref sa'), some (.ref fa'), some (.ref wa), some (.int (many : Int)), some x] H') →
          tSeq (tAsg (tIf (tTest (tOp (rI0 fun i j => V.bl (decide (i < j))) (tCB (fun xs H Q => ∃ p ys, xs = [V.ref p] ∧ (SqL K H p ys ∨ SqT K H p ys) ∧ Q (V.int ys.length) H) (tCons (tVar 9) tNil)) (tC (V.int 12)))) (tCall (spReadL K n) [] E0 (tCons (tVar 0) (tCons (tVar 12) tNil))) (tTup (tCons (tC .non) (tCons (tTup tNil) (tCons (tLst tNil) tNil)))))
            (gTup K 3 (gCons (gName 4) (gCons (gName 5) (gCons (gName 6) gNil))))) t2 D [some (.ref st), some v, some (.int c), some (.int (i : Int)), o4, o5, o6, none, some (.ref sa), some (.ref fa), some (.ref wa), some (.int (many : Int)), some x] H3 := by
        intro D fin
        refine ⟨_, rfl, fa, _, rfl, .inr I.row, _, _, rfl, rfl, _, rfl, ite2 (fun _ => ?_) (fun _ => ?_)⟩
        · refine ⟨_, rfl, _, rfl, st, sp, x, g, rfl, I.S, fmD S1 I.b hx, hwg, fun H5 D5 u rv L oq r5 ws5 b5 S5 hD5 O M => ?_⟩
          refine ⟨D5, _, rfl, sT hD5, rfl, _, _, rfl, _, _, rfl, _, _, rfl, rfl, ?_⟩
          have nw : wa ≠ st := fun e => by obtain ⟨_, _, h1, _⟩ := S1; rw [e, h1] at nwa; cases nwa
          have I5 : LpI K H1 H5 f n st sp sa fa wa i prs r vs ws := ⟨I.b.trans b5, S5, sqTD I.S b5 I.sm, dpAllD I.S b5 (noLs_elD _ _) I.sd, sqTD I.S b5 I.row, I.ok, I.rl, b5 _ _ I.wr nw, dpAllD I.S b5 (noLs_pl _) I.wd, I.wl, I.vl, I.pw, I.pre⟩
          refine f2 D H1 H5 c i many u x rv L sa fa wa a rest g oq r5 ws5 prs r vs ws hnp hva hA S1 nwa (by omega) I5 O ?_ hg hx hwg fin
          rcases M with ⟨h1, h2, _⟩ | h
          · exact .inl ⟨h1, h2⟩
          · exact .inr h
        · refine ⟨(by show 0 ≤ sizeLine; decide), fun p1 n1 => ⟨(by show 0 ≤ sizeLine; decide), fun p2 n2 => ⟨(by show 3 ≤ sizeLine; decide), fun D5 n5 => ?_⟩⟩⟩
          have e1 := Same.new n1 (o := .tup [])
          have e2 := Same.new n2 (o := .lst [])
          have e3 := Same.new n5 (o := .tup [.non, .ref p1, .ref p2])
          have s5 := (e1.trans e2).trans e3
          refine ⟨D5, _, rfl, sT upd_same, rfl, _, _, rfl, _, _, rfl, _, _, rfl, rfl, ?_⟩
          have I5 : LpI K H1 _ f n st sp sa fa wa i prs r vs ws := ⟨I.b.trans (.of s5), I.S.same s5, s5.sqT I.sm, dpAllS s5 (noLs_elD _ _) I.sd, s5.sqT I.row, I.ok, I.rl, s5 _ _ I.wr, dpAllS s5 (noLs_pl _) I.wd, I.wl, I.vl, I.pw, I.pre⟩
          refine f2 D H1 _ c i many .non x p1 p2 sa fa wa a rest g none [] [] prs r vs ws hnp hva hA S1 nwa (by omega) I5 ⟨.non, ?_, (fun x h => by cases h), Nat.zero_le _, ?_, .nil, Nat.zero_le _, (fun pl h => by cases h)⟩ (.inl ⟨rfl, rfl⟩) hg hx hwg fin
          · exact sT ((e2.trans e3) _ _ upd_same)
          · exact e3 _ _ upd_same
      have hA3 := sqTD S1 I.b hA
      rcases kx with ⟨hk, b, us, hrest, hb, hxi⟩ | ⟨hk, z1, z2, hrest⟩
      · subst hva
        rw [hk, hrest] at hA3
        refine ⟨_, rfl, a, _, 0, _, rfl, rfl, hA3, atI_nat (j := 0) rfl, rfl, _, rfl, iteT ?_⟩
        refine ⟨_, rfl, a, _, 1, _, rfl, rfl, hA3, atI_nat (j := 1) rfl, _, rfl, b, _, i, _, rfl, rfl, sqTD S1 I.b hb, at_of (j := i) (by omega) hxi, ?_⟩
        refine after _ fun H' u' rv' L' sa' fa' prs' r' vs' ws' I' => ⟨_, _, _, _, _, _, _, _, _, _, _, rfl, I'⟩
      · subst hva
        rw [hk, hrest] at hA3
        refine ⟨_, rfl, a, _, 0, _, rfl, rfl, hA3, atI_nat (j := 0) rfl, rfl, _, rfl, iteF ?_⟩
        refine ⟨_, rfl, a, _, 1, _, rfl, rfl, hA3, atI_nat (j := 1) rfl, ?_⟩
        refine after _ fun H' u' rv' L' sa' fa' prs' r' vs' ws' I' => ⟨_, _, _, _, _, _, _, _, _, _, _, rfl, I'⟩
    · rintro σ H3 ⟨sa, fa, prs, r, vs, ws, o3, o4, o5, o6, o12, rfl, I⟩
      have hA3 := sqTD S1 I.b hA
      have hrl := I.rl
      have hm5' : many * 5 ^ n ≤ 5 * 5 ^ n := Nat.mul_le_mul_right _ hm5
      have M := I.pre.fin hup
      have hlv := I.pre.lv
      have out : ∀ (H5 : Hp) (u : V), Same H3 H5 → Dp K H5 u (datO (finR f prs)) → ∀ D, H5 D = none → Q (.ref D) (upd H5 D (.tup [u, .ref fa, .ref wa])) := by
        intro H5 u s5 hu D nD
        have s6 := s5.trans (Same.new (o := .tup [u, .ref fa, .ref wa]) nD)
        refine k _ D u fa wa (finR f prs) r ws ((b1.trans I.b).trans (.of s6)) (I.S.same s6) upd_same ⟨dpS (.new nD) hu, s6.sqT I.row, I.ok, by omega, s6 _ _ I.wr, ?_, by have := I.wl; omega, ?_⟩ M
        · rw [hlv]
          exact dpAllS s6 (noLs_pl _) I.wd
        · rw [hlv]
          exact I.pw
      refine ⟨_, rfl, (by show 0 ≤ sizeLine; decide), fun p1 n1 => ?_⟩
      have s1 := Same.new n1 (o := .tup [])
      refine ⟨.tuple (prs.map (elD f)), .tuple [], .tup (s1.sqT I.sm) (dpAllS s1 (noLs_elD _ _) I.sd), .tup (sT upd_same) .nil, depth_elD I.pre hup hw (by omega) (by omega), by rfl, _, rfl, ?_⟩
      rw [eqv_nil]
      by_cases e : prs = []
      · subst e
        refine iteT ?_
        refine ⟨_, rfl, _, rfl, (by show 3 ≤ sizeLine; decide), fun D nD => ?_⟩
        exact out _ .non s1 (by rw [PreR.datN]; exact .non) D nD
      · rw [decide_eq_false e]
        refine iteF ?_
        subst hva
        refine ⟨_, rfl, a, _, 0, _, rfl, rfl, s1.sqT hA3, atI_nat (j := 0) rfl, _, rfl, (by show 2 ≤ sizeLine; decide), fun p2 n2 => ?_⟩
        have s2 := Same.new n2 (o := .tup [.str f.kind, .ref sa])
        refine ⟨_, rfl, _, rfl, (by show 3 ≤ sizeLine; decide), fun D nD => ?_⟩
        refine out _ (.ref p2) (s1.trans s2) ?_ D nD
        rw [I.pre.dat e]
        exact .tup (sT upd_same) (.cons (.str _) (.cons (.tup ((s1.trans s2).sqT I.sm) (dpAllS (s1.trans s2) (noLs_elD _ _) I.sd)) .nil))
  refine ⟨_, (pss_cons (ps_set (i := 2) sc_law_read.nd rfl (Or.inl rfl) (pe_callD d__law_cell (hr.mono (by omega)) rfl (pa_cons (pv 0) pa_nil)))
    (pss_cons (ps_if (pt_cmpR op_eq (pe_ix ix_tup (pv 1) pe_int (fun _ _ => rfl)) pe_str (nomark _)) (pss_one (ps_ret (pe_tup (pa_cons (pe_tup (pa_cons pe_str pa_nil)) (pa_cons (pe_tup (pa_cons (pe_ix ix_tup (pv 1) pe_int (fun _ _ => rfl)) pa_nil)) (pa_cons (pe_lst (pa_cons (pe_tup pa_nil) pa_nil)) pa_nil)))))) pss_nil)
    (pss_cons (ps_if (pt_cmpR op_eq (pe_ix ix_tup (pv 1) pe_int (fun _ _ => rfl)) pe_str (nomark _)) (pss_cons (ps_set (i := 3) sc_law_read.nd rfl (Or.inr rfl) (pe_op op_mod (pv 2) (pe_callB call_len_seq (by rfl) b_len PySem.boot_len (pa_cons (pe_ix ix_tup (pv 1) pe_int (fun _ _ => rfl)) pa_nil))))
    (pss_cons (ps_asg (pe_callD d__law_read (hr.mono (by omega)) rfl (pa_cons (pv 0) (pa_cons (pe_ix ix_tup (pe_ix ix_tup (pv 1) pe_int (fun _ _ => rfl)) (pv 3) (fun _ _ => rfl)) pa_nil))) (pg_tup rfl (pgs_cons (pg_name (i := 4) sc_law_read.nd rfl (Or.inl rfl)) (pgs_cons (pg_name (i := 5) sc_law_read.nd rfl (Or.inl rfl)) (pgs_cons (pg_name (i := 6) sc_law_read.nd rfl (Or.inl rfl)) pgs_nil)))))
    (pss_one (ps_ret (pe_tup (pa_cons (pe_ifExp (pt_cmp (pc_isN (pv 4)) rfl) pe_non (pe_tup (pa_cons pe_str (pa_cons (pv 3) (pa_cons (pv 4) pa_nil))))) (pa_cons (pv 5) (pa_cons (pe_lc (own := [("spot", 7)]) (g := gName 7) rfl sc_law_read.nd (pi_list (pv 6)) (blkOk_by (own := [("spot", 7)]) (N := n_law_read) (sc := defScope s_law_read) (by decide +kernel)) (fun _ _ _ _ _ => (pg_name (i := 7) sc_law_read.nd rfl (Or.inl rfl))) (fun _ _ _ _ _ => pts_nil) (fun _ _ _ _ _ => (pe_op (r := rCatA K) op_catA (pe_tup (pa_cons (pv 3) pa_nil)) (pv 7)))) pa_nil)))))))) pss_nil)
    (pss_cons (ps_set (i := 8) sc_law_read.nd rfl (Or.inl rfl) (pe_tup pa_nil))
    (pss_cons (ps_set (i := 9) sc_law_read.nd rfl (Or.inl rfl) (pe_tup pa_nil))
    (pss_cons (ps_set (i := 10) sc_law_read.nd rfl (Or.inl rfl) (pe_lst pa_nil))
    (pss_cons (ps_set (i := 11) sc_law_read.nd rfl (Or.inl rfl) (pe_ifExp (pt_cmpR op_eq (pe_ix ix_tup (pv 1) pe_int (fun _ _ => rfl)) pe_str (nomark _)) (pe_callB call_len_seq (by rfl) b_len PySem.boot_len (pa_cons (pe_ix ix_tup (pv 1) pe_int (fun _ _ => rfl)) pa_nil)) (pe_callD d__law_often (hr.mono (by omega)) rfl (pa_cons (pv 1) (pa_cons (pv 2) pa_nil)))))
    h7))))))), ?_⟩
  refine ⟨_, rfl, st, sp, rfl, S, fun H1 c b1 S1 => ?_⟩
  have hf1 := fmD S b1 hf
  -- new cells ahead of the loop
  cases f with
  | sign x =>
    obtain ⟨a, rfl, ht⟩ := fmSign hf1
    refine ⟨_, rfl, a, _, 0, _, rfl, rfl, ht, atI_nat (j := 0) rfl, rfl, _, rfl, iteT ?_⟩
    refine ⟨(by show 1 ≤ sizeLine; decide), fun p1 n1 => ?_⟩
    have s1 : Same H1 (upd H1 p1 (.tup [.str "leaf"])) := .new n1
    refine ⟨_, rfl, a, _, 1, _, rfl, rfl, s1.sqT ht, atI_nat (j := 1) rfl, (by show 1 ≤ sizeLine; decide), fun p2 n2 => ⟨(by show 0 ≤ sizeLine; decide), fun p3 n3 => ⟨(by show 1 ≤ sizeLine; decide), fun L nL => ⟨(by show 3 ≤ sizeLine; decide), fun D nD => ?_⟩⟩⟩⟩
    have e2 := Same.new n2 (o := .tup [.str x])
    have e3 := Same.new n3 (o := .tup [])
    have e4 := Same.new nL (o := .lst [.ref p3])
    have e5 := Same.new nD (o := .tup [.ref p1, .ref p2, .ref L])
    have sA := (((s1.trans e2).trans e3).trans e4).trans e5
    refine k _ D (.ref p1) p2 L (some .leaf) [x] [.ref p3] (b1.trans (.of sA)) (S1.same sA) upd_same ⟨?_, ?_, ?_, ?_, ?_, ?_, ?_, ?_⟩ (.inr ⟨.leaf, rfl, by rw [Rdg.ok]⟩)
    · exact .tup (sT (((e2.trans e3).trans e4).trans e5 _ _ upd_same)) (.cons (.str _) .nil)
    · exact sT (((e3.trans e4).trans e5) _ _ upd_same)
    · intro y hy
      rw [List.mem_singleton.mp hy]
      exact hw
    · exact pow5_pos _
    · exact e5 _ _ upd_same
    · show DpAll K _ [.ref p3] ((lv (.sign x) .leaf []).map plD)
      rw [lv_sign]
      exact .cons (.tup (sT ((e4.trans e5) _ _ upd_same)) .nil) .nil
    · exact pow5_pos _
    · intro pl hpl
      have hpl' : pl ∈ lv (.sign x) .leaf [] := hpl
      rw [lv_sign] at hpl'
      rw [List.mem_singleton.mp hpl']
      exact Nat.zero_le _
  | pick ps =>
    obtain ⟨a, b, us, rfl, ht, hb, hv⟩ := fmPick hf1
    refine ⟨_, rfl, a, _, 0, _, rfl, rfl, ht, atI_nat (j := 0) rfl, rfl, _, rfl, iteF ?_⟩
    refine ⟨_, rfl, a, _, 0, _, rfl, rfl, ht, atI_nat (j := 0) rfl, rfl, _, rfl, iteT ?_⟩
    have hlen := fmsLenA hv
    have hw' : 1 ≤ ps.length ∧ ps.length ≤ 3 ∧ ∀ p, p ∈ ps → Lw n p := hw
    have hpos : (0 : Int) < (us.length : Int) := by omega
    have z0 : 0 ≤ c % (us.length : Int) := Int.emod_nonneg _ (by omega)
    have z1 : c % (us.length : Int) < (us.length : Int) := Int.emod_lt_of_pos _ hpos
    obtain ⟨j, hj⟩ : ∃ j : Nat, c % (us.length : Int) = (j : Int) := ⟨(c % (us.length : Int)).toNat, by omega⟩
    obtain ⟨x, hx⟩ : ∃ x, us[j]? = some x := ⟨_, List.getElem?_eq_getElem (by omega)⟩
    obtain ⟨g, hg1, hg2⟩ := fmsAtI hv hx
    have hpt : (Fm.pick ps).part j = g := by show (ps[j]?).getD _ = g; rw [hg1]; rfl
    refine ⟨_, rfl, _, rfl, a, _, 1, _, rfl, rfl, ht, atI_nat (j := 1) rfl, b, _, rfl, .inr hb, _, _, rfl, rfl, hpos, ?_⟩
    dsimp only
    rw [hj]
    refine ⟨_, rfl, _, rfl, a, _, 1, _, rfl, rfl, ht, atI_nat (j := 1) rfl, _, rfl, b, _, _, _, rfl, rfl, hb, at_of (j := j) rfl hx, ?_⟩
    refine ⟨st, sp, x, g, rfl, S1, hg2, hw'.2.2 g (List.mem_of_getElem? hg1), fun H5 D5 u rv L oq r ws b5 S5 hD5 O M => ?_⟩
    refine ⟨D5, _, rfl, sT hD5, rfl, _, _, rfl, _, _, rfl, _, _, rfl, rfl, ?_⟩
    -- what is told, told once
    have out : ∀ (H6 : Hp) (u' : V) (oq' : Option Rdg), Same H5 H6 → Dp K H6 u' (datO oq') → Mk (.pick ps) r oq' → lvO (.pick ps) oq' = (lvO g oq).map (j :: ·) → ∀ (D2 : Addr) (acc : List V), H6 D2 = some (.lst acc) → DpAll K H6 acc (((lvO g oq).map (j :: ·)).map plD) → ∀ D, H6 D = none → Q (.ref D) (upd H6 D (.tup [u', .ref rv, .ref D2])) := by
      intro H6 u' oq' s6 hu M' hl D2 acc hD2 hacc D nD
      have s7 := s6.trans (Same.new (o := .tup [u', .ref rv, .ref D2]) nD)
      have hal : acc.length = ws.length := by rw [dpsLen hacc, dpsLen O.sp]; simp
      refine k _ D u' rv D2 oq' r acc ((b1.trans b5).trans (.of s7)) (S5.same s7) upd_same ⟨dpS (.new nD) hu, s7.sqT O.row, O.ok, by have := O.len; omega, (Same.new nD) _ _ hD2, ?_, by have := O.wl; omega, ?_⟩ M'
      · rw [hl]
        exact dpAllS (.new nD) (noLs_pl _) hacc
      · rw [hl]
        intro pl hpl
        obtain ⟨pl', h1, rfl⟩ := List.mem_map.mp hpl
        have := O.pw pl' h1
        rw [List.length_cons]
        omega
    have comp : ∀ (H6 : Hp) (u' : V) (oq' : Option Rdg), Same H5 H6 → Dp K H6 u' (datO oq') → Mk (.pick ps) r oq' → lvO (.pick ps) oq' = (lvO g oq).map (j :: ·) →
        tCons (tVar 5) (tCons (tLc (iList K (tVar 6)) (gName 7) tYes (tOp (rCatA K) (tTup (tCons (tVar 3) tNil)) (tVar 7)) [7]) tNil) [some (.ref st), some (.ref a), some (.int c), some (.int (j : Int)), some u, some (.ref rv), some (.ref L), none, none, none, none, none, none] H6
          fun vs H' => (u' :: vs).length ≤ sizeLine ∧ ∀ D, H' D = none → Q (.ref D) (upd H' D (.tup (u' :: vs))) := by
      intro H6 u' oq' s6 hu M' hl
      refine ⟨_, rfl, _, rfl, L, rfl, ⟨_, sL (s6 _ _ O.lst)⟩, fun D2 nD2 => lc_list (K := K) (a := L) (xs := ws) (fun m H' => ∃ acc : List V, Same H6 H' ∧ H' D2 = some (.lst acc) ∧ acc.length = m ∧ DpAll K H' acc ((((lvO g oq).take m).map (j :: ·)).map plD))
        ⟨[], .new nD2, upd_same, rfl, .nil⟩ (fun m H' _ ⟨_, e, _⟩ => sL (e _ _ (s6 _ _ O.lst))) ?_ ?_⟩
      · rintro m x9 H9 hx9 ⟨acc, g9, hD9, hl9, ha9⟩
        have hm := (List.getElem?_eq_some_iff.mp hx9).1
        obtain ⟨d9, hd1, hd2⟩ := dpsAtV O.sp hx9
        rw [List.getElem?_map] at hd1
        obtain ⟨pl, hpl, rfl⟩ := Option.map_eq_some_iff.mp hd1
        obtain ⟨xa, xxs, rfl, hxa, hxx⟩ := dpTup hd2
        refine ⟨rfl, ?_⟩
        refine ⟨_, rfl, (by show 1 ≤ sizeLine; decide), fun p9 n9 => ?_⟩
        have e9 := Same.new n9 (o := .tup [.int (j : Int)])
        refine ⟨_, rfl, ?_⟩
        refine catA (sT upd_same) (e9.sqT (g9.sqT (s6.sqT hxa))) ?_ fun H10 p10 s10 hp10 => ?_
        · have : xxs.length = pl.length := by rw [dpsLen hxx, List.length_map]
          have := O.pw pl (List.mem_of_getElem? hpl)
          show 1 + xxs.length ≤ sizeLine
          exact szl (by omega)
        have hD10 := s10 _ _ (e9 _ _ hD9)
        refine ⟨acc, hD10, szb (by have := O.wl; omega), acc ++ [.ref p10], ((g9.trans e9).trans s10).mut nD2, upd_same, by rw [List.length_append, hl9]; rfl, ?_⟩
        rw [take_snoc hpl, List.map_append, List.map_append]
        refine dpAllSnoc (dpAllL hD10 (noLs_pl _) (dpAllS (e9.trans s10) (noLs_pl _) ha9)) (dpL hD10 (noL_pl _) ?_)
        exact pl_cons hp10 (dpAllS ((s6.trans g9).trans (e9.trans s10)) (noLs_map _ (fun _ => by simp [noL]) pl) hxx)
      · rintro H9 ⟨acc, g9, hD9, hl9, ha9⟩
        have hwl : ws.length = (lvO g oq).length := by rw [dpsLen O.sp, List.length_map]
        rw [hwl, List.take_length] at ha9
        refine ⟨(by show 3 ≤ sizeLine; decide), fun D nD => ?_⟩
        exact out H9 u' oq' (s6.trans g9) (dpS g9 hu) M' hl D2 acc hD9 ha9 D nD
    rcases M with ⟨rfl, rfl, hn⟩ | ⟨q, rfl, hq⟩
    · have hu : u = .non := dpNone O.u
      subst hu
      refine ⟨_, rfl, _, rfl, iteT ?_⟩
      refine comp H5 .non none (.refl _) .non (.inl ⟨rfl, rfl, ?_⟩) rfl
      rw [Fm.nothing, anyN_eq, List.any_map, List.any_eq_true]
      exact ⟨g, List.mem_of_getElem? hg1, hn⟩
    · obtain ⟨ua, uxs, rfl, hua⟩ := rdTup O.u
      refine ⟨_, rfl, _, rfl, iteF ?_⟩
      refine ⟨_, rfl, _, rfl, (by show 3 ≤ sizeLine; decide), fun p6 n6 => ?_⟩
      have s6 := Same.new n6 (o := .tup [.str "pick", .int (j : Int), .ref ua])
      refine comp _ (.ref p6) (some (.pick j q)) s6 (.tup (sT upd_same) (.cons (.str _) (.cons (.int _) (.cons (dpS s6 O.u) .nil)))) (.inr ⟨_, rfl, by rw [Rdg.ok]; exact ⟨g, hg1, hq⟩⟩) ?_
      show lv (.pick ps) (.pick j q) [] = _
      rw [lv, hpt, List.nil_append, lv_pre]
      rfl
  | row ps =>
    obtain ⟨a, b, us, rfl, ht, hb, hv⟩ := fmRow hf1
    refine ⟨_, rfl, a, _, 0, _, rfl, rfl, ht, atI_nat (j := 0) rfl, rfl, _, rfl, iteF ?_⟩
    refine ⟨_, rfl, a, _, 0, _, rfl, rfl, ht, atI_nat (j := 0) rfl, rfl, _, rfl, iteF ?_⟩
    refine ⟨(by show 0 ≤ sizeLine; decide), fun sa n1 => ⟨(by show 0 ≤ sizeLine; decide), fun fa n2 => ⟨(by show 0 ≤ sizeLine; decide), fun wa n3 => ?_⟩⟩⟩
    have e1 := Same.new n1 (o := .tup [])
    have e2 := Same.new n2 (o := .tup [])
    have e3 := Same.new n3 (o := .lst [])
    have s3 := (e1.trans e2).trans e3
    have hl := fmsLenA hv
    have hw' : ps.length ≤ 3 ∧ ∀ p, p ∈ ps → Lw n p := hw
    refine ⟨_, rfl, a, _, 0, _, rfl, rfl, s3.sqT ht, atI_nat (j := 0) rfl, rfl, _, rfl, iteT ?_⟩
    refine ⟨_, rfl, a, _, 1, _, rfl, rfl, s3.sqT ht, atI_nat (j := 1) rfl, b, _, rfl, .inr (s3.sqT hb), ?_⟩
    refine f7 H1 _ c us.length sa fa wa a _ (fun _ e => by cases e) (fun _ e => by cases e) rfl ht S1 b1 s3 ((e1.trans e2).free n3) (sT ((e2.trans e3) _ _ upd_same)) (sT (e3 _ _ upd_same)) upd_same (by omega) hl fun i hi => ?_
    obtain ⟨x, hx⟩ : ∃ x, us[i]? = some x := ⟨_, List.getElem?_eq_getElem hi⟩
    obtain ⟨g, hg1, hg2⟩ := fmsAtI hv hx
    exact ⟨x, g, hg2, hw'.2 g (List.mem_of_getElem? hg1), hg1, .inl ⟨rfl, b, us, rfl, hb, hx⟩⟩
  | times p low high =>
    obtain ⟨a, u, rfl, ht, hu⟩ := fmTimes hf1
    refine ⟨_, rfl, a, _, 0, _, rfl, rfl, ht, atI_nat (j := 0) rfl, rfl, _, rfl, iteF ?_⟩
    refine ⟨_, rfl, a, _, 0, _, rfl, rfl, ht, atI_nat (j := 0) rfl, rfl, _, rfl, iteF ?_⟩
    refine ⟨(by show 0 ≤ sizeLine; decide), fun sa n1 => ⟨(by show 0 ≤ sizeLine; decide), fun fa n2 => ⟨(by show 0 ≤ sizeLine; decide), fun wa n3 => ?_⟩⟩⟩
    have e1 := Same.new n1 (o := .tup [])
    have e2 := Same.new n2 (o := .tup [])
    have e3 := Same.new n3 (o := .lst [])
    have s3 := (e1.trans e2).trans e3
    have hw' : Lw n p ∧ low ≤ 3 ∧ ∀ h, high = some h → low ≤ h ∧ h ≤ 12 := hw
    refine ⟨_, rfl, a, _, 0, _, rfl, rfl, s3.sqT ht, atI_nat (j := 0) rfl, rfl, _, rfl, iteF ?_⟩
    refine ⟨_, rfl, _, rfl, _, c, p, low, high, rfl, dpS s3 hf1, fun h e => (hw'.2.2 h e).1, fun m m1 m2 m3 => ?_⟩
    exact f7 H1 _ c m sa fa wa a _ (fun _ e => by cases e) (fun _ e => by cases e) rfl ht S1 b1 s3 ((e1.trans e2).free n3) (sT ((e2.trans e3) _ _ upd_same)) (sT (e3 _ _ upd_same)) upd_same (by omega) ⟨m1, m3⟩ fun i hi => ⟨u, p, hu, hw'.1, rfl, .inr ⟨rfl, _, _, rfl⟩⟩
end
end Sw
set_option Elab.async false
set_option maxRecDepth 100000
set_option maxHeartbeats 8000000
namespace Sw
open PySem L2 PySem.Spec PyProof.Rows
theorem OutR.same {K : PySem.W.Frag} {H H' : Hp} {f : Fm} {n : Nat} {u : V} {rv L : Addr} {oq : Option Rdg} {r : RowS} {ws : List V} (O : OutR K H f n u rv L oq r ws) (s : Same H H') : OutR K H' f n u rv L oq r ws := ⟨dpS s O.u, s.sqT O.row, O.ok, O.len, s _ _ O.lst, dpAllS s (noLs_pl _) O.sp, O.wl, O.pw⟩
section
variable {P : Program} {w : World} {K : PySem.W.Frag} {mg : Str → Option Value} {base : Heap}
abbrev n_law_least : List Str := ["form"]
theorem sc_law_least : FnScope n_law_least ["form"] (defScope s_law_least) := ⟨rfl, rfl, rfl, by decide +kernel, rfl, by decide +kernel, by decide +kernel⟩
theorem ok_law_least (n lr : Nat) (F : DefAt K mg "_law_least" s_law_least ["form"]) (d__law_read : DefOk P w K mg base "_law_read" lr ["state", "form"] (spReadL K n)) : DefOk P w K mg base "_law_least" (lr + 1) ["form"] (spLeast K n) := by
  refine F.ok sc_law_least (fun vs H Q E h => ?_) (fun fA cdv A outer s H vs Q E hr h => ?_)
  · obtain ⟨_, _, rfl, _⟩ := h
    rfl
  obtain ⟨v, f, rfl, hf, hw, k⟩ := h
  refine ⟨_, (pss_one (ps_ret (pe_callD d__law_read (hr.mono (by omega)) rfl (pa_cons (pe_disp (pps_cons pe_str (pe_lst pa_nil) (pps_cons pe_str pe_int pps_nil)) (by rfl) (by rfl) (fun z => by cases z) (by decide)) (pa_cons (pv 0) pa_nil))))), ?_⟩
  intro st hst
  have s1 : Same H (upd H st (.dK [])) := .new hst
  refine ⟨(by show 0 ≤ sizeLine; decide), fun p hp => ?_⟩
  have npst : p ≠ st := fun e => by rw [e, upd_same] at hp; cases hp
  refine ⟨by rw [upd_ne npst.symm, upd_same], stK p 0, rfl, (by show 2 ≤ 15; decide), ?_⟩
  have S2 : StateAt (upd (upd (upd H st (.dK [])) p (.lst [])) st (.dK (mergeK [] (stK p 0)))) st p := ⟨[], 0, upd_same, by rw [upd_ne npst, upd_same]; rfl⟩
  have s2 : Same H (upd (upd (upd H st (.dK [])) p (.lst [])) st (.dK (mergeK [] (stK p 0)))) := (s1.trans (Same.new hp)).mut hst
  generalize upd (upd (upd H st (.dK [])) p (.lst [])) st (.dK (mergeK [] (stK p 0))) = H2 at S2 s2 ⊢
  refine ⟨_, rfl, st, p, v, f, rfl, S2, dpS s2 hf, hw, fun H' D u rv L oq r ws b S' hD O M => ?_⟩
  refine k H' D u rv L oq r ws (fun a o e => ?_) hD O M
  exact b a o (s2 _ _ e) (ne_of_none e hst)
/-- _law_read at every depth -/
theorem ok_law_read (F : DefAt K mg "_law_read" s_law_read ["state", "form"]) (FL : DefAt K mg "_law_least" s_law_least ["form"]) (d__law_cell : DefOk P w K mg base "_law_cell" 1 ["state"] spCell) (d__law_nothing : DefOk P w K mg base "_law_nothing" 6 ["form"] (spNothing K 5)) (d__law_often : DefOk P w K mg base "_law_often" 1 ["form", "cell"] (spOften K)) (b_len : mg "len" = none) (b_range : mg "range" = none) :
    ∀ n : Nat, n ≤ 3 → DefOk P w K mg base "_law_read" (7 + 2 * n) ["state", "form"] (spReadL K n)
  | 0, _ => (ok_law_read0 F d__law_cell).mono (by omega)
  | n + 1, h => by
    have d1 := ok_law_read F FL d__law_cell d__law_nothing d__law_often b_len b_range n (by omega)
    have d2 := ok_law_least n (7 + 2 * n) FL d1
    exact ok_law_readS n (by omega) F d__law_cell (lr := 7 + 2 * n) (by omega) d1 d2 d__law_nothing d__law_often b_len b_range
end
end Sw
set_option Elab.async false
set_option maxRecDepth 100000
set_option maxHeartbeats 8000000
namespace Sw
open PySem L2 PySem.Spec PyProof.Rows
/-! ### what the law takes of a thing: its row -/
mutual
theorem ok_nd : ∀ (q : Rdg) (f : Fm) (r : RowS), q.ok f r → r.length ≤ ndD q.dat
  | .leaf, .sign s, r, h => by rw [Rdg.ok] at h; rw [h]; simp [Rdg.dat, ndD, nds]
  | .row prs, .row ps, r, h => by
    rw [Rdg.ok] at h
    have := okRow_nd prs ps 0 ps.length r h.2
    simp only [Rdg.dat, ndD, nds]
    omega
  | .pick k q, .pick ps, r, h => by
    rw [Rdg.ok] at h
    obtain ⟨p, h1, h2⟩ := h
    have := ok_nd q p r h2
    simp only [Rdg.dat, ndD, nds]
    omega
  | .times qs, .times p low high, r, h => by
    rw [Rdg.ok] at h
    have := okAll_nd qs p r h.2.2.2
    simp only [Rdg.dat, ndD, nds]
    omega
  | .leaf, .row _, r, h => by rw [Rdg.ok] at h; exact h.elim; all_goals intros; contradiction
  | .leaf, .pick _, r, h => by rw [Rdg.ok] at h; exact h.elim; all_goals intros; contradiction
  | .leaf, .times _ _ _, r, h => by rw [Rdg.ok] at h; exact h.elim; all_goals intros; contradiction
  | .row _, .sign _, r, h => by rw [Rdg.ok] at h; exact h.elim; all_goals intros; contradiction
  | .row _, .pick _, r, h => by rw [Rdg.ok] at h; exact h.elim; all_goals intros; contradiction
  | .row _, .times _ _ _, r, h => by rw [Rdg.ok] at h; exact h.elim; all_goals intros; contradiction
  | .pick _ _, .sign _, r, h => by rw [Rdg.ok] at h; exact h.elim; all_goals intros; contradiction
  | .pick _ _, .row _, r, h => by rw [Rdg.ok] at h; exact h.elim; all_goals intros; contradiction
  | .pick _ _, .times _ _ _, r, h => by rw [Rdg.ok] at h; exact h.elim; all_goals intros; contradiction
  | .times _, .sign _, r, h => by rw [Rdg.ok] at h; exact h.elim; all_goals intros; contradiction
  | .times _, .row _, r, h => by rw [Rdg.ok] at h; exact h.elim; all_goals intros; contradiction
  | .times _, .pick _, r, h => by rw [Rdg.ok] at h; exact h.elim; all_goals intros; contradiction
theorem okRow_nd : ∀ (prs : List (Nat × Rdg)) (ps : List Fm) (lo hi : Nat) (r : RowS), Rdg.okRow prs ps lo hi r → r.length ≤ nds (Rdg.datP prs)
  | [], ps, lo, hi, r, h => by rw [Rdg.okRow] at h; rw [h.1]; exact Nat.zero_le _
  | (j, q) :: prs, ps, lo, hi, r, h => by
    rw [Rdg.okRow] at h
    obtain ⟨h1, h2, h3, p, r1, r2, h4, rfl, h5, h6⟩ := h
    have a := ok_nd q p r1 h5
    have b := okRow_nd prs ps (j + 1) hi r2 h6
    simp only [Rdg.datP, ndD, nds, List.length_append]
    omega
theorem okAll_nd : ∀ (qs : List Rdg) (p : Fm) (r : RowS), Rdg.okAll qs p r → r.length ≤ nds (Rdg.datL qs)
  | [], p, r, h => by rw [Rdg.okAll] at h; rw [h]; exact Nat.zero_le _
  | q :: qs, p, r, h => by
    rw [Rdg.okAll] at h
    obtain ⟨r1, r2, rfl, h1, h2⟩ := h
    have a := ok_nd q p r1 h1
    have b := okAll_nd qs p r2 h2
    simp only [Rdg.datL, nds, List.length_append]
    omega
end
theorem Rd1.len {f : Fm} {d : PyData} {r : RowS} (h : Rd1 f d r) : r.length ≤ ndD d := by
  obtain ⟨q, rfl, hq⟩ := h
  exact ok_nd q f r hq
mutual
theorem dat_inj : ∀ (a b : Rdg), a.dat = b.dat → a = b
  | .leaf, .leaf, _ => rfl
  | .row ps, .row qs, h => by
    simp only [Rdg.dat, PyData.tuple.injEq, List.cons.injEq, and_true, true_and] at h
    rw [datP_inj ps qs h]
  | .pick k a, .pick j b, h => by
    simp only [Rdg.dat, PyData.tuple.injEq, List.cons.injEq, and_true, true_and, PyData.int.injEq] at h
    rw [dat_inj a b h.2, show k = j by omega]
  | .times ps, .times qs, h => by
    simp only [Rdg.dat, PyData.tuple.injEq, List.cons.injEq, and_true, true_and] at h
    rw [datL_inj ps qs h]
  | .leaf, .row _, h => by simp [Rdg.dat] at h
  | .leaf, .pick _ _, h => by simp [Rdg.dat] at h
  | .leaf, .times _, h => by simp [Rdg.dat] at h
  | .row _, .leaf, h => by simp [Rdg.dat] at h
  | .row _, .pick _ _, h => by simp [Rdg.dat] at h
  | .row _, .times _, h => by simp only [Rdg.dat, PyData.tuple.injEq, List.cons.injEq] at h; exact absurd (PyData.str.inj h.1) (by decide)
  | .pick _ _, .leaf, h => by simp [Rdg.dat] at h
  | .pick _ _, .row _, h => by simp [Rdg.dat] at h
  | .pick _ _, .times _, h => by simp [Rdg.dat] at h
  | .times _, .leaf, h => by simp [Rdg.dat] at h
  | .times _, .row _, h => by simp only [Rdg.dat, PyData.tuple.injEq, List.cons.injEq] at h; exact absurd (PyData.str.inj h.1) (by decide)
  | .times _, .pick _ _, h => by simp [Rdg.dat] at h
theorem datP_inj : ∀ (a b : List (Nat × Rdg)), Rdg.datP a = Rdg.datP b → a = b
  | [], [], _ => rfl
  | (k, a) :: ps, (j, b) :: qs, h => by
    simp only [Rdg.datP, PyData.tuple.injEq, List.cons.injEq, and_true, true_and, PyData.int.injEq] at h
    rw [dat_inj a b h.1.2, datP_inj ps qs h.2, show k = j by omega]
  | [], (_, _) :: _, h => by simp [Rdg.datP] at h
  | (_, _) :: _, [], h => by simp [Rdg.datP] at h
theorem datL_inj : ∀ (a b : List Rdg), Rdg.datL a = Rdg.datL b → a = b
  | [], [], _ => rfl
  | a :: ps, b :: qs, h => by
    simp only [Rdg.datL, List.cons.injEq] at h
    rw [dat_inj a b h.1, datL_inj ps qs h.2]
  | [], _ :: _, h => by simp [Rdg.datL] at h
  | _ :: _, [], h => by simp [Rdg.datL] at h
end
theorem Rd1.one {f : Fm} {d : PyData} {r s : RowS} (h : Rd1 f d r) (g : Rd1 f d s) : r = s := by
  obtain ⟨q, rfl, hq⟩ := h
  obtain ⟨p, e, hp⟩ := g
  have := dat_inj q p e
  subst this
  exact ok_one q f r s hq hp
def nmL : List (Fm × PyData) → Nat
  | [] => 0
  | p :: L => ndD p.2 + nmL L
theorem nmL_app : ∀ A B : List (Fm × PyData), nmL (A ++ B) = nmL A + nmL B
  | [], B => by rw [List.nil_append, nmL, Nat.zero_add]
  | p :: A, B => by rw [List.cons_append, nmL, nmL, nmL_app A B, Nat.add_assoc]
theorem nmL_take (L : List (Fm × PyData)) (i : Nat) : nmL (L.take i) ≤ nmL L := by
  have := nmL_app (L.take i) (L.drop i)
  rw [List.take_append_drop] at this
  omega
theorem nmL_its (g : Fm) : ∀ kds : List (Nat × PyData), nmL (itsOf g kds) = sumN kds
  | [] => rfl
  | p :: kds => by
    show ndD p.2 + nmL (itsOf g kds) = _
    rw [nmL_its g kds, sumN]
theorem RsI.len : ∀ {L : List (Fm × PyData)} {s : RowS}, RsI L s → s.length ≤ nmL L
  | [], s, h => by rw [show s = [] from h]; exact Nat.zero_le _
  | (g, d) :: L, s, h => by
    obtain ⟨s1, s2, rfl, h1, h2⟩ := h
    have a := h1.len
    have b := RsI.len h2
    rw [List.length_append, nmL]
    show _ ≤ ndD d + nmL L
    omega
theorem RsI.get : ∀ {L : List (Fm × PyData)} {s : RowS} {i : Nat} {p : Fm × PyData}, RsI L s → L[i]? = some p → ∃ t, Rd1 p.1 p.2 t
  | [], s, i, p, h, e => by simp at e
  | (g, d) :: L, s, 0, p, h, e => by
    obtain ⟨s1, s2, rfl, h1, h2⟩ := h
    simp at e
    subst e
    exact ⟨s1, h1⟩
  | (g, d) :: L, s, i + 1, p, h, e => by
    obtain ⟨s1, s2, rfl, h1, h2⟩ := h
    rw [List.getElem?_cons_succ] at e
    exact RsI.get h2 e
theorem RsI.snoc {L : List (Fm × PyData)} {s t : RowS} {p : Fm × PyData} (h : RsI L s) (g : Rd1 p.1 p.2 t) : RsI (L ++ [p]) (s ++ t) := RsI.app.mpr ⟨s, t, rfl, h, t, [], by rw [List.append_nil], g, rfl⟩
/-- a row, or None where there is none -/
def TkV (K : PySem.W.Frag) (H : Hp) (u : V) (f : Fm) (d : PyData) : Prop := (u = .non ∧ ∀ r, ¬ Rd1 f d r) ∨ ∃ (a : Addr) (r : RowS), u = .ref a ∧ SqT K H a (r.map V.str) ∧ Rd1 f d r
theorem TkV.same {K : PySem.W.Frag} {H H' : Hp} {u : V} {f : Fm} {d : PyData} (h : TkV K H u f d) (s : Same H H') : TkV K H' u f d := by
  rcases h with h | ⟨a, r, e, ha, hr⟩
  · exact .inl h
  · exact .inr ⟨a, r, e, s.sqT ha, hr⟩
theorem TkV.w {K : PySem.W.Frag} {H : Hp} {p : Addr} {xs : List V} {o : HO} {u : V} {f : Fm} {d : PyData} (h : TkV K H u f d) (hp : H p = some (.lst xs)) : TkV K (upd H p o) u f d := by
  rcases h with h | ⟨a, r, e, ha, hr⟩
  · exact .inl h
  · exact .inr ⟨a, r, e, sqTW hp ha, hr⟩
def PutV (K : PySem.W.Frag) (H : Hp) (u : V) (L : List (Fm × PyData)) : Prop := (u = .non ∧ ∀ s, ¬ RsI L s) ∨ ∃ (b : Addr) (r : RowS), u = .ref b ∧ SqT K H b (r.map V.str) ∧ RsI L r
section
variable {P : Program} {w : World} {K : PySem.W.Frag} {mg : Str → Option Value} {base : Heap}
abbrev n_law_put : List Str := ["rows", "found", "row"]
theorem sc_law_put : FnScope n_law_put ["rows"] (defScope s_law_put) := ⟨rfl, rfl, rfl, by decide +kernel, rfl, by decide +kernel, by decide +kernel⟩
def spPut (K : PySem.W.Frag) : Sp := fun vs H Q _ => ∃ (a : Addr) (ws : List V) (L : List (Fm × PyData)), vs = [.ref a] ∧ H a = some (.lst ws) ∧ Paired (fun v p => TkV K H v p.1 p.2) ws L ∧ nmL L ≤ 100000 ∧ ∀ H' u, Same H H' → PutV K H' u L → Q u H'
theorem ok_law_put (F : DefAt K mg "_law_put" s_law_put ["rows"]) : DefOk P w K mg base "_law_put" 1 ["rows"] (spPut K) := by
  refine F.ok sc_law_put (fun vs H Q E h => ?_) (fun fA cdv A outer s H vs Q E hr h => ?_)
  · obtain ⟨_, _, _, rfl, _⟩ := h
    rfl
  obtain ⟨a, ws, L, rfl, ha, hws, hnm, k⟩ := h
  refine ⟨_, (pss_cons (ps_set (i := 1) sc_law_put.nd rfl (Or.inl rfl) (pe_tup pa_nil))
    (pss_cons (ps_for PassesOwn.never rfl (pi_list (pv 0)) (pg_name (i := 2) sc_law_put.nd rfl (Or.inl rfl))
      (pss_cons (ps_if (pt_cmp (pc_isN (pv 2)) rfl) (pss_one (ps_ret pe_non)) pss_nil)
    (pss_one (ps_set (i := 1) sc_law_put.nd rfl (Or.inl rfl) (pe_op op_catA (pv 1) (pv 2))))))
    (pss_one (ps_ret (pv 1))))), ?_⟩
  refine ⟨(by show 0 ≤ sizeLine; decide), fun q0 n0 => ?_⟩
  have s0 : Same H (upd H q0 (.tup [])) := .new n0
  refine ⟨_, rfl, a, rfl, ⟨_, sL (s0 _ _ ha)⟩, ?_⟩
  refine for_list (K := K) (a := a) (xs := ws) (fun i σ H' => ∃ (fa : Addr) (r : RowS) (o2 : Option V), σ = [some (.ref a), some (.ref fa), o2] ∧ Same H H' ∧ SqT K H' fa (r.map V.str) ∧ RsI (L.take i) r)
    ⟨q0, [], none, rfl, s0, sT upd_same, rfl⟩ (fun i σ H' _ ⟨_, _, _, _, g, _⟩ => sL (g _ _ ha)) ?_ ?_
  · rintro i x σ H1 hx ⟨fa, r, o2, rfl, s1, hfa, hr⟩
    obtain ⟨p, hp, htk⟩ := pairedAtL hws hx
    rcases htk.same s1 with ⟨rfl, hno⟩ | ⟨b, t, rfl, hb, ht⟩
    · refine ⟨_, rfl, _, rfl, iteT ?_⟩
      refine k H1 .non s1 (.inl ⟨rfl, fun s hs => ?_⟩)
      obtain ⟨t, ht⟩ := hs.get hp
      exact hno t ht
    · refine ⟨_, rfl, _, rfl, iteF ?_⟩
      have hrt := hr.snoc ht
      rw [← take_snoc hp] at hrt
      have h1 := hrt.len
      have h2 := nmL_take L (i + 1)
      rw [List.length_append] at h1
      refine ⟨_, rfl, _, rfl, ?_⟩
      refine catS hfa hb (by omega) fun H2 q2 s2 hq2 => ?_
      exact ⟨q2, r ++ t, _, rfl, s1.trans s2, hq2, hrt⟩
  · rintro σ H1 ⟨fa, r, o2, rfl, s1, hfa, hr⟩
    have hl : ws.length = L.length := Paired.length hws
    rw [hl, List.take_length] at hr
    exact ⟨_, rfl, k H1 (.ref fa) s1 (.inr ⟨fa, r, rfl, hfa, hr⟩)⟩
end
end Sw
set_option Elab.async false
set_option maxRecDepth 100000
set_option maxHeartbeats 8000000
namespace Sw
open PySem L2 PySem.Spec PyProof.Rows
theorem fmsDrop {K : PySem.W.Frag} {H : Hp} : ∀ (m : Nat) {vs : List V} {fs : List Fm}, FmsAt K H vs fs → FmsAt K H (vs.drop m) (fs.drop m)
  | 0, _, _, h => h
  | m + 1, [], [], h => .nil
  | m + 1, _ :: _, _ :: _, h => by
    cases h with
    | cons a b => exact fmsDrop m b
  | m + 1, [], _ :: _, h => by cases h
  | m + 1, _ :: _, [], h => by cases h
theorem fmsTake {K : PySem.W.Frag} {H : Hp} : ∀ (m : Nat) {vs : List V} {fs : List Fm}, FmsAt K H vs fs → FmsAt K H (vs.take m) (fs.take m)
  | 0, _, _, h => .nil
  | m + 1, [], [], h => .nil
  | m + 1, _ :: _, _ :: _, h => by
    cases h with
    | cons a b => exact .cons a (fmsTake m b)
  | m + 1, [], _ :: _, h => by cases h
  | m + 1, _ :: _, [], h => by cases h
theorem allNoth (l : List Fm) : (l.map Fm.nothing).all id = l.all (fun p => p.nothing) := by rw [List.all_map]; rfl
theorem nds_len : ∀ l : List PyData, l.length ≤ nds l
  | [] => Nat.le_refl _
  | d :: l => by
    rw [List.length_cons, nds]
    have := ndD_pos d
    have := nds_len l
    omega
theorem nds_mem : ∀ {l : List PyData} {d : PyData}, d ∈ l → ndD d ≤ nds l
  | e :: l, d, h => by
    rw [nds]
    rcases List.mem_cons.mp h with rfl | h
    · omega
    · have := nds_mem h
      omega
def spTaken (K : PySem.W.Frag) (n : Nat) : Sp := fun vs H Q _ => ∃ (v u : V) (f : Fm) (d : PyData), vs = [v, u] ∧ FmAt K H v f ∧ f.dp ≤ n ∧ f.size ≤ 1000 ∧ Dp K H u d ∧ SeqAt.shaped d = true ∧ ndD d ≤ 100000 ∧ ∀ H' x, Same H H' → TkV K H' x f d → Q x H'
def spRowT (K : PySem.W.Frag) (n : Nat) : Sp := fun vs H Q _ => ∃ (pa da : Addr) (us xs : List V) (ps : List Fm) (ds : List PyData), vs = [.ref pa, .ref da] ∧ SqT K H pa us ∧ FmsAt K H us ps ∧ SqT K H da xs ∧ DpAll K H xs ds ∧ (∀ p, p ∈ ps → p.dp ≤ n ∧ p.size ≤ 1000) ∧ ps.length ≤ 1000 ∧ n ≤ 5 ∧ SeqAt.shaped (.tuple ds) = true ∧ nds ds ≤ 100000 ∧
  ∀ H' x, Same H H' → ((x = .non ∧ gapD ds (ps.map Fm.nothing) 0 = none) ∨ ∃ kds, gapD ds (ps.map Fm.nothing) 0 = some kds ∧ PutV K H' x (itsOf (.row ps) kds)) → Q x H'
section
variable {P : Program} {w : World} {K : PySem.W.Frag} {mg : Str → Option Value} {base : Heap}
abbrev n_law_row_taken : List Str := ["parts", "pairs", "rows", "ahead", "pair", "part"]
theorem sc_law_row_taken : FnScope n_law_row_taken ["parts", "pairs"] (defScope s_law_row_taken) := ⟨rfl, rfl, rfl, by decide +kernel, rfl, by decide +kernel, by decide +kernel⟩
theorem ok_law_row_taken (n lt : Nat) (hlt : 6 ≤ lt) (F : DefAt K mg "_law_row_taken" s_law_row_taken ["parts", "pairs"]) (d__law_taken : DefOk P w K mg base "_law_taken" lt ["form", "thing"] (spTaken K n)) (d__law_nothing : DefOk P w K mg base "_law_nothing" 6 ["form"] (spNothing K 5)) (d__law_put : DefOk P w K mg base "_law_put" 1 ["rows"] (spPut K))
    (b_isinstance : mg "isinstance" = none) (b_len : mg "len" = none) (b_tuple : mg "tuple" = none) (b_bool : mg "bool" = none) (b_int : mg "int" = none) : DefOk P w K mg base "_law_row_taken" (lt + 1) ["parts", "pairs"] (spRowT K n) := by
  refine F.ok sc_law_row_taken (fun vs H Q E h => ?_) (fun fA cdv A outer s H vs Q E hr h => ?_)
  · obtain ⟨_, _, _, _, _, _, rfl, _⟩ := h
    rfl
  obtain ⟨pa, da, us, xs, ps, ds, rfl, hpa, hps, hda, hds, hpb, hpl, hn5, hsh, hnd, k⟩ := h
  refine ⟨_, (pss_cons (ps_set (i := 2) sc_law_row_taken.nd rfl (Or.inl rfl) (pe_lst pa_nil))
    (pss_cons (ps_set (i := 3) sc_law_row_taken.nd rfl (Or.inl rfl) (pe_un un_neg pe_int))
    (pss_cons (ps_for PassesOwn.never rfl (pi_tup (pv 1)) (pg_name (i := 4) sc_law_row_taken.nd rfl (Or.inl rfl))
      (pss_cons (ps_if (PW.pt (pw_or (pt_not (pt_val (pe_callB call_isi (by rfl) b_isinstance (by decide +kernel) (pa_cons (pv 4) (pa_cons (pe_bltn (v := .ty "tuple") (by rfl) b_tuple (by decide +kernel) rfl) pa_nil))))) (pw_or (pt_cmpR op_ne (pe_callB call_len_seq (by rfl) b_len PySem.boot_len (pa_cons (pv 4) pa_nil)) pe_int (nomark _)) (pw_or (pt_val (pe_callB call_isi (by rfl) b_isinstance (by decide +kernel) (pa_cons (pe_ix ix_tup (pv 4) pe_int (fun _ _ => rfl)) (pa_cons (pe_bltn (v := .ty "bool") (by rfl) b_bool (by decide +kernel) rfl) pa_nil)))) (pw_or1 (pt_not (pt_val (pe_callB call_isi (by rfl) b_isinstance (by decide +kernel) (pa_cons (pe_ix ix_tup (pv 4) pe_int (fun _ _ => rfl)) (pa_cons (pe_bltn (v := .ty "int") (by rfl) b_int (by decide +kernel) rfl) pa_nil)))))))))) (pss_one (ps_ret pe_non)) pss_nil)
    (pss_cons (ps_if (pt_not (pt_chain op_lt op_lt (pv 3) (pe_ix ix_tup (pv 4) pe_int (fun _ _ => rfl)) (pe_callB call_len_seq (by rfl) b_len PySem.boot_len (pa_cons (pv 0) pa_nil)))) (pss_one (ps_ret pe_non)) pss_nil)
    (pss_cons (ps_if (pt_cmpR op_gt (pe_callB call_len_seq (by rfl) b_len PySem.boot_len (pa_cons (pe_lc (own := [("part", 5)]) (g := gName 5) rfl sc_law_row_taken.nd (pi_tup (pe_slice sl_tupA (pv 0) (po_some (pe_op op_add (pv 3) pe_int)) (po_some (pe_ix ix_tup (pv 4) pe_int (fun _ _ => rfl))))) (blkOk_by (own := [("part", 5)]) (N := n_law_row_taken) (sc := defScope s_law_row_taken) (by decide +kernel)) (fun _ _ _ _ _ => (pg_name (i := 5) sc_law_row_taken.nd rfl (Or.inl rfl))) (fun _ _ _ _ _ => (pts_one (pt_not (pt_val (pe_callD d__law_nothing (hr.mono (by omega)) rfl (pa_cons (pv 5) pa_nil)))))) (fun _ _ _ _ _ => (pv 5))) pa_nil)) pe_int (nomark _)) (pss_one (ps_ret pe_non)) pss_nil)
    (pss_cons (ps_expr (pe_bm PySem.F.plainAttrs_list PySem.F.slot_list_append PySem.F.type_list_append mt_append (pv 2) (pa_cons (pe_callD d__law_taken (hr.mono (by omega)) rfl (pa_cons (pe_ix ix_tup (pv 0) (pe_ix ix_tup (pv 4) pe_int (fun _ _ => rfl)) (fun _ _ => rfl)) (pa_cons (pe_ix ix_tup (pv 4) pe_int (fun _ _ => rfl)) pa_nil))) pa_nil)))
    (pss_one (ps_set (i := 3) sc_law_row_taken.nd rfl (Or.inl rfl) (pe_ix ix_tup (pv 4) pe_int (fun _ _ => rfl)))))))))
    (pss_cons (ps_if (pt_cmpR op_gt (pe_callB call_len_seq (by rfl) b_len PySem.boot_len (pa_cons (pe_lc (own := [("part", 5)]) (g := gName 5) rfl sc_law_row_taken.nd (pi_tup (pe_slice sl_tupA (pv 0) (po_some (pe_op op_add (pv 3) pe_int)) po_none)) (blkOk_by (own := [("part", 5)]) (N := n_law_row_taken) (sc := defScope s_law_row_taken) (by decide +kernel)) (fun _ _ _ _ _ => (pg_name (i := 5) sc_law_row_taken.nd rfl (Or.inl rfl))) (fun _ _ _ _ _ => (pts_one (pt_not (pt_val (pe_callD d__law_nothing (hr.mono (by omega)) rfl (pa_cons (pv 5) pa_nil)))))) (fun _ _ _ _ _ => (pv 5))) pa_nil)) pe_int (nomark _)) (pss_one (ps_ret pe_non)) pss_nil)
    (pss_one (ps_ret (pe_callD d__law_put (hr.mono (by omega)) rfl (pa_cons (pv 2) pa_nil)))))))), ?_⟩
  have hxl : xs.length = ds.length := dpsLen hds
  have hul : us.length = ps.length := fmsLenA hps
  have hdl := nds_len ds
  refine ⟨(by show 0 ≤ sizeLine; decide), fun RL nRL => ?_⟩
  have s0 : Same H (upd H RL (.lst [])) := .new nRL
  refine ⟨_, rfl, _, rfl, da, rfl, ⟨_, s0.sqT hda⟩, ?_⟩
  refine for_tup (K := K) (a := da) (xs := xs) (fun m σ H' => ∃ (lo : Nat) (o4 : Option V) (kds : List (Nat × PyData)) (ws : List V) (ah : Int), σ = [some (.ref pa), some (.ref da), some (.ref RL), some (.int ah), o4, none] ∧ ah = (lo : Int) - 1 ∧ Same H H' ∧ H' RL = some (.lst ws) ∧ Paired (fun v p => TkV K H' v p.1 p.2) ws (itsOf (.row ps) kds) ∧ kds.length ≤ m ∧
      gapD ds (ps.map Fm.nothing) 0 = (gapD (ds.drop m) (ps.map Fm.nothing) lo).map (kds ++ ·))
    ⟨0, none, [], [], -1, rfl, rfl, s0, upd_same, .nil, Nat.le_refl _, by rw [List.drop_zero]; simp⟩ (fun m σ H' _ ⟨_, _, _, _, _, _, _, g, _⟩ => g.sqT hda) ?_ ?_
  · rintro m v σ H' hv ⟨lo, o4, kds, ws, ah, rfl, rfl, g1, hRL, hws, hkl, hgap⟩
    obtain ⟨d, hd, hdp⟩ := dpsAtV hds hv
    have hmlt := (List.getElem?_eq_some_iff.mp hd).1
    have hdp1 := dpS g1 hdp
    have hdrop : ds.drop m = d :: ds.drop (m + 1) := by
      obtain ⟨h1, h2⟩ := List.getElem?_eq_some_iff.mp hd
      rw [List.drop_eq_getElem_cons h1, h2]
    rw [hdrop] at hgap
    have no : (gapD (d :: ds.drop (m + 1)) (ps.map Fm.nothing) lo) = none → ∀ H'', Same H' H'' → Q .non H'' := fun e H'' s => by
      refine k H'' .non (g1.trans s) (.inl ⟨rfl, ?_⟩)
      rw [hgap, e]
      rfl
    refine ⟨_, rfl, _, .ty "tuple", _, _, _, rfl, .ty _, tyX hdp1, isTup hdp1, _, rfl, ?_⟩
    cases hdp1 with
    | non => exact iteT (no rfl _ (.refl _))
    | bl b => exact iteT (no rfl _ (.refl _))
    | int i => exact iteT (no rfl _ (.refl _))
    | str x => exact iteT (no rfl _ (.refl _))
    | lst h1 h2 => exact iteT (no rfl _ (.refl _))
    | @tup b ys es hb hyd =>
      refine iteF ?_
      have hyl := dpsLen hyd
      refine ⟨_, rfl, b, _, rfl, .inr hb, rfl, _, rfl, ?_⟩
      by_cases h2 : es.length = 2
      · match es, h2 with
        | [k0, d0], _ =>
        obtain ⟨y1, ys1, rfl, e2, hy1⟩ := dpCons hyd
        obtain ⟨y2, ys2, rfl, e3, hy2⟩ := dpCons hy1
        cases dpNil hy2
        have hsd : SeqAt.shaped (.tuple [k0, d0]) = true := shMem hsh (List.mem_of_getElem? hd)
        have hnd0 : ndD d0 ≤ 100000 := by
          have h3 := nds_mem (List.mem_of_getElem? hd)
          simp only [ndD, nds] at h3
          omega
        refine iteF ?_
        refine ⟨_, rfl, b, _, 0, _, rfl, rfl, hb, atI_nat (j := 0) rfl, _, .ty "bool", _, _, _, rfl, .ty _, tyX e2, isBool e2, _, rfl, ?_⟩
        have nk : isIntD k0 = false ∨ isBoolD k0 = true → gapD (.tuple [k0, d0] :: ds.drop (m + 1)) (ps.map Fm.nothing) lo = none := by
          intro z
          rw [gapD]
          have : numD k0 (ps.map Fm.nothing).length = none := by
            unfold numD
            cases k0 with
            | int i => rcases z with z | z <;> cases z
            | _ => rfl
          rw [this]
        cases eb : isBoolD k0 with
        | true => exact iteT (no (nk (.inr eb)) _ (.refl _))
        | false =>
        refine iteF ?_
        refine ⟨_, rfl, b, _, 0, _, rfl, rfl, hb, atI_nat (j := 0) rfl, _, .ty "int", _, _, _, rfl, .ty _, tyX e2, isInt e2, _, rfl, ?_⟩
        cases ei : isIntD k0 with
        | false => exact iteT (no (nk (.inl ei)) _ (.refl _))
        | true =>
        refine iteF ?_
        obtain ⟨i, rfl⟩ : ∃ i, k0 = .int i := by
          cases k0 with
          | int i => exact ⟨i, rfl⟩
          | bool b => cases eb
          | _ => cases ei
        cases dpInt e2
        have hpa1 := g1.sqT hpa
        -- the number of a part
        refine ⟨_, rfl, _, rfl, b, _, 0, _, rfl, rfl, hb, atI_nat (j := 0) rfl, _, _, rfl, rfl, _, rfl, ?_⟩
        by_cases hlo : (lo : Int) - 1 < i
        · refine iteT' (decide_eq_true hlo) ?_
          refine ⟨_, rfl, pa, _, rfl, .inr hpa1, _, _, rfl, rfl, _, rfl, ?_⟩
          by_cases hhi : i < (us.length : Int)
          · rw [decide_eq_true hhi]
            refine iteF ?_
            obtain ⟨j, rfl⟩ : ∃ j : Nat, i = (j : Int) := ⟨i.toNat, by omega⟩
            have hj : j < ps.length := by omega
            have ej : numD (.int (j : Int)) (ps.map Fm.nothing).length = some j := num_some (by rw [List.length_map]; exact hj)
            have hgd : gapD (.tuple [.int (j : Int), d0] :: ds.drop (m + 1)) (ps.map Fm.nothing) lo = if lo ≤ j ∧ (((ps.map Fm.nothing).drop lo).take (j - lo)).all id then (gapD (ds.drop (m + 1)) (ps.map Fm.nothing) (j + 1)).map ((j, d0) :: ·) else none := by
              rw [gapD, ej]
            -- the parts between
            refine ⟨_, rfl, _, rfl, _, _, rfl, rfl, _, rfl, _, rfl, b, _, 0, _, rfl, rfl, hb, atI_nat (j := 0) rfl, _, rfl, ?_⟩
            rw [show (lo : Int) - 1 + 1 = (lo : Int) by omega]
            refine slA hpa1 fun H2 q s2 hq => ?_
            rw [cut_seg] at hq
            have hsg : FmsAt K H2 ((us.drop lo).take (j - lo)) ((ps.drop lo).take (j - lo)) := dpsS (g1.trans s2) (fmsTake _ (fmsDrop _ hps))
            have hsb : ∀ p, p ∈ (ps.drop lo).take (j - lo) → p.dp ≤ 5 ∧ p.size ≤ 1000 := fun p hp => by
              have := hpb p (List.mem_of_mem_drop (List.mem_of_mem_take hp))
              exact ⟨by omega, this.2⟩
            have hsl : ((ps.drop lo).take (j - lo)).length ≤ 1000 := by rw [List.length_take, List.length_drop]; omega
            refine ⟨q, rfl, ⟨_, hq⟩, fun D nD => ?_⟩
            refine lc_tup (K := K) (a := q) (xs := ((us.drop lo).take (j - lo))) (fun i Hx => ∃ us' : List V, Same H2 Hx ∧ Hx D = some (.lst us') ∧ us'.length = ((((ps.drop lo).take (j - lo)).take i).filter fun p => !p.nothing).length) ⟨[], .new nD, upd_same, rfl⟩ (fun i Hx _ ⟨_, g, _⟩ => g.sqT hq) ?_ ?_
            · rintro i x Hx hx ⟨us', sx, hDx, hlx⟩
              obtain ⟨p, hp, hpx⟩ := fmsAtI hsg hx
              have hpm := List.mem_of_getElem? hp
              obtain ⟨z1, z2⟩ := hsb p hpm
              have hul : us'.length ≤ 1000 := by
                rw [hlx]
                refine Nat.le_trans (List.length_filter_le _ _) ?_
                rw [List.length_take]
                omega
              refine ⟨rfl, ?_⟩
              refine ⟨_, rfl, x, p, rfl, dpS sx hpx, z1, z2, fun Hy sy => ⟨_, rfl, ?_⟩⟩
              rw [List.take_add_one, hp, Option.toList_some, filter_snoc]
              cases e : p.nothing with
              | true => exact iteF ⟨us', sx.trans sy, sy _ _ hDx, by rw [hlx]; simp⟩
              | false => exact iteT ⟨_, rfl, us', sy _ _ hDx, szb (by omega), us' ++ [x], (sx.trans sy).mut nD, upd_same, by rw [List.length_append, hlx]; simp⟩
            · rintro Hx ⟨us', sx, hDx, hlx⟩
              rw [fmsLenA hsg, List.take_length] at hlx
              refine ⟨D, us', rfl, .inl (sL hDx), _, _, rfl, rfl, _, rfl, ?_⟩
              have hall : decide (us'.length = 0) = ((ps.drop lo).take (j - lo)).all (fun p : Fm => p.nothing) := by rw [hlx]; exact all_filter (fun p : Fm => p.nothing) _
              have hal2 : (((ps.map Fm.nothing).drop lo).take (j - lo)).all id = ((ps.drop lo).take (j - lo)).all (fun p => p.nothing) := by rw [← List.map_drop, ← List.map_take, allNoth]
              by_cases hz : us'.length = 0
              · refine iteF' (by rw [hz]; decide) ?_
                rw [decide_eq_true hz] at hall
                -- the part itself
                have sx' := (g1.trans s2).trans sx
                have sxx := s2.trans sx
                obtain ⟨pt, hpt⟩ : ∃ pt, ps[j]? = some pt := ⟨_, List.getElem?_eq_getElem hj⟩
                obtain ⟨pv', hpv'⟩ : ∃ y, us[j]? = some y := ⟨_, List.getElem?_eq_getElem (by omega)⟩
                obtain ⟨pt', hpt', hpd⟩ := fmsAtI hps hpv'
                rw [hpt] at hpt'
                cases hpt'
                have hptb := hpb pt (List.mem_of_getElem? hpt)
                refine ⟨_, rfl, .inl ⟨rfl, _, sL (sxx _ _ hRL)⟩, ?_⟩
                refine ⟨_, rfl, _, rfl, b, _, 0, _, rfl, rfl, sxx.sqT hb, atI_nat (j := 0) rfl, pa, _, j, _, rfl, rfl, sxx.sqT hpa1, at_of (j := j) rfl hpv', _, rfl, b, _, 1, _, rfl, rfl, sxx.sqT hb, atI_nat (j := 1) rfl, ?_⟩
                refine ⟨pv', y2, pt, d0, rfl, dpS sx' hpd, hptb.1, hptb.2, dpS sxx e3, shMem hsd (by simp), hnd0, fun Hz z sz htk => ?_⟩
                have hRL2 := (sxx.trans sz) _ _ hRL
                have hwl := Paired.length hws
                have hil : (itsOf (.row ps) kds).length = kds.length := by unfold itsOf; rw [List.length_map]
                refine ⟨RL, ws, z, rfl, rfl, hRL2, szb (by omega), ?_⟩
                have hb3 : SqT K (upd Hz RL (.lst (ws ++ [z]))) b [.int (j : Int), y2] := sqTW hRL2 ((sxx.trans sz).sqT hb)
                refine ⟨_, rfl, b, _, 0, _, rfl, rfl, hb3, atI_nat (j := 0) rfl, j + 1, _, kds ++ [(j, d0)], ws ++ [z], (j : Int), rfl, by omega, (sx'.trans sz).mut nRL, upd_same, ?_, by rw [List.length_append, List.length_singleton]; omega, ?_⟩
                · have ei2 : itsOf (.row ps) (kds ++ [(j, d0)]) = itsOf (.row ps) kds ++ [(pt, d0)] := by
                    unfold itsOf
                    rw [List.map_append]
                    congr 1
                    show [((Fm.row ps).part j, d0)] = _
                    rw [show (Fm.row ps).part j = pt from by show (ps[j]?).getD _ = pt; rw [hpt]; rfl]
                  rw [ei2]
                  exact pairedApp (pairedMap hws fun _ _ q => (q.same (sxx.trans sz)).w hRL2) (.cons (htk.w hRL2) .nil)
                · rw [hgap, hgd, if_pos ⟨by omega, by rw [hal2]; exact hall.symm⟩]
                  cases gapD (ds.drop (m + 1)) (ps.map Fm.nothing) (j + 1) with
                  | none => rfl
                  | some r => simp
              · rw [decide_eq_false hz] at hall
                refine iteT' (decide_eq_true (by omega)) ?_
                refine no ?_ _ (s2.trans sx)
                rw [hgd, if_neg (fun h => by rw [hal2, ← hall] at h; exact Bool.false_ne_true h.2)]
          · rw [decide_eq_false hhi]
            refine iteT ?_
            refine no ?_ _ (.refl _)
            rw [gapD]
            have : numD (.int i) (ps.map Fm.nothing).length = none := by
              unfold numD
              dsimp only
              rw [if_neg (fun h => by have := h.2; rw [List.length_map] at this; omega)]
            rw [this]
        · refine iteF' (by rw [decide_eq_false hlo]; exact Bool.false_ne_true) ?_
          refine ⟨_, rfl, iteT ?_⟩
          refine no ?_ _ (.refl _)
          rw [gapD]
          cases ej : numD (.int i) (ps.map Fm.nothing).length with
          | none => rfl
          | some j =>
            dsimp only
            obtain ⟨e, _⟩ := num_of ej
            have e' := PyData.int.inj e
            rw [if_neg (fun h => by have := h.1; omega)]
      · rw [show decide (V.int ((ys.length : Nat) : Int) = V.int 2) = false from decide_eq_false fun e => h2 (by have := V.int.inj e; omega)]
        refine iteT (no ?_ _ (.refl _))
        match es, h2 with
        | [], _ => rfl
        | [_], _ => rfl
        | [_, _], h => exact absurd rfl h
        | _ :: _ :: _ :: _, _ => rfl
  · rintro σ H' ⟨lo, o4, kds, ws, ah, rfl, rfl, g1, hRL, hws, hkl, hgap⟩
    rw [hxl, List.drop_length] at hgap
    have hpa1 := g1.sqT hpa
    refine ⟨_, rfl, _, rfl, _, _, rfl, rfl, ?_⟩
    dsimp only
    rw [show (lo : Int) - 1 + 1 = (lo : Int) by omega]
    refine ⟨_, rfl, ?_⟩
    unfold tNoPart
    refine slA hpa1 fun H2 q s2 hq => ?_
    rw [cut_drop] at hq
    have hsg : FmsAt K H2 (us.drop lo) (ps.drop lo) := dpsS (g1.trans s2) (fmsDrop _ hps)
    have hsb : ∀ p, p ∈ ps.drop lo → p.dp ≤ 5 ∧ p.size ≤ 1000 := fun p hp => by
      have := hpb p (List.mem_of_mem_drop hp)
      exact ⟨by omega, this.2⟩
    have hsl : (ps.drop lo).length ≤ 1000 := by rw [List.length_drop]; omega
    refine ⟨q, rfl, ⟨_, hq⟩, fun D nD => ?_⟩
    refine lc_tup (K := K) (a := q) (xs := (us.drop lo)) (fun i Hx => ∃ us' : List V, Same H2 Hx ∧ Hx D = some (.lst us') ∧ us'.length = (((ps.drop lo).take i).filter fun p => !p.nothing).length) ⟨[], .new nD, upd_same, rfl⟩ (fun i Hx _ ⟨_, g, _⟩ => g.sqT hq) ?_ ?_
    · rintro i x Hx hx ⟨us', sx, hDx, hlx⟩
      obtain ⟨p, hp, hpx⟩ := fmsAtI hsg hx
      have hpm := List.mem_of_getElem? hp
      obtain ⟨z1, z2⟩ := hsb p hpm
      have hul : us'.length ≤ 1000 := by
        rw [hlx]
        refine Nat.le_trans (List.length_filter_le _ _) ?_
        rw [List.length_take]
        omega
      refine ⟨rfl, ?_⟩
      refine ⟨_, rfl, x, p, rfl, dpS sx hpx, z1, z2, fun Hy sy => ⟨_, rfl, ?_⟩⟩
      rw [List.take_add_one, hp, Option.toList_some, filter_snoc]
      cases e : p.nothing with
      | true => exact iteF ⟨us', sx.trans sy, sy _ _ hDx, by rw [hlx]; simp⟩
      | false => exact iteT ⟨_, rfl, us', sy _ _ hDx, szb (by omega), us' ++ [x], (sx.trans sy).mut nD, upd_same, by rw [List.length_append, hlx]; simp⟩
    · rintro Hx ⟨us', sx, hDx, hlx⟩
      rw [fmsLenA hsg, List.take_length] at hlx
      refine ⟨D, us', rfl, .inl (sL hDx), _, _, rfl, rfl, _, rfl, ?_⟩
      have hall : decide (us'.length = 0) = (ps.drop lo).all (fun p : Fm => p.nothing) := by rw [hlx]; exact all_filter (fun p : Fm => p.nothing) _
      have hal2 : ((ps.map Fm.nothing).drop lo).all id = (ps.drop lo).all (fun p => p.nothing) := by rw [← List.map_drop, allNoth]
      have sxx := s2.trans sx
      by_cases hz : us'.length = 0
      · refine iteF' (by rw [hz]; decide) ?_
        rw [decide_eq_true hz] at hall
        have hg2 : gapD ds (ps.map Fm.nothing) 0 = some kds := by
          rw [hgap, gapD, if_pos (by rw [hal2]; exact hall.symm)]
          simp
        have hnm : nmL (itsOf (.row ps) kds) ≤ 100000 := by
          rw [nmL_its]
          have h3 := (gap_of hg2).1
          have h4 := nds_pD kds
          rw [← h3] at h4
          omega
        refine ⟨_, rfl, RL, ws, _, rfl, sxx _ _ hRL, pairedMap hws fun _ _ q => q.same sxx, hnm, fun Hz z sz hz => ?_⟩
        exact k Hz z ((g1.trans sxx).trans sz) (.inr ⟨kds, hg2, hz⟩)
      · rw [decide_eq_false hz] at hall
        refine iteT' (decide_eq_true (by omega)) ?_
        refine k _ .non (g1.trans sxx) (.inl ⟨rfl, ?_⟩)
        rw [hgap, gapD, if_neg (by rw [hal2, ← hall]; exact Bool.false_ne_true)]
        rfl
end
end Sw
set_option Elab.async false
set_option maxRecDepth 100000
set_option maxHeartbeats 8000000
namespace Sw
open PySem L2 PySem.Spec PyProof.Rows
theorem inn_str {f : Fm} {e : PyData} {es : List PyData} (h : isStrD e = false) : innD f (.tuple (e :: es)) = none := by
  cases e with
  | str w => cases h
  | _ =>
    cases f with
    | sign x => cases es with
      | nil => rfl
      | cons _ _ => rfl
    | row ps => match es with
      | [] => rfl
      | [_] => rfl
      | _ :: _ :: _ => rfl
    | pick ps => match es with
      | [] => rfl
      | [_] => rfl
      | [_, _] => rfl
      | _ :: _ :: _ :: _ => rfl
    | times p l h => match es with
      | [] => rfl
      | [_] => rfl
      | _ :: _ :: _ => rfl
theorem tk_of {K : PySem.W.Frag} {H : Hp} {u : V} {g : Fm} {d : PyData} {kds : List (Nat × PyData)} (F : Fits g d kds) (hs : g.isSign = false) (h : PutV K H u (itsOf g kds)) : TkV K H u g d := by
  rcases h with ⟨e, h⟩ | ⟨b, r, e, hb, hr⟩
  · exact .inl ⟨e, fun s hs' => h s ((rd_in F hs s).mp hs')⟩
  · exact .inr ⟨b, r, e, hb, (rd_in F hs r).mpr hr⟩
theorem nmL_map (p : Fm) : ∀ ds : List PyData, nmL (ds.map fun d => (p, d)) = nds ds
  | [] => rfl
  | d :: ds => by rw [List.map_cons, nmL, nds, nmL_map p ds]
section
variable {P : Program} {w : World} {K : PySem.W.Frag} {mg : Str → Option Value} {base : Heap}
abbrev n_law_taken : List Str := ["form", "thing", "k", "good", "low", "inner"]
theorem sc_law_taken : FnScope n_law_taken ["form", "thing"] (defScope s_law_taken) := ⟨rfl, rfl, rfl, by decide +kernel, rfl, by decide +kernel, by decide +kernel⟩
theorem ok_law_taken0 (F : DefAt K mg "_law_taken" s_law_taken ["form", "thing"]) : DefOk P w K mg base "_law_taken" 6 ["form", "thing"] (spTaken K 0) := by
  refine F.ok sc_law_taken (fun vs H Q E h => ?_) (fun fA cdv A outer s H vs Q E hr h => ?_)
  · obtain ⟨_, _, _, _, rfl, _⟩ := h
    rfl
  · obtain ⟨_, _, f, _, _, _, q, _⟩ := h
    exact absurd (dp_pos f) (by omega)
theorem ok_law_takenS (n lt : Nat) (hn : n + 1 ≤ 5) (hlt : 6 ≤ lt) (F : DefAt K mg "_law_taken" s_law_taken ["form", "thing"]) (d__law_taken : DefOk P w K mg base "_law_taken" lt ["form", "thing"] (spTaken K n)) (d__law_row_taken : DefOk P w K mg base "_law_row_taken" (lt + 1) ["parts", "pairs"] (spRowT K n)) (d__law_nothing : DefOk P w K mg base "_law_nothing" 6 ["form"] (spNothing K 5)) (d__law_put : DefOk P w K mg base "_law_put" 1 ["rows"] (spPut K))
    (b_isinstance : mg "isinstance" = none) (b_len : mg "len" = none) (b_tuple : mg "tuple" = none) (b_bool : mg "bool" = none) (b_int : mg "int" = none) (b_str : mg "str" = none) : DefOk P w K mg base "_law_taken" (lt + 2) ["form", "thing"] (spTaken K (n + 1)) := by
  refine F.ok sc_law_taken (fun vs H Q E h => ?_) (fun fA cdv A outer s H vs Q E hr h => ?_)
  · obtain ⟨_, _, _, _, rfl, _⟩ := h
    rfl
  obtain ⟨v, u, f, d, rfl, hf, hdp, hsz, hd, hsh, hnd, k⟩ := h
  refine ⟨_, (pss_cons (ps_if (PW.pt (pw_or (pt_not (pt_val (pe_callB call_isi (by rfl) b_isinstance (by decide +kernel) (pa_cons (pv 1) (pa_cons (pe_bltn (v := .ty "tuple") (by rfl) b_tuple (by decide +kernel) rfl) pa_nil))))) (pw_or (pt_cmpR op_eq (pe_callB call_len_seq (by rfl) b_len PySem.boot_len (pa_cons (pv 1) pa_nil)) pe_int (nomark _)) (pw_or1 (pt_not (pt_val (pe_callB call_isi (by rfl) b_isinstance (by decide +kernel) (pa_cons (pe_ix ix_tup (pv 1) pe_int (fun _ _ => rfl)) (pa_cons (pe_bltn (v := .ty "str") (by rfl) b_str (by decide +kernel) rfl) pa_nil))))))))) (pss_one (ps_ret pe_non)) pss_nil)
    (pss_cons (ps_if (pt_cmpR op_eq (pe_ix ix_tup (pv 0) pe_int (fun _ _ => rfl)) pe_str (nomark _)) (pss_one (ps_ret (pe_ifExp (pt_cmpR (op_eqD hr.units) (pv 1) (pe_tup (pa_cons pe_str pa_nil)) (nomark _)) (pe_tup (pa_cons (pe_ix ix_tup (pv 0) pe_int (fun _ _ => rfl)) pa_nil)) pe_non))) pss_nil)
    (pss_cons (ps_if (PW.pt (pw_or (pt_cmpR op_ne (pe_ix ix_tup (pv 1) pe_int (fun _ _ => rfl)) (pe_ix ix_tup (pv 0) pe_int (fun _ _ => rfl)) (nomark _)) (pw_or1 (pt_cmpR op_ne (pe_callB call_len_seq (by rfl) b_len PySem.boot_len (pa_cons (pv 1) pa_nil)) (pe_ifExp (pt_cmpR op_eq (pe_ix ix_tup (pv 0) pe_int (fun _ _ => rfl)) pe_str (nomark _)) pe_int pe_int) (nomark _))))) (pss_one (ps_ret pe_non)) pss_nil)
    (pss_cons (ps_if (pt_cmpR op_eq (pe_ix ix_tup (pv 0) pe_int (fun _ _ => rfl)) pe_str (nomark _)) (pss_cons (ps_set (i := 2) sc_law_taken.nd rfl (Or.inl rfl) (pe_ix ix_tup (pv 1) pe_int (fun _ _ => rfl)))
    (pss_cons (ps_set (i := 3) sc_law_taken.nd rfl (Or.inl rfl) (pe_and (pe_callB call_isi (by rfl) b_isinstance (by decide +kernel) (pa_cons (pv 2) (pa_cons (pe_bltn (v := .ty "int") (by rfl) b_int (by decide +kernel) rfl) pa_nil))) (pe_and (pe_not (pe_callB call_isi (by rfl) b_isinstance (by decide +kernel) (pa_cons (pv 2) (pa_cons (pe_bltn (v := .ty "bool") (by rfl) b_bool (by decide +kernel) rfl) pa_nil)))) (pe_one (pe_chain op_le op_lt pe_int (pv 2) (pe_callB call_len_seq (by rfl) b_len PySem.boot_len (pa_cons (pe_ix ix_tup (pv 0) pe_int (fun _ _ => rfl)) pa_nil)))))))
    (pss_one (ps_ret (pe_ifExp (pt_val (pv 3)) (pe_callD d__law_taken (hr.mono (by omega)) rfl (pa_cons (pe_ix ix_tup (pe_ix ix_tup (pv 0) pe_int (fun _ _ => rfl)) (pv 2) (fun _ _ => rfl)) (pa_cons (pe_ix ix_tup (pv 1) pe_int (fun _ _ => rfl)) pa_nil))) pe_non))))) pss_nil)
    (pss_cons (ps_if (PW.pt (pw_or (pt_not (pt_val (pe_callB call_isi (by rfl) b_isinstance (by decide +kernel) (pa_cons (pe_ix ix_tup (pv 1) pe_int (fun _ _ => rfl)) (pa_cons (pe_bltn (v := .ty "tuple") (by rfl) b_tuple (by decide +kernel) rfl) pa_nil))))) (pw_or1 (pt_cmpR op_eq (pe_callB call_len_seq (by rfl) b_len PySem.boot_len (pa_cons (pe_ix ix_tup (pv 1) pe_int (fun _ _ => rfl)) pa_nil)) pe_int (nomark _))))) (pss_one (ps_ret pe_non)) pss_nil)
    (pss_cons (ps_if (pt_cmpR op_eq (pe_ix ix_tup (pv 0) pe_int (fun _ _ => rfl)) pe_str (nomark _)) (pss_cons (ps_set (i := 4) sc_law_taken.nd rfl (Or.inl rfl) (pe_ifExp (pt_val (pe_callD d__law_nothing (hr.mono (by omega)) rfl (pa_cons (pe_ix ix_tup (pv 0) pe_int (fun _ _ => rfl)) pa_nil))) pe_int (pe_ix ix_tup (pv 0) pe_int (fun _ _ => rfl))))
    (pss_cons (ps_if (PW.pt (pw_or (pt_cmpR op_lt (pe_callB call_len_seq (by rfl) b_len PySem.boot_len (pa_cons (pe_ix ix_tup (pv 1) pe_int (fun _ _ => rfl)) pa_nil)) (pv 4) (nomark _)) (pw_or1 (PW.pt (pw_and (pt_cmp (pc_notN (pe_ix ix_tup (pv 0) pe_int (fun _ _ => rfl))) rfl) (pw_and1 (pt_cmpR op_gt (pe_callB call_len_seq (by rfl) b_len PySem.boot_len (pa_cons (pe_ix ix_tup (pv 1) pe_int (fun _ _ => rfl)) pa_nil)) (pe_ix ix_tup (pv 0) pe_int (fun _ _ => rfl)) (nomark _)))))))) (pss_one (ps_ret pe_non)) pss_nil)
    (pss_one (ps_ret (pe_callD d__law_put (hr.mono (by omega)) rfl (pa_cons (pe_lc (own := [("inner", 5)]) (g := gName 5) rfl sc_law_taken.nd (pi_tup (pe_ix ix_tup (pv 1) pe_int (fun _ _ => rfl))) (blkOk_by (own := [("inner", 5)]) (N := n_law_taken) (sc := defScope s_law_taken) (by decide +kernel)) (fun _ _ _ _ _ => (pg_name (i := 5) sc_law_taken.nd rfl (Or.inl rfl))) (fun _ _ _ _ _ => pts_nil) (fun _ _ _ _ _ => (pe_callD d__law_taken (hr.mono (by omega)) rfl (pa_cons (pe_ix (r := rIxT K) ix_tup (pv 0) pe_int (fun _ _ => rfl)) (pa_cons (pv 5) pa_nil))))) pa_nil)))))) pss_nil)
    (pss_one (ps_ret (pe_callD d__law_row_taken (hr.mono (by omega)) rfl (pa_cons (pe_ix ix_tup (pv 0) pe_int (fun _ _ => rfl)) (pa_cons (pe_ix ix_tup (pv 1) pe_int (fun _ _ => rfl)) pa_nil))))))))))), ?_⟩
  have no : innD f d = none → ∀ H'', Same H H'' → Q .non H'' := fun e H'' s => k H'' .non s (.inl ⟨rfl, rd_none e⟩)
  refine ⟨_, rfl, _, .ty "tuple", _, _, _, rfl, .ty _, tyX hd, isTup hd, _, rfl, ?_⟩
  cases htd : isTupD d with
  | false => exact iteT (no (inn_no htd) _ (.refl _))
  | true =>
  refine iteF ?_
  obtain ⟨es, rfl⟩ : ∃ es, d = .tuple es := by cases d <;> first | exact ⟨_, rfl⟩ | cases htd
  obtain ⟨qa, qx, rfl, hqt, hqd⟩ := dpTup hd
  have hql := dpsLen hqd
  refine ⟨_, rfl, qa, _, rfl, .inr hqt, rfl, _, rfl, ?_⟩
  match es, hqd, hql, hsh, hnd, no, k, hd with
  | [], hqd, hql, hsh, hnd, no, k, hd =>
    cases dpNil hqd
    exact iteT (no (by cases f <;> rfl) _ (.refl _))
  | e0 :: es, hqd, hql, hsh, hnd, no, k, hd =>
  obtain ⟨y0, ys0, rfl, d0, hy0⟩ := dpCons hqd
  have hyl := dpsLen hy0
  rw [show decide (V.int (((y0 :: ys0).length : Nat) : Int) = V.int 0) = false from decide_eq_false fun e => by have := V.int.inj e; rw [List.length_cons] at this; omega]
  refine iteF ?_
  refine ⟨_, rfl, qa, _, 0, _, rfl, rfl, hqt, atI_nat (j := 0) rfl, _, .ty "str", _, _, _, rfl, .ty _, tyX d0, isStr d0, _, rfl, ?_⟩
  cases hs0 : isStrD e0 with
  | false => exact iteT (no (inn_str hs0) _ (.refl _))
  | true =>
  refine iteF ?_
  obtain ⟨w0, rfl⟩ : ∃ w0, e0 = .str w0 := by cases e0 <;> first | exact ⟨_, rfl⟩ | cases hs0
  cases dpStr d0
  have h1000 : f.parts.length ≤ 1000 := by have := parts_len f; omega
  cases f with
  | sign x =>
    obtain ⟨a, rfl, ht⟩ := fmSign hf
    refine ⟨_, rfl, a, _, 0, _, rfl, rfl, ht, atI_nat (j := 0) rfl, rfl, _, rfl, iteT ?_⟩
    refine ⟨_, rfl, (by show 1 ≤ sizeLine; decide), fun p np => ?_⟩
    have s1 : Same H (upd H p (.tup [.str "leaf"])) := .new np
    refine ⟨_, .tuple [.str "leaf"], dpS s1 hd, .tup (sT upd_same) (.cons (.str _) .nil), hsh, by decide +kernel, _, rfl, ?_⟩
    rw [← inn_sign x]
    cases ei : innD (.sign x) (.tuple (.str w0 :: es)) with
    | none => exact iteF (no ei _ s1)
    | some kds =>
      refine iteT ?_
      refine ⟨_, rfl, a, _, 1, _, rfl, rfl, s1.sqT ht, atI_nat (j := 1) rfl, (by show 1 ≤ sizeLine; decide), fun p2 n2 => ?_⟩
      have s2 := s1.trans (Same.new (o := .tup [.str x]) n2)
      have hF := fits_of ei
      cases hF with
      | sign _ => exact k _ (.ref p2) s2 (.inr ⟨p2, [x], rfl, sT upd_same, rd_sign.mpr rfl⟩)
  | pick ps =>
    obtain ⟨a, b, ws, rfl, ht, hb, hv⟩ := fmPick hf
    have hwl := fmsLenA hv
    refine ⟨_, rfl, a, _, 0, _, rfl, rfl, ht, atI_nat (j := 0) rfl, rfl, _, rfl, iteF ?_⟩
    refine ⟨_, rfl, qa, _, 0, _, rfl, rfl, hqt, atI_nat (j := 0) rfl, _, rfl, a, _, 0, _, rfl, rfl, ht, atI_nat (j := 0) rfl, rfl, _, rfl, ?_⟩
    by_cases hw : w0 = "pick"
    · subst hw
      refine iteF ?_
      refine ⟨_, rfl, qa, _, rfl, .inr hqt, ?_⟩
      refine ⟨_, rfl, a, _, 0, _, rfl, rfl, ht, atI_nat (j := 0) rfl, rfl, _, rfl, iteT ⟨rfl, _, rfl, ?_⟩⟩
      by_cases h3 : es.length = 2
      · match es, h3, hy0, hyl, hsh, hnd, no, k, hd, hql with
        | [e1, e2], _, hy0, hyl, hsh, hnd, no, k, hd, hql =>
        obtain ⟨y1, ys1, rfl, d1, hy1⟩ := dpCons hy0
        obtain ⟨y2, ys2, rfl, d2, hy2⟩ := dpCons hy1
        cases dpNil hy2
        refine iteF ?_
        refine ⟨_, rfl, a, _, 0, _, rfl, rfl, ht, atI_nat (j := 0) rfl, rfl, _, rfl, iteT ?_⟩
        refine ⟨_, rfl, qa, _, 1, _, rfl, rfl, hqt, atI_nat (j := 1) rfl, ?_⟩
        have inn : innD (.pick ps) (.tuple [.str "pick", e1, e2]) = (numD e1 ps.length).map fun j => [(j, e2)] := by rw [innD, if_pos rfl]
        have nnum : numD e1 ps.length = none → ∀ H'', Same H H'' → Q .non H'' := fun e H'' s => no (by rw [inn, e]; rfl) H'' s
        have hnd2 : ndD e2 ≤ 100000 := by simp only [ndD, nds] at hnd; omega
        refine ⟨_, rfl, y1, .ty "int", _, _, _, rfl, .ty _, tyX d1, isInt d1, _, rfl, ?_⟩
        cases hi1 : isIntD e1 with
        | false =>
          refine iteF ⟨_, rfl, _, rfl, iteF ?_⟩
          exact nnum (by cases e1 <;> first | rfl | cases hi1) _ (.refl _)
        | true =>
        refine iteT ?_
        refine ⟨_, rfl, y1, .ty "bool", _, _, _, rfl, .ty _, tyX d1, isBool d1, _, rfl, _, rfl, ?_⟩
        cases hb1 : isBoolD e1 with
        | true =>
          refine iteF ⟨_, rfl, _, rfl, iteF ?_⟩
          exact nnum (by cases e1 <;> first | rfl | cases hb1) _ (.refl _)
        | false =>
        refine iteT ?_
        obtain ⟨i, rfl⟩ : ∃ i, e1 = .int i := by
          cases e1 with
          | int i => exact ⟨i, rfl⟩
          | bool b => cases hb1
          | _ => cases hi1
        cases dpInt d1
        refine ⟨_, rfl, _, _, rfl, rfl, _, rfl, ?_⟩
        by_cases h0 : 0 ≤ i
        · refine iteT' (decide_eq_true h0) ?_
          refine ⟨_, rfl, a, _, 1, _, rfl, rfl, ht, atI_nat (j := 1) rfl, b, _, rfl, .inr hb, _, _, rfl, rfl, ?_⟩
          by_cases h1 : i < (ws.length : Int)
          · dsimp only
            rw [decide_eq_true h1]
            refine ⟨_, rfl, _, rfl, iteT ?_⟩
            obtain ⟨j, rfl⟩ : ∃ j : Nat, i = (j : Int) := ⟨i.toNat, by omega⟩
            have hj : j < ps.length := by omega
            obtain ⟨pt, hpt⟩ : ∃ pt, ps[j]? = some pt := ⟨_, List.getElem?_eq_getElem hj⟩
            obtain ⟨pv', hpv'⟩ : ∃ y, ws[j]? = some y := ⟨_, List.getElem?_eq_getElem (by omega)⟩
            obtain ⟨pt', hpt', hpd⟩ := fmsAtI hv hpv'
            rw [hpt] at hpt'
            cases hpt'
            have hpm := List.mem_of_getElem? hpt
            have z1 := dp_parts (f := Fm.pick ps) hpm
            have z2 := size_parts (f := Fm.pick ps) hpm
            refine ⟨_, rfl, a, _, 1, _, rfl, rfl, ht, atI_nat (j := 1) rfl, _, rfl, b, _, j, _, rfl, rfl, hb, at_of (j := j) rfl hpv', _, rfl, qa, _, 2, _, rfl, rfl, hqt, atI_nat (j := 2) rfl, ?_⟩
            refine ⟨pv', y2, pt, e2, rfl, hpd, by omega, by omega, d2, shMem hsh (by simp), hnd2, fun H2 x s2 hx => ?_⟩
            have hF : Fits (.pick ps) (.tuple [.str "pick", .int (j : Int), e2]) [(j, e2)] := .pick hj
            refine k H2 x s2 (tk_of hF rfl ?_)
            have ei : itsOf (.pick ps) [(j, e2)] = [(pt, e2)] := by
              show [((Fm.pick ps).part j, e2)] = _
              rw [show (Fm.pick ps).part j = pt from by show (ps[j]?).getD _ = pt; rw [hpt]; rfl]
            rw [ei]
            rcases hx with ⟨rfl, hx⟩ | ⟨c, r, rfl, hc, hr'⟩
            · refine .inl ⟨rfl, fun s' hs' => ?_⟩
              obtain ⟨s1, s2', _, h1, _⟩ := hs'
              exact hx s1 h1
            · exact .inr ⟨c, r, rfl, hc, r, [], by rw [List.append_nil], hr', rfl⟩
          · dsimp only
            rw [decide_eq_false h1]
            refine ⟨_, rfl, _, rfl, iteF ?_⟩
            exact nnum (if_neg fun h => h1 (by have := h.2; omega)) _ (.refl _)
        · refine iteF' (by rw [decide_eq_false h0]; exact Bool.false_ne_true) ?_
          refine ⟨_, rfl, _, rfl, iteF ?_⟩
          exact nnum (if_neg fun h => h0 h.1) _ (.refl _)
      · refine iteT' (by rw [decide_eq_false (fun e => h3 (by have := V.int.inj e; rw [List.length_cons] at this; omega))]; rfl) ?_
        refine no ?_ _ (.refl _)
        match es, h3 with
        | [], _ => rfl
        | [_], _ => rfl
        | [_, _], h => exact absurd rfl h
        | _ :: _ :: _ :: _, _ => rfl
    · refine iteT' (by rw [decide_eq_false (fun e => hw (V.str.inj e))]; rfl) ?_
      refine no ?_ _ (.refl _)
      match es with
      | [] => rfl
      | [_] => rfl
      | [e1, e2] => exact if_neg hw
      | _ :: _ :: _ :: _ => rfl
  | row ps =>
    obtain ⟨a, b, ws, rfl, ht, hb, hv⟩ := fmRow hf
    have hwl := fmsLenA hv
    refine ⟨_, rfl, a, _, 0, _, rfl, rfl, ht, atI_nat (j := 0) rfl, rfl, _, rfl, iteF ?_⟩
    refine ⟨_, rfl, qa, _, 0, _, rfl, rfl, hqt, atI_nat (j := 0) rfl, _, rfl, a, _, 0, _, rfl, rfl, ht, atI_nat (j := 0) rfl, rfl, _, rfl, ?_⟩
    by_cases hw : w0 = "row"
    · subst hw
      refine iteF ?_
      refine ⟨_, rfl, qa, _, rfl, .inr hqt, ?_⟩
      refine ⟨_, rfl, a, _, 0, _, rfl, rfl, ht, atI_nat (j := 0) rfl, rfl, _, rfl, iteF ⟨rfl, _, rfl, ?_⟩⟩
      by_cases h2 : es.length = 1
      · match es, h2, hy0, hyl, hsh, hnd, no, k, hd, hql with
        | [e1], _, hy0, hyl, hsh, hnd, no, k, hd, hql =>
        obtain ⟨y1, ys1, rfl, d1, hy1⟩ := dpCons hy0
        cases dpNil hy1
        refine iteF ?_
        refine ⟨_, rfl, a, _, 0, _, rfl, rfl, ht, atI_nat (j := 0) rfl, rfl, _, rfl, iteF ?_⟩
        refine ⟨_, rfl, qa, _, 1, _, rfl, rfl, hqt, atI_nat (j := 1) rfl, _, .ty "tuple", _, _, _, rfl, .ty _, tyX d1, isTup d1, _, rfl, ?_⟩
        cases ht1 : isTupD e1 with
        | false => exact iteT (no (by cases e1 <;> first | rfl | cases ht1) _ (.refl _))
        | true =>
          refine iteF ?_
          obtain ⟨ds, rfl⟩ : ∃ ds, e1 = .tuple ds := by cases e1 <;> first | exact ⟨_, rfl⟩ | cases ht1
          obtain ⟨qb, us, rfl, hqb, hus⟩ := dpTup d1
          have hul := dpsLen hus
          refine ⟨_, rfl, qa, _, 1, _, rfl, rfl, hqt, atI_nat (j := 1) rfl, qb, _, rfl, .inr hqb, rfl, _, rfl, ?_⟩
          by_cases hne : ds = []
          · subst hne
            cases dpNil hus
            refine iteT (no ?_ _ (.refl _))
            rw [innD, if_neg (fun h => h.2 rfl)]
          · have hpos : us.length ≠ 0 := fun e => hne (List.length_eq_zero_iff.mp (by omega))
            rw [show decide (V.int ((us.length : Nat) : Int) = V.int 0) = false from decide_eq_false fun e => hpos (by have := V.int.inj e; omega)]
            refine iteF ?_
            refine ⟨_, rfl, a, _, 0, _, rfl, rfl, ht, atI_nat (j := 0) rfl, rfl, _, rfl, iteF ?_⟩
            refine ⟨_, rfl, a, _, 1, _, rfl, rfl, ht, atI_nat (j := 1) rfl, _, rfl, qa, _, 1, _, rfl, rfl, hqt, atI_nat (j := 1) rfl, ?_⟩
            refine ⟨b, qb, ws, us, ps, ds, rfl, hb, hv, hqb, hus, fun p hp => ?_, h1000, by omega, shMem hsh (by simp), by simp only [ndD, nds] at hnd; omega, fun H2 x s2 hx => ?_⟩
            · have z1 := dp_parts (f := Fm.row ps) hp
              have z2 := size_parts (f := Fm.row ps) hp
              exact ⟨by omega, by omega⟩
            have inn : innD (.row ps) (.tuple [.str "row", .tuple ds]) = gapD ds (ps.map Fm.nothing) 0 := by rw [innD, if_pos ⟨rfl, hne⟩]
            rcases hx with ⟨rfl, hx⟩ | ⟨kds, hg, hx⟩
            · exact no (by rw [inn, hx]) _ s2
            · exact k H2 x s2 (tk_of (fits_of (by rw [inn, hg])) rfl hx)
      · refine iteT' (by rw [decide_eq_false (fun e => h2 (by have := V.int.inj e; rw [List.length_cons] at this; omega))]; rfl) ?_
        refine no ?_ _ (.refl _)
        match es, h2 with
        | [], _ => rfl
        | [_], h => exact absurd rfl h
        | e1 :: _ :: _, _ => cases e1 <;> rfl
    · refine iteT' (by rw [decide_eq_false (fun e => hw (V.str.inj e))]; rfl) ?_
      refine no ?_ _ (.refl _)
      match es with
      | [] => rfl
      | [e1] => cases e1 <;> first | rfl | exact if_neg (fun e => hw e.1)
      | e1 :: _ :: _ => cases e1 <;> rfl
  | times p l h =>
    obtain ⟨a, w', rfl, ht, hp⟩ := fmTimes hf
    refine ⟨_, rfl, a, _, 0, _, rfl, rfl, ht, atI_nat (j := 0) rfl, rfl, _, rfl, iteF ?_⟩
    have z1 : p.dp < (Fm.times p l h).dp := dp_parts (f := Fm.times p l h) (by simp [Fm.parts])
    have z2 : p.size < (Fm.times p l h).size := size_parts (f := Fm.times p l h) (by simp [Fm.parts])
    refine ⟨_, rfl, qa, _, 0, _, rfl, rfl, hqt, atI_nat (j := 0) rfl, _, rfl, a, _, 0, _, rfl, rfl, ht, atI_nat (j := 0) rfl, rfl, _, rfl, ?_⟩
    by_cases hw : w0 = "times"
    · subst hw
      refine iteF ?_
      refine ⟨_, rfl, qa, _, rfl, .inr hqt, ?_⟩
      refine ⟨_, rfl, a, _, 0, _, rfl, rfl, ht, atI_nat (j := 0) rfl, rfl, _, rfl, iteF ⟨rfl, _, rfl, ?_⟩⟩
      by_cases h2 : es.length = 1
      · match es, h2, hy0, hyl, hsh, hnd, no, k, hd, hql with
        | [e1], _, hy0, hyl, hsh, hnd, no, k, hd, hql =>
        obtain ⟨y1, ys1, rfl, d1, hy1⟩ := dpCons hy0
        cases dpNil hy1
        refine iteF ?_
        refine ⟨_, rfl, a, _, 0, _, rfl, rfl, ht, atI_nat (j := 0) rfl, rfl, _, rfl, iteF ?_⟩
        refine ⟨_, rfl, qa, _, 1, _, rfl, rfl, hqt, atI_nat (j := 1) rfl, _, .ty "tuple", _, _, _, rfl, .ty _, tyX d1, isTup d1, _, rfl, ?_⟩
        cases ht1 : isTupD e1 with
        | false => exact iteT (no (by cases e1 <;> first | rfl | cases ht1) _ (.refl _))
        | true =>
          refine iteF ?_
          obtain ⟨ds, rfl⟩ : ∃ ds, e1 = .tuple ds := by cases e1 <;> first | exact ⟨_, rfl⟩ | cases ht1
          obtain ⟨qb, us, rfl, hqb, hus⟩ := dpTup d1
          have hul := dpsLen hus
          refine ⟨_, rfl, qa, _, 1, _, rfl, rfl, hqt, atI_nat (j := 1) rfl, qb, _, rfl, .inr hqb, rfl, _, rfl, ?_⟩
          by_cases hne : ds = []
          · subst hne
            cases dpNil hus
            refine iteT (no ?_ _ (.refl _))
            rw [innD, if_neg (fun h => h.2.1 rfl)]
          · have hpos : us.length ≠ 0 := fun e => hne (List.length_eq_zero_iff.mp (by omega))
            rw [show decide (V.int ((us.length : Nat) : Int) = V.int 0) = false from decide_eq_false fun e => hpos (by have := V.int.inj e; omega)]
            refine iteF ?_
            refine ⟨_, rfl, a, _, 0, _, rfl, rfl, ht, atI_nat (j := 0) rfl, rfl, _, rfl, iteT ?_⟩
            have inn : innD (.times p l h) (.tuple [.str "times", .tuple ds]) = if (("times" : Str) = "times" ∧ ds ≠ [] ∧ few l p.nothing ≤ ds.length ∧ hiOk h ds.length = true) then some (ds.map fun d => (0, d)) else none := by rw [innD]
            refine ⟨_, rfl, a, _, 1, _, rfl, rfl, ht, atI_nat (j := 1) rfl, _, p, rfl, hp, by omega, by omega, fun H2 s2 => ?_⟩
            have hnds : nds ds ≤ 100000 := by simp only [ndD, nds] at hnd; omega
            have hpos1 : 1 ≤ ds.length := by omega
            cases hpn : p.nothing with
            | true =>
              refine ⟨_, rfl, iteT ?_⟩
              refine ⟨_, rfl, qa, _, 1, _, rfl, rfl, s2.sqT hqt, atI_nat (j := 1) rfl, qb, _, rfl, .inr (s2.sqT hqb), _, rfl, _, _, rfl, rfl, _, rfl, ?_⟩
              by_cases hlw : us.length < 1
              · refine iteT' (decide_eq_true (by omega)) (no ?_ _ s2)
                rw [inn, if_neg (fun e => by have := e.2.2.1; unfold few at this; rw [hpn] at this; rw [if_pos rfl] at this; omega)]
              · refine iteF' (by rw [decide_eq_false (by omega)]; exact Bool.false_ne_true) ?_
                have hfew : few l p.nothing ≤ ds.length := by unfold few; rw [hpn]; rw [if_pos rfl]; omega
                refine ⟨_, rfl, a, _, 3, _, rfl, rfl, s2.sqT ht, atI_nat (j := 3) rfl, ?_⟩
                cases h with
                | none =>
                  refine ⟨_, rfl, iteF (iteF ?_)⟩
                  have hhi : hiOk none ds.length = true := rfl
                  have hF : Fits (.times p l none) (.tuple [.str "times", .tuple ds]) (ds.map fun d => (0, d)) := .times hne hfew hhi
                  refine ⟨_, rfl, qa, _, 1, _, rfl, rfl, s2.sqT hqt, atI_nat (j := 1) rfl, qb, rfl, ⟨_, s2.sqT hqb⟩, fun D nD => ?_⟩
                  refine lc_tup (K := K) (a := qb) (xs := us) (fun i Hx => ∃ ws : List V, Same H2 Hx ∧ Hx D = some (.lst ws) ∧ ws.length = i ∧ Paired (fun v (p : Fm × PyData) => TkV K Hx v p.1 p.2) ws ((ds.take i).map fun d => (p, d))) ⟨[], .new nD, upd_same, rfl, .nil⟩ (fun i Hx _ ⟨_, g, _⟩ => g.sqT (s2.sqT hqb)) ?_ ?_
                  · rintro i x Hx hx ⟨ws, sx, hDx, hlx, hwx⟩
                    obtain ⟨di, hdi, hdx⟩ := dpsAtV hus hx
                    have hdm := List.mem_of_getElem? hdi
                    have hi := (List.getElem?_eq_some_iff.mp hx).1
                    have hnl := nds_len ds
                    have hnm := nds_mem hdm
                    refine ⟨rfl, ?_⟩
                    refine ⟨_, rfl, a, _, 1, _, rfl, rfl, (s2.trans sx).sqT ht, atI_nat (j := 1) rfl, _, rfl, w', x, p, di, rfl, dpS (s2.trans sx) hp, by omega, by omega, dpS (s2.trans sx) hdx, shMem (shMem hsh (d := .tuple ds) (by simp)) hdm, by omega, fun Hy z sy hz => ?_⟩
                    have hDy := sy _ _ hDx
                    refine ⟨ws, hDy, szb (by omega), ws ++ [z], (sx.trans sy).mut nD, upd_same, by rw [List.length_append, hlx]; rfl, ?_⟩
                    rw [take_snoc hdi, List.map_append]
                    exact pairedApp (pairedMap hwx fun _ _ q => (q.same sy).w hDy) (.cons (hz.w hDy) .nil)
                  · rintro Hx ⟨ws, sx, hDx, hlx, hwx⟩
                    rw [hul, List.take_length] at hwx
                    refine ⟨D, ws, _, rfl, hDx, hwx, by rw [nmL_map]; exact hnds, fun Hz z sz hz => ?_⟩
                    refine k Hz z ((s2.trans sx).trans sz) (tk_of hF rfl ?_)
                    have ei : itsOf (.times p l none) (ds.map fun d => (0, d)) = ds.map fun d => (p, d) := by
                      unfold itsOf
                      rw [List.map_map]
                      rfl
                    rw [ei]
                    exact hz
                | some m =>
                  refine ⟨_, rfl, iteT ⟨_, rfl, qa, _, 1, _, rfl, rfl, s2.sqT hqt, atI_nat (j := 1) rfl, qb, _, rfl, .inr (s2.sqT hqb), _, rfl, a, _, 3, _, rfl, rfl, s2.sqT ht, atI_nat (j := 3) rfl, _, _, rfl, rfl, _, rfl, ?_⟩⟩
                  by_cases hm : m < us.length
                  · refine iteT' (decide_eq_true (by omega)) (no ?_ _ s2)
                    rw [inn, if_neg (fun e => by have := of_decide_eq_true e.2.2.2; omega)]
                  · refine iteF' (by rw [decide_eq_false (by omega)]; exact Bool.false_ne_true) ?_
                    have hhi : hiOk (some m) ds.length = true := decide_eq_true (by omega)
                    have hF : Fits (.times p l (some m)) (.tuple [.str "times", .tuple ds]) (ds.map fun d => (0, d)) := .times hne hfew hhi
                    refine ⟨_, rfl, qa, _, 1, _, rfl, rfl, s2.sqT hqt, atI_nat (j := 1) rfl, qb, rfl, ⟨_, s2.sqT hqb⟩, fun D nD => ?_⟩
                    refine lc_tup (K := K) (a := qb) (xs := us) (fun i Hx => ∃ ws : List V, Same H2 Hx ∧ Hx D = some (.lst ws) ∧ ws.length = i ∧ Paired (fun v (p : Fm × PyData) => TkV K Hx v p.1 p.2) ws ((ds.take i).map fun d => (p, d))) ⟨[], .new nD, upd_same, rfl, .nil⟩ (fun i Hx _ ⟨_, g, _⟩ => g.sqT (s2.sqT hqb)) ?_ ?_
                    · rintro i x Hx hx ⟨ws, sx, hDx, hlx, hwx⟩
                      obtain ⟨di, hdi, hdx⟩ := dpsAtV hus hx
                      have hdm := List.mem_of_getElem? hdi
                      have hi := (List.getElem?_eq_some_iff.mp hx).1
                      have hnl := nds_len ds
                      have hnm := nds_mem hdm
                      refine ⟨rfl, ?_⟩
                      refine ⟨_, rfl, a, _, 1, _, rfl, rfl, (s2.trans sx).sqT ht, atI_nat (j := 1) rfl, _, rfl, w', x, p, di, rfl, dpS (s2.trans sx) hp, by omega, by omega, dpS (s2.trans sx) hdx, shMem (shMem hsh (d := .tuple ds) (by simp)) hdm, by omega, fun Hy z sy hz => ?_⟩
                      have hDy := sy _ _ hDx
                      refine ⟨ws, hDy, szb (by omega), ws ++ [z], (sx.trans sy).mut nD, upd_same, by rw [List.length_append, hlx]; rfl, ?_⟩
                      rw [take_snoc hdi, List.map_append]
                      exact pairedApp (pairedMap hwx fun _ _ q => (q.same sy).w hDy) (.cons (hz.w hDy) .nil)
                    · rintro Hx ⟨ws, sx, hDx, hlx, hwx⟩
                      rw [hul, List.take_length] at hwx
                      refine ⟨D, ws, _, rfl, hDx, hwx, by rw [nmL_map]; exact hnds, fun Hz z sz hz => ?_⟩
                      refine k Hz z ((s2.trans sx).trans sz) (tk_of hF rfl ?_)
                      have ei : itsOf (.times p l (some m)) (ds.map fun d => (0, d)) = ds.map fun d => (p, d) := by
                        unfold itsOf
                        rw [List.map_map]
                        rfl
                      rw [ei]
                      exact hz
            | false =>
              refine ⟨_, rfl, iteF ⟨_, rfl, a, _, 2, _, rfl, rfl, s2.sqT ht, atI_nat (j := 2) rfl, ?_⟩⟩
              refine ⟨_, rfl, qa, _, 1, _, rfl, rfl, s2.sqT hqt, atI_nat (j := 1) rfl, qb, _, rfl, .inr (s2.sqT hqb), _, rfl, _, _, rfl, rfl, _, rfl, ?_⟩
              by_cases hlw : us.length < l
              · refine iteT' (decide_eq_true (by omega)) (no ?_ _ s2)
                rw [inn, if_neg (fun e => by have := e.2.2.1; unfold few at this; rw [hpn] at this; rw [if_neg Bool.false_ne_true] at this; omega)]
              · refine iteF' (by rw [decide_eq_false (by omega)]; exact Bool.false_ne_true) ?_
                have hfew : few l p.nothing ≤ ds.length := by unfold few; rw [hpn]; rw [if_neg Bool.false_ne_true]; omega
                refine ⟨_, rfl, a, _, 3, _, rfl, rfl, s2.sqT ht, atI_nat (j := 3) rfl, ?_⟩
                cases h with
                | none =>
                  refine ⟨_, rfl, iteF (iteF ?_)⟩
                  have hhi : hiOk none ds.length = true := rfl
                  have hF : Fits (.times p l none) (.tuple [.str "times", .tuple ds]) (ds.map fun d => (0, d)) := .times hne hfew hhi
                  refine ⟨_, rfl, qa, _, 1, _, rfl, rfl, s2.sqT hqt, atI_nat (j := 1) rfl, qb, rfl, ⟨_, s2.sqT hqb⟩, fun D nD => ?_⟩
                  refine lc_tup (K := K) (a := qb) (xs := us) (fun i Hx => ∃ ws : List V, Same H2 Hx ∧ Hx D = some (.lst ws) ∧ ws.length = i ∧ Paired (fun v (p : Fm × PyData) => TkV K Hx v p.1 p.2) ws ((ds.take i).map fun d => (p, d))) ⟨[], .new nD, upd_same, rfl, .nil⟩ (fun i Hx _ ⟨_, g, _⟩ => g.sqT (s2.sqT hqb)) ?_ ?_
                  · rintro i x Hx hx ⟨ws, sx, hDx, hlx, hwx⟩
                    obtain ⟨di, hdi, hdx⟩ := dpsAtV hus hx
                    have hdm := List.mem_of_getElem? hdi
                    have hi := (List.getElem?_eq_some_iff.mp hx).1
                    have hnl := nds_len ds
                    have hnm := nds_mem hdm
                    refine ⟨rfl, ?_⟩
                    refine ⟨_, rfl, a, _, 1, _, rfl, rfl, (s2.trans sx).sqT ht, atI_nat (j := 1) rfl, _, rfl, w', x, p, di, rfl, dpS (s2.trans sx) hp, by omega, by omega, dpS (s2.trans sx) hdx, shMem (shMem hsh (d := .tuple ds) (by simp)) hdm, by omega, fun Hy z sy hz => ?_⟩
                    have hDy := sy _ _ hDx
                    refine ⟨ws, hDy, szb (by omega), ws ++ [z], (sx.trans sy).mut nD, upd_same, by rw [List.length_append, hlx]; rfl, ?_⟩
                    rw [take_snoc hdi, List.map_append]
                    exact pairedApp (pairedMap hwx fun _ _ q => (q.same sy).w hDy) (.cons (hz.w hDy) .nil)
                  · rintro Hx ⟨ws, sx, hDx, hlx, hwx⟩
                    rw [hul, List.take_length] at hwx
                    refine ⟨D, ws, _, rfl, hDx, hwx, by rw [nmL_map]; exact hnds, fun Hz z sz hz => ?_⟩
                    refine k Hz z ((s2.trans sx).trans sz) (tk_of hF rfl ?_)
                    have ei : itsOf (.times p l none) (ds.map fun d => (0, d)) = ds.map fun d => (p, d) := by
                      unfold itsOf
                      rw [List.map_map]
                      rfl
                    rw [ei]
                    exact hz
                | some m =>
                  refine ⟨_, rfl, iteT ⟨_, rfl, qa, _, 1, _, rfl, rfl, s2.sqT hqt, atI_nat (j := 1) rfl, qb, _, rfl, .inr (s2.sqT hqb), _, rfl, a, _, 3, _, rfl, rfl, s2.sqT ht, atI_nat (j := 3) rfl, _, _, rfl, rfl, _, rfl, ?_⟩⟩
                  by_cases hm : m < us.length
                  · refine iteT' (decide_eq_true (by omega)) (no ?_ _ s2)
                    rw [inn, if_neg (fun e => by have := of_decide_eq_true e.2.2.2; omega)]
                  · refine iteF' (by rw [decide_eq_false (by omega)]; exact Bool.false_ne_true) ?_
                    have hhi : hiOk (some m) ds.length = true := decide_eq_true (by omega)
                    have hF : Fits (.times p l (some m)) (.tuple [.str "times", .tuple ds]) (ds.map fun d => (0, d)) := .times hne hfew hhi
                    refine ⟨_, rfl, qa, _, 1, _, rfl, rfl, s2.sqT hqt, atI_nat (j := 1) rfl, qb, rfl, ⟨_, s2.sqT hqb⟩, fun D nD => ?_⟩
                    refine lc_tup (K := K) (a := qb) (xs := us) (fun i Hx => ∃ ws : List V, Same H2 Hx ∧ Hx D = some (.lst ws) ∧ ws.length = i ∧ Paired (fun v (p : Fm × PyData) => TkV K Hx v p.1 p.2) ws ((ds.take i).map fun d => (p, d))) ⟨[], .new nD, upd_same, rfl, .nil⟩ (fun i Hx _ ⟨_, g, _⟩ => g.sqT (s2.sqT hqb)) ?_ ?_
                    · rintro i x Hx hx ⟨ws, sx, hDx, hlx, hwx⟩
                      obtain ⟨di, hdi, hdx⟩ := dpsAtV hus hx
                      have hdm := List.mem_of_getElem? hdi
                      have hi := (List.getElem?_eq_some_iff.mp hx).1
                      have hnl := nds_len ds
                      have hnm := nds_mem hdm
                      refine ⟨rfl, ?_⟩
                      refine ⟨_, rfl, a, _, 1, _, rfl, rfl, (s2.trans sx).sqT ht, atI_nat (j := 1) rfl, _, rfl, w', x, p, di, rfl, dpS (s2.trans sx) hp, by omega, by omega, dpS (s2.trans sx) hdx, shMem (shMem hsh (d := .tuple ds) (by simp)) hdm, by omega, fun Hy z sy hz => ?_⟩
                      have hDy := sy _ _ hDx
                      refine ⟨ws, hDy, szb (by omega), ws ++ [z], (sx.trans sy).mut nD, upd_same, by rw [List.length_append, hlx]; rfl, ?_⟩
                      rw [take_snoc hdi, List.map_append]
                      exact pairedApp (pairedMap hwx fun _ _ q => (q.same sy).w hDy) (.cons (hz.w hDy) .nil)
                    · rintro Hx ⟨ws, sx, hDx, hlx, hwx⟩
                      rw [hul, List.take_length] at hwx
                      refine ⟨D, ws, _, rfl, hDx, hwx, by rw [nmL_map]; exact hnds, fun Hz z sz hz => ?_⟩
                      refine k Hz z ((s2.trans sx).trans sz) (tk_of hF rfl ?_)
                      have ei : itsOf (.times p l (some m)) (ds.map fun d => (0, d)) = ds.map fun d => (p, d) := by
                        unfold itsOf
                        rw [List.map_map]
                        rfl
                      rw [ei]
                      exact hz
      · refine iteT' (by rw [decide_eq_false (fun e => h2 (by have := V.int.inj e; rw [List.length_cons] at this; omega))]; rfl) ?_
        refine no ?_ _ (.refl _)
        match es, h2 with
        | [], _ => rfl
        | [_], h => exact absurd rfl h
        | e1 :: _ :: _, _ => cases e1 <;> rfl
    · refine iteT' (by rw [decide_eq_false (fun e => hw (V.str.inj e))]; rfl) ?_
      refine no ?_ _ (.refl _)
      match es with
      | [] => rfl
      | [e1] => cases e1 <;> first | rfl | exact if_neg (fun e => hw e.1)
      | e1 :: _ :: _ => cases e1 <;> rfl
end
end Sw
set_option Elab.async false
set_option maxRecDepth 100000
set_option maxHeartbeats 8000000
namespace Sw
open PySem L2 PySem.Spec PyProof.Rows
section
variable {P : Program} {w : World} {K : PySem.W.Frag} {mg : Str → Option Value} {base : Heap}
theorem ok_law_taken (F : DefAt K mg "_law_taken" s_law_taken ["form", "thing"]) (FR : DefAt K mg "_law_row_taken" s_law_row_taken ["parts", "pairs"]) (d__law_nothing : DefOk P w K mg base "_law_nothing" 6 ["form"] (spNothing K 5)) (d__law_put : DefOk P w K mg base "_law_put" 1 ["rows"] (spPut K))
    (b_isinstance : mg "isinstance" = none) (b_len : mg "len" = none) (b_tuple : mg "tuple" = none) (b_bool : mg "bool" = none) (b_int : mg "int" = none) (b_str : mg "str" = none) : ∀ n : Nat, n ≤ 5 → DefOk P w K mg base "_law_taken" (6 + 2 * n) ["form", "thing"] (spTaken K n)
  | 0, _ => ok_law_taken0 F
  | n + 1, h => by
    have d1 := ok_law_taken F FR d__law_nothing d__law_put b_isinstance b_len b_tuple b_bool b_int b_str n (by omega)
    have d2 := ok_law_row_taken n (6 + 2 * n) (by omega) FR d1 d__law_nothing d__law_put b_isinstance b_len b_tuple b_bool b_int
    exact ok_law_takenS n (6 + 2 * n) h (by omega) F d1 d2 d__law_nothing d__law_put b_isinstance b_len b_tuple b_bool b_int b_str
theorem eqv_strsQ (r s : RowS) : PyData.eqvAll (r.map .str) (s.map .str) = decide (r = s) := by
  induction r generalizing s with
  | nil => cases s <;> simp [PyData.eqvAll]
  | cons x r ih =>
    cases s with
    | nil => simp [PyData.eqvAll]
    | cons y s =>
      rw [List.map_cons, List.map_cons, PyData.eqvAll, ih, eqv_strR]
      by_cases h1 : x = y
      · subst h1
        by_cases h2 : r = s
        · subst h2; simp [isW]
        · simp [isW, h2]
      · simp [isW, h1]
theorem sh_rowQ (r : RowS) (ok : ∀ t, t ∈ r → PyData.strOk t = true) : SeqAt.shaped (.tuple (r.map .str)) = true := by
  unfold SeqAt.shaped
  have h1 : PyData.canLayAll0 (r.map .str) = true := by
    induction r with
    | nil => simp [PyData.canLayAll0]
    | cons x r ih => rw [List.map_cons, PyData.canLayAll0, PyData.canLay0, ok x List.mem_cons_self, ih fun t h => ok t (List.mem_cons_of_mem _ h)]; rfl
  have h2 : PyData.depthAll (r.map .str) ≤ 1 := by
    clear h1
    induction r with
    | nil => simp [PyData.depthAll]
    | cons x r ih =>
      have := ih fun t h => ok t (List.mem_cons_of_mem _ h)
      rw [List.map_cons, PyData.depthAll]
      simp only [PyData.depth]
      omega
  rw [PyData.canLay0, h1, PyData.depth, decide_eq_true (by omega)]
  rfl
theorem dpRowQ {K : PySem.W.Frag} {H : Hp} : ∀ r : RowS, DpAll K H (r.map V.str) (r.map PyData.str)
  | [] => .nil
  | x :: r => .cons (.str x) (dpRowQ r)
/-! the signs of a form can be shown -/
mutual
def sgOk : Fm → Prop
  | .sign x => PyData.strOk x = true
  | .row ps => sgOks ps
  | .pick ps => sgOks ps
  | .times p _ _ => sgOk p
def sgOks : List Fm → Prop
  | [] => True
  | p :: ps => sgOk p ∧ sgOks ps
end
theorem sgOks_mem : ∀ {ps : List Fm} {p : Fm}, sgOks ps → p ∈ ps → sgOk p
  | q :: ps, p, h, hm => by
    rw [sgOks] at h
    rcases List.mem_cons.mp hm with rfl | hm
    · exact h.1
    · exact sgOks_mem h.2 hm
theorem sgOks_of : ∀ {ps : List Fm}, (∀ p, p ∈ ps → sgOk p) → sgOks ps
  | [], _ => trivial
  | q :: ps, h => ⟨h q List.mem_cons_self, sgOks_of fun p hp => h p (List.mem_cons_of_mem _ hp)⟩
theorem lw_sg : ∀ (n : Nat) (f : Fm), Lw n f → sgOk f
  | n, .sign s, h => by
    rw [sgOk]
    cases n <;> exact okS_str h
  | 0, .row _, h => h.elim
  | 0, .pick _, h => h.elim
  | 0, .times _ _ _, h => h.elim
  | n + 1, .row ps, h => by
    have h' : ps.length ≤ 3 ∧ ∀ p, p ∈ ps → Lw n p := h
    rw [sgOk]
    exact sgOks_of fun p hp => lw_sg n p (h'.2 p hp)
  | n + 1, .pick ps, h => by
    have h' : 1 ≤ ps.length ∧ ps.length ≤ 3 ∧ ∀ p, p ∈ ps → Lw n p := h
    rw [sgOk]
    exact sgOks_of fun p hp => lw_sg n p (h'.2.2 p hp)
  | n + 1, .times p low high, h => by
    rw [sgOk]
    exact lw_sg n p h.1
mutual
theorem ok_sg : ∀ (q : Rdg) (f : Fm) (r : RowS), q.ok f r → sgOk f → ∀ t, t ∈ r → PyData.strOk t = true
  | .leaf, .sign s, r, h, g => by
    rw [Rdg.ok] at h
    rw [sgOk] at g
    subst h
    intro t ht
    rw [List.mem_singleton.mp ht]
    exact g
  | .row prs, .row ps, r, h, g => by
    rw [Rdg.ok] at h
    rw [sgOk] at g
    exact okRow_sg prs ps 0 ps.length r h.2 g
  | .pick k q, .pick ps, r, h, g => by
    rw [Rdg.ok] at h
    rw [sgOk] at g
    obtain ⟨p, h1, h2⟩ := h
    exact ok_sg q p r h2 (sgOks_mem g (List.mem_of_getElem? h1))
  | .times qs, .times p low high, r, h, g => by
    rw [Rdg.ok] at h
    rw [sgOk] at g
    exact okAll_sg qs p r h.2.2.2 g
  | .leaf, .row _, r, h, _ => by rw [Rdg.ok] at h; exact h.elim; all_goals intros; contradiction
  | .leaf, .pick _, r, h, _ => by rw [Rdg.ok] at h; exact h.elim; all_goals intros; contradiction
  | .leaf, .times _ _ _, r, h, _ => by rw [Rdg.ok] at h; exact h.elim; all_goals intros; contradiction
  | .row _, .sign _, r, h, _ => by rw [Rdg.ok] at h; exact h.elim; all_goals intros; contradiction
  | .row _, .pick _, r, h, _ => by rw [Rdg.ok] at h; exact h.elim; all_goals intros; contradiction
  | .row _, .times _ _ _, r, h, _ => by rw [Rdg.ok] at h; exact h.elim; all_goals intros; contradiction
  | .pick _ _, .sign _, r, h, _ => by rw [Rdg.ok] at h; exact h.elim; all_goals intros; contradiction
  | .pick _ _, .row _, r, h, _ => by rw [Rdg.ok] at h; exact h.elim; all_goals intros; contradiction
  | .pick _ _, .times _ _ _, r, h, _ => by rw [Rdg.ok] at h; exact h.elim; all_goals intros; contradiction
  | .times _, .sign _, r, h, _ => by rw [Rdg.ok] at h; exact h.elim; all_goals intros; contradiction
  | .times _, .row _, r, h, _ => by rw [Rdg.ok] at h; exact h.elim; all_goals intros; contradiction
  | .times _, .pick _, r, h, _ => by rw [Rdg.ok] at h; exact h.elim; all_goals intros; contradiction
theorem okRow_sg : ∀ (prs : List (Nat × Rdg)) (ps : List Fm) (lo hi : Nat) (r : RowS), Rdg.okRow prs ps lo hi r → sgOks ps → ∀ t, t ∈ r → PyData.strOk t = true
  | [], ps, lo, hi, r, h, g => by rw [Rdg.okRow] at h; rw [h.1]; intro t ht; cases ht
  | (j, q) :: prs, ps, lo, hi, r, h, g => by
    rw [Rdg.okRow] at h
    obtain ⟨h1, h2, h3, p, r1, r2, h4, rfl, h5, h6⟩ := h
    intro t ht
    rcases List.mem_append.mp ht with ht | ht
    · exact ok_sg q p r1 h5 (sgOks_mem g (List.mem_of_getElem? h4)) t ht
    · exact okRow_sg prs ps (j + 1) hi r2 h6 g t ht
theorem okAll_sg : ∀ (qs : List Rdg) (p : Fm) (r : RowS), Rdg.okAll qs p r → sgOk p → ∀ t, t ∈ r → PyData.strOk t = true
  | [], p, r, h, g => by rw [Rdg.okAll] at h; rw [h]; intro t ht; cases ht
  | q :: qs, p, r, h, g => by
    rw [Rdg.okAll] at h
    obtain ⟨r1, r2, rfl, h1, h2⟩ := h
    intro t ht
    rcases List.mem_append.mp ht with ht | ht
    · exact ok_sg q p r1 h1 g t ht
    · exact okAll_sg qs p r2 h2 g t ht
end
abbrev n_law_due : List Str := ["form", "row", "thing"]
theorem sc_law_due : FnScope n_law_due ["form", "row", "thing"] (defScope s_law_due) := ⟨rfl, rfl, rfl, by decide +kernel, rfl, by decide +kernel, by decide +kernel⟩
def spDue (K : PySem.W.Frag) : Sp := fun vs H Q _ => ∃ (v u : V) (ra : Addr) (f : Fm) (r : RowS) (d : PyData), vs = [v, .ref ra, u] ∧ FmAt K H v f ∧ f.dp ≤ 5 ∧ f.size ≤ 1000 ∧ sgOk f ∧ SqT K H ra (r.map V.str) ∧ (∀ t, t ∈ r → PyData.strOk t = true) ∧ Dp K H u d ∧ SeqAt.shaped d = true ∧ ndD d ≤ 100000 ∧
  ∀ H' b, Same H H' → (b = true ↔ IsRd f r d) → Q (.bl b) H'
theorem ok_law_due (F : DefAt K mg "_law_due" s_law_due ["form", "row", "thing"]) (d__law_taken : DefOk P w K mg base "_law_taken" 16 ["form", "thing"] (spTaken K 5)) (d__law_nothing : DefOk P w K mg base "_law_nothing" 6 ["form"] (spNothing K 5)) : DefOk P w K mg base "_law_due" 17 ["form", "row", "thing"] (spDue K) := by
  refine F.ok sc_law_due (fun vs H Q E h => ?_) (fun fA cdv A outer s H vs Q E hr h => ?_)
  · obtain ⟨_, _, _, _, _, _, rfl, _⟩ := h
    rfl
  obtain ⟨v, u, ra, f, r, d, rfl, hf, hdp, hsz, hsg, hra, hok, hd, hsh, hnd, k⟩ := h
  refine ⟨_, (pss_cons (ps_if (pt_cmp (pc_isN (pv 2)) rfl) (pss_one (ps_ret (pe_and (pe_cmpR (op_eqD hr.units) (pv 1) (pe_tup pa_nil) (nomark _)) (pe_one (pe_callD d__law_nothing (hr.mono (by decide)) rfl (pa_cons (pv 0) pa_nil)))))) pss_nil)
    (pss_one (ps_ret (pe_cmpR (op_eqD hr.units) (pe_callD d__law_taken (hr.mono (by decide)) rfl (pa_cons (pv 0) (pa_cons (pv 2) pa_nil))) (pv 1) (nomark _))))), ?_⟩
  have key : ∀ (hu : u ≠ .non) (hn : d ≠ .none), tRet (tOp (rEqD K) (tCall (spTaken K 5) [] E0 (tCons (tVar 0) (tCons (tVar 2) tNil))) (tVar 1)) { nx := fun _ H' => Q .non H', rt := Q } [some v, some (.ref ra), some u] H := by
    intro hu hn
    refine ⟨_, rfl, _, rfl, v, u, f, d, rfl, hf, hdp, hsz, hd, hsh, hnd, fun H1 x s1 hx => ?_⟩
    refine ⟨_, rfl, ?_⟩
    rcases hx with ⟨rfl, hx⟩ | ⟨c, t, rfl, hc, ht⟩
    · refine ⟨.none, .tuple (r.map .str), .non, .tup (s1.sqT hra) (dpRowQ r), by decide +kernel, sh_rowQ r hok, ?_⟩
      rw [show PyData.eqv .none (.tuple (r.map .str)) = false by simp [PyData.eqv]]
      refine k H1 false s1 ⟨fun z => (by cases z), fun z => ?_⟩
      rcases z with ⟨z, _⟩ | ⟨_, z⟩
      · exact absurd z hn
      · exact absurd z (hx r)
    · obtain ⟨q, hq1, hq2⟩ := id ht
      have hok2 := ok_sg q f t hq2 hsg
      refine ⟨.tuple (t.map .str), .tuple (r.map .str), .tup hc (dpRowQ t), .tup (s1.sqT hra) (dpRowQ r), sh_rowQ t hok2, sh_rowQ r hok, ?_⟩
      rw [PyData.eqv, eqv_strsQ]
      refine k H1 _ s1 ⟨fun z => ?_, fun z => ?_⟩
      · have e := of_decide_eq_true z
        subst e
        exact .inr ⟨ht.ne, ht⟩
      · rcases z with ⟨z, _⟩ | ⟨_, z⟩
        · exact absurd z hn
        · exact decide_eq_true (ht.one z)
  cases hd with
  | non =>
    refine ⟨_, rfl, _, rfl, iteT ?_⟩
    refine ⟨_, rfl, (by show 0 ≤ sizeLine; decide), fun p np => ?_⟩
    have s1 : Same H (upd H p (.tup [])) := .new np
    refine ⟨.tuple (r.map .str), .tuple [], .tup (s1.sqT hra) (dpRowQ r), .tup (sT upd_same) .nil, sh_rowQ r hok, by decide +kernel, ?_⟩
    rw [show PyData.eqv (.tuple (r.map .str)) (.tuple []) = decide (r = []) by rw [PyData.eqv]; exact eqv_strsQ r []]
    by_cases hr0 : r = []
    · subst hr0
      refine ⟨_, rfl, iteT ?_⟩
      refine ⟨_, rfl, v, f, rfl, dpS s1 hf, hdp, hsz, fun H2 s2 => ?_⟩
      refine k H2 f.nothing (s1.trans s2) ⟨fun z => .inl ⟨rfl, rfl, z⟩, fun z => ?_⟩
      rcases z with ⟨_, _, z⟩ | ⟨z, _⟩
      · exact z
      · exact absurd rfl z
    · rw [decide_eq_false hr0]
      refine ⟨_, rfl, iteF ?_⟩
      refine k _ false s1 ⟨fun z => (by cases z), fun z => ?_⟩
      rcases z with ⟨_, z, _⟩ | ⟨_, z⟩
      · exact absurd z hr0
      · exact absurd z (by
          rintro ⟨q, e, _⟩
          cases q <;> cases e)
  | bl b => exact ⟨_, rfl, _, rfl, iteF (key (fun e => by cases e) (fun e => by cases e))⟩
  | int i => exact ⟨_, rfl, _, rfl, iteF (key (fun e => by cases e) (fun e => by cases e))⟩
  | str x => exact ⟨_, rfl, _, rfl, iteF (key (fun e => by cases e) (fun e => by cases e))⟩
  | lst h1 h2 => exact ⟨_, rfl, _, rfl, iteF (key (fun e => by cases e) (fun e => by cases e))⟩
  | tup h1 h2 => exact ⟨_, rfl, _, rfl, iteF (key (fun e => by cases e) (fun e => by cases e))⟩
end
end Sw
set_option Elab.async false
set_option maxRecDepth 100000
set_option maxHeartbeats 8000000
namespace Sw
open PySem L2 PySem.Spec PyProof.Rows
section
variable {K : PySem.W.Frag} {σ : L2.St} {Pre : Hp → Prop}
/-- a slice of a tuple, told by its cut -/
theorem mk_slT {t : TE} {ds es : List PyData} {lo hi : Option Int} {tl th : (σ : L2.St) → Hp → (Option Int → Hp → Prop) → Prop} (a : MkD K σ Pre t (.tuple ds))
    (hl : ∀ H Q, Q lo H → tl σ H Q) (hh : ∀ H Q, Q hi H → th σ H Q) (hcut : ∀ (G : Hp) (vs : List V), DpAll K G vs ds → DpAll K G (cutV vs lo hi) es) : MkD K σ Pre (fun σ H Q => t σ H fun v H1 => tl σ H1 fun l H2 => th σ H2 fun h H3 => rSlA K v l h H3 Q) (.tuple es) := fun G H Q s hp k =>
  a G H _ s hp fun G1 H1 v g1 d1 => by
    obtain ⟨p, vs, rfl, h1, d1⟩ := dpTup d1
    refine hl _ _ (hh _ _ ⟨p, vs, rfl, g1.gh.sqT h1, fun e => ?_, fun _ z nz => ?_⟩)
    · refine k G1 H1 _ g1 (.tup h1 ?_)
      have := hcut G1 vs d1
      have ec : cutV vs lo hi = vs := by
        unfold cutV
        rw [e.1, e.2, List.drop_zero, Nat.sub_zero, List.take_length]
      rw [ec] at this
      exact this
    · exact k (upd G1 z (.tup (cutV vs lo hi))) _ _ (g1.trans (.new g1.gh nz)) (.tup (sT upd_same) (dpsS (.new (g1.gh.free nz)) (hcut G1 vs d1)))
theorem dps_drop {H : Hp} : ∀ (m : Nat) {ws : List V} {es : List PyData}, DpAll K H ws es → DpAll K H (ws.drop m) (es.drop m)
  | 0, _, _, h => h
  | m + 1, _, _, .nil => by rw [List.drop_nil, List.drop_nil]; exact .nil
  | m + 1, _, _, .cons a b => dps_drop m b
theorem cutDrop {G : Hp} {vs : List V} {ds : List PyData} (n : Nat) (h : DpAll K G vs ds) : DpAll K G (cutV vs (some (n : Int)) none) (ds.drop n) := by
  rw [cut_drop]
  exact dps_drop n h
theorem cutTake {G : Hp} {vs : List V} {ds : List PyData} (n : Nat) (h : DpAll K G vs ds) : DpAll K G (cutV vs none (some (n : Int))) (ds.take n) := by
  rw [cut_take]
  exact dps_take n h
theorem cutLast {G : Hp} {vs : List V} {ds : List PyData} (h0 : 0 < ds.length) (h : DpAll K G vs ds) : DpAll K G (cutV vs (some (-1)) none) (ds.drop (ds.length - 1)) := by
  have e1 := dpsLen h
  have es : HT.sIx vs.length 0 (some (-1)) = vs.length - 1 := by
    unfold HT.sIx
    first | (simp; omega) | (simp only []; split <;> omega) | omega
  have ec : cutV vs (some (-1)) none = vs.drop (vs.length - 1) := by
    unfold cutV
    rw [es, HT.sIx_none, List.take_of_length_le (by rw [List.length_drop]; exact Nat.le_refl _)]
  rw [ec, e1]
  exact dps_drop _ h
/-- t[n:] -/
theorem mk_fromN {t : TE} {ds : List PyData} (n : Nat) (a : MkD K σ Pre t (.tuple ds)) : MkD K σ Pre (tSl (rSlA K) t (tPart (tC (.int (n : Int)))) tNoPart) (.tuple (ds.drop n)) :=
  mk_slT (tl := tPart (tC (.int (n : Int)))) (th := tNoPart) (lo := some (n : Int)) (hi := none) a (fun H Q q => ⟨_, rfl, q⟩) (fun H Q q => q) fun G vs h => cutDrop n h
/-- t[:n] -/
theorem mk_toN {t : TE} {ds : List PyData} (n : Nat) (a : MkD K σ Pre t (.tuple ds)) : MkD K σ Pre (tSl (rSlA K) t tNoPart (tPart (tC (.int (n : Int))))) (.tuple (ds.take n)) :=
  mk_slT (tl := tNoPart) (th := tPart (tC (.int (n : Int)))) (lo := none) (hi := some (n : Int)) a (fun H Q q => q) (fun H Q q => ⟨_, rfl, q⟩) fun G vs h => cutTake n h
/-- t[:m], m in a slot -/
theorem mk_toV {t : TE} {ds : List PyData} {i n : Nat} (hv : σ[i]? = some (some (.int (n : Int)))) (a : MkD K σ Pre t (.tuple ds)) : MkD K σ Pre (tSl (rSlA K) t tNoPart (tPart (tVar i))) (.tuple (ds.take n)) :=
  mk_slT (tl := tNoPart) (th := tPart (tVar i)) (lo := none) (hi := some (n : Int)) a (fun H Q q => q) (fun H Q q => ⟨_, hv, _, rfl, q⟩) fun G vs h => cutTake n h
/-- t[m + 1:], m in a slot -/
theorem mk_fromV {t : TE} {ds : List PyData} {i n : Nat} (hv : σ[i]? = some (some (.int (n : Int)))) (a : MkD K σ Pre t (.tuple ds)) : MkD K σ Pre (tSl (rSlA K) t (tPart (tOp (rI0 fun i j => .int (i + j)) (tVar i) (tC (.int 1)))) tNoPart) (.tuple (ds.drop (n + 1))) :=
  mk_slT (tl := tPart (tOp (rI0 fun i j => .int (i + j)) (tVar i) (tC (.int 1)))) (th := tNoPart) (lo := some ((n + 1 : Nat) : Int)) (hi := none) a (fun H Q q => ⟨_, hv, _, _, rfl, rfl, _, rfl, q⟩) (fun H Q q => q) fun G vs h => cutDrop (n + 1) h
/-- t[-1:] -/
theorem mk_lastT {t : TE} {ds : List PyData} (h0 : 0 < ds.length) (a : MkD K σ Pre t (.tuple ds)) : MkD K σ Pre (tSl (rSlA K) t (tPart (tUn (rU fun i => .int (-i)) (tC (.int 1)))) tNoPart) (.tuple (ds.drop (ds.length - 1))) :=
  mk_slT (tl := tPart (tUn (rU fun i => .int (-i)) (tC (.int 1)))) (th := tNoPart) (lo := some (-1)) (hi := none) a (fun H Q q => ⟨_, rfl, _, rfl, q⟩) (fun H Q q => q) fun G vs h => cutLast h0 h
/-- t[::-1] -/
theorem mk_revT {t : TE} {ds : List PyData} (a : MkD K σ Pre t (.tuple ds)) : MkD K σ Pre (tRevT K t) (.tuple ds.reverse) := fun G H Q s hp k =>
  a G H _ s hp fun G1 H1 v g1 d1 => by
    obtain ⟨p, vs, rfl, h1, d1⟩ := dpTup d1
    exact ⟨p, vs, rfl, g1.gh.sqT h1, fun z nz => k (upd G1 z (.tup vs.reverse)) _ _ (g1.trans (.new g1.gh nz)) (.tup (sT upd_same) (dpsS (.new (g1.gh.free nz)) (dpAllRev d1)))⟩
/-- k == 1 -/
theorem mk_eqI {t u : TE} {a b : Int} (S : Stay Pre) (ha : MkD K σ Pre t (.int a)) (hb : MkD K σ Pre u (.int b)) : MkD K σ Pre (tOp rEq t u) (.bool (decide (V.int a = V.int b))) := fun G H Q s hp k =>
  ha G H _ s hp fun G1 H1 v g1 d1 => hb G1 H1 _ g1.gh (S hp g1.gg) fun G2 H2 w g2 d2 => by
    cases d1
    cases d2
    exact ⟨rfl, k G2 H2 _ (g1.trans g2) (.bl _)⟩
/-- str(k) -/
theorem mk_strI {t : TE} {a : Int} (h : a.natAbs.log2 < 1920) (ha : MkD K σ Pre t (.int a)) : MkD K σ Pre (tCB (fun xs H Q => ∃ i, xs = [.int i] ∧ i.natAbs.log2 < 1920 ∧ Q (.str (toString i)) H) (tCons t tNil)) (.str (toString a)) := fun G H Q s hp k =>
  ha G H _ s hp fun G1 H1 v g1 d1 => by
    cases d1
    exact ⟨a, rfl, h, k G1 H1 _ g1 (.str _)⟩
/-! ### a list that grows -/
/-- the list at L, whose things are as G tells them -/
def OdP (K : PySem.W.Frag) (H0 : Hp) (L : Addr) (Pre : Hp → Prop) (cur : List PyData) (H : Hp) : Prop := ∃ (G : Hp) (vs : List V), Same H0 G ∧ Same G H ∧ G L = none ∧ H L = some (.lst vs) ∧ DpAll K G vs cur ∧ Pre G
theorem OdP.imp {H0 : Hp} {L : Addr} {Pre' : Hp → Prop} {cur : List PyData} {H : Hp} (h : OdP K H0 L Pre cur H) (k : ∀ G, Same H0 G → Pre G → Pre' G) : OdP K H0 L Pre' cur H := by
  obtain ⟨G, vs, a, b, c, d, e, f⟩ := h
  exact ⟨G, vs, a, b, c, d, e, k G a f⟩
theorem OdP.same {H0 : Hp} {L : Addr} {cur : List PyData} {H : Hp} (h : OdP K H0 L Pre cur H) : Same H0 H := by
  obtain ⟨G, vs, a, b, c, d, e, f⟩ := h
  exact a.trans b
theorem OdP.len {H0 : Hp} {L : Addr} {cur : List PyData} {H : Hp} (h : OdP K H0 L Pre cur H) : ∃ vs, H L = some (.lst vs) ∧ vs.length = cur.length ∧ DpAll K H vs cur := by
  obtain ⟨G, vs, a, b, c, d, e, f⟩ := h
  exact ⟨vs, d, dpsLen e, dpsS b e⟩
/-- a name is given what is made -/
theorem od_mk {H0 : Hp} {L : Addr} {cur : List PyData} {H : Hp} {i : Nat} {te : TE} {d : PyData} {r : TS} {D : Ends} (S : Stay Pre) (h : OdP K H0 L Pre cur H) (m : MkD K σ Pre te d)
    (k : ∀ H' v, OdP K H0 L (fun G => Pre G ∧ Dp K G v d) cur H' → r D (σ.set i (some v)) H') : tSeq (tAsg te (gName i)) r D σ H := by
  obtain ⟨G, vs, a, b, c, e, f, g⟩ := h
  exact m G H _ b g fun G' H' v g' hv => k H' v ⟨G', vs, a.trans g'.gg, g'.gh, g'.fr L _ e c, g'.hh _ _ e, dpsS g'.gg f, S g g'.gg, hv⟩
theorem od_app {H0 : Hp} {L : Addr} {cur : List PyData} {H : Hp} {i : Nat} {te : TE} {d : PyData} {D : Ends} (S : Stay Pre) (hσ : σ[i]? = some (some (.ref L))) (hl : cur.length ≤ 1000) (h : OdP K H0 L Pre cur H) (m : MkD K σ Pre te d)
    (k : ∀ H', OdP K H0 L Pre (cur ++ [d]) H' → D.nx σ H') : tDrop (tBM K "list" rAppend (tVar i) (tCons te tNil)) D σ H := by
  obtain ⟨G, vs, a, b, c, e, f, g⟩ := h
  refine ⟨_, hσ, .inl ⟨rfl, _, sL e⟩, ?_⟩
  refine m G H _ b g fun G' H' v g' hv => ?_
  have e' := g'.hh _ _ e
  have c' := g'.fr L _ e c
  have := dpsLen f
  refine ⟨L, vs, v, rfl, rfl, e', szb (by omega), ?_⟩
  exact k _ ⟨G', vs ++ [v], a.trans g'.gg, g'.gh.mut c', c', upd_same, dpsApp (dpsS g'.gg f) (.cons hv .nil), S g g'.gg⟩
theorem od_ext {H0 : Hp} {L : Addr} {cur ds : List PyData} {H : Hp} {i : Nat} {te : TE} {D : Ends} (S : Stay Pre) (hσ : σ[i]? = some (some (.ref L))) (hl : cur.length ≤ 1000) (hl2 : ds.length ≤ 1000) (h : OdP K H0 L Pre cur H) (m : MkL K σ Pre te ds)
    (k : ∀ H', OdP K H0 L Pre (cur ++ ds) H' → D.nx σ H') : tDrop (tBM K "list" rExtend (tVar i) (tCons te tNil)) D σ H := by
  obtain ⟨G, vs, a, b, c, e, f, g⟩ := h
  refine ⟨_, hσ, .inl ⟨rfl, _, sL e⟩, ?_⟩
  refine m G H _ b g fun G' H' p us g' np ngp hp hds => ?_
  have e' := g'.hh _ _ e
  have c' := g'.fr L _ e c
  have l1 := dpsLen f
  have l2 := dpsLen hds
  refine ⟨L, p, vs, us, rfl, rfl, e', hp, szl (by omega), ?_⟩
  exact k _ ⟨G', vs ++ us, a.trans g'.gg, g'.gh.mut c', c', upd_same, dpsApp (dpsS g'.gg f) hds, S g g'.gg⟩
/-- some = some + [..] -/
theorem od_cat {H0 : Hp} {L : Addr} {cur ds : List PyData} {H : Hp} {i : Nat} {te : TE} {r : TS} {D : Ends} (S : Stay Pre) (hσ : σ[i]? = some (some (.ref L))) (hl : cur.length ≤ 1000) (hl2 : ds.length ≤ 1000) (h : OdP K H0 L Pre cur H) (m : MkL K σ Pre te ds)
    (k : ∀ H' L', OdP K H0 L' Pre (cur ++ ds) H' → r D (σ.set i (some (.ref L'))) H') : tSeq (tAsg (tOp rCat (tVar i) te) (gName i)) r D σ H := by
  obtain ⟨G, vs, a, b, c, e, f, g⟩ := h
  refine ⟨_, hσ, ?_⟩
  refine m G H _ b g fun G' H' p us g' np ngp hp hds => ?_
  have e' := g'.hh _ _ e
  have l1 := dpsLen f
  have l2 := dpsLen hds
  refine ⟨L, p, vs, us, rfl, rfl, e', hp, szl (by omega), fun z nz => ?_⟩
  exact k _ z ⟨G', vs ++ us, a.trans g'.gg, g'.gh.trans (.new nz), g'.gh.free nz, upd_same, dpsApp (dpsS g'.gg f) hds, S g g'.gg⟩
end
end Sw
set_option Elab.async false
set_option maxRecDepth 100000
set_option maxHeartbeats 8000000
namespace Sw
open PySem L2 PySem.Spec PyProof.Rows
/-! ### the odd things -/
structure Gk (d : PyData) (N D : Nat) : Prop where
  ek : ekB d = true
  nd : ndD d ≤ N
  dp : d.depth ≤ D
theorem Gk.mono {d : PyData} {N D N' D' : Nat} (h : Gk d N D) (a : N ≤ N') (b : D ≤ D') : Gk d N' D' := ⟨h.ek, Nat.le_trans h.nd a, Nat.le_trans h.dp b⟩
theorem ek_w : ekB (.str "leaf") = true ∧ ekB (.str "row") = true ∧ ekB (.str "pick") = true ∧ ekB (.str "times") = true ∧ ekB (.str "a") = true ∧ ekB (.str "0") = true ∧ ekB (.str "Row") = true ∧ ekB (.str "") = true := by decide +kernel
theorem ek_i {i : Int} (h1 : -10 ≤ i) (h2 : i ≤ 201) : ekB (.int i) = true := by
  rw [ekB, decide_eq_true h1, decide_eq_true h2]
  rfl
def wD (s : Str) (l : List PyData) : PyData := .tuple [.str s, .tuple l]
def odA (fl : List PyData) : List PyData := [.none, .bool true, .tuple [.str "leaf"], .list [.tuple fl], .list fl, .tuple (fl.take (fl.length - 1)), .tuple (fl ++ [.none]), .tuple [], wD "row" [], wD "times" []]
def odB (T : PyData) : List PyData := [.tuple [.str "pick", .int 0, T], .tuple [.str "pick", .bool true, T], .tuple [.str "pick", .int (-1), T], .tuple [.str "pick", .int 9, T], .tuple [T, T]]
def odC (T : PyData) : List PyData := [wD "row" [.tuple [.int 0, T]], wD "row" [.tuple [.bool true, T]], wD "row" [.tuple [.int 1, T]], wD "row" [.tuple [.int 0, .none]]]
def odD (T : PyData) : List PyData := [wD "times" [T], wD "times" [T, T], wD "times" [.none], .tuple [.str "times", .list [T]], .tuple [.list [.str "leaf"]]]
def odE (T : PyData) : List PyData := [wD "row" [.tuple [.int (-1), T]], .tuple [.str "leaf", .str "a"], wD "row" [.tuple [.int 0, T], .tuple [.int 0, T]], wD "row" [T]]
def odF (T : PyData) : List PyData := [wD "row" [.list [.int 0, T]], .str "leaf", .int 5, .tuple [.str "pick", .str "0", T], .tuple [.str "pick", .none, T], .tuple [.str "row", .none]]
def odG (T : PyData) : List PyData := [wD "row" [.tuple [.str "0", T]], wD "row" [.tuple [.int 0]], wD "row" [.tuple [.int 0, T, .int 1]], .tuple [.str "times", .none]]
def odW : List PyData := [.str "row", .str "times", .str "pick", .str "leaf", .str "Row", .str ""]
def odR (w : PyData) (rs : List PyData) : List PyData := [.tuple [w, .tuple (rs.take (rs.length - 1))], .tuple [w, .tuple (rs ++ rs.drop (rs.length - 1))], .tuple [w, .tuple rs.reverse]]
theorem gkT {T d : PyData} {N D : Nat} (hT : Gk T N D) (h : d ∈ odB T ++ odC T ++ odD T ++ odE T ++ odF T ++ odG T) : Gk d (2 * N + 60) (D + 6) := by
  obtain ⟨h1, h2, h3⟩ := hT
  obtain ⟨w1, w2, w3, w4, w5, w6, w7, w8⟩ := ek_w
  have i0 : ekB (.int 0) = true := ek_i (by decide) (by decide)
  have i1 : ekB (.int 1) = true := ek_i (by decide) (by decide)
  have i5 : ekB (.int 5) = true := ek_i (by decide) (by decide)
  have i9 : ekB (.int 9) = true := ek_i (by decide) (by decide)
  have im : ekB (.int (-1)) = true := ek_i (by decide) (by decide)
  have n0 : ekB .none = true := by simp [ekB]
  have b0 : ekB (.bool true) = true := by simp [ekB]
  have tup : ∀ l : List PyData, l.length ≤ 250 → eks l = true → ekB (.tuple l) = true := fun l a b => by rw [ekB, decide_eq_true a, b]; rfl
  have lst : ∀ l : List PyData, l.length ≤ 250 → eks l = true → ekB (.list l) = true := fun l a b => by rw [ekB, decide_eq_true a, b]; rfl
  have nil' : eks [] = true := by simp [eks]
  have cons' : ∀ (d : PyData) (l : List PyData), ekB d = true → eks l = true → eks (d :: l) = true := fun d l a b => by rw [eks, a, b]; rfl
  simp only [odB, odC, odD, odE, odF, odG, List.mem_append, List.mem_cons, List.not_mem_nil, or_false] at h
  rcases h with ((((h | h) | h) | h) | h) | h
  all_goals
    repeat' rcases h with h | h
  all_goals
    refine ⟨?_, ?_, ?_⟩
    · try unfold wD
      repeat' first | exact h1 | exact w1 | exact w2 | exact w3 | exact w4 | exact w5 | exact w6 | exact w7 | exact w8 | exact i0 | exact i1 | exact i5 | exact i9 | exact im | exact n0 | exact b0 | exact nil' | refine tup _ (Nat.le_of_ble_eq_true rfl) ?_ | refine lst _ (Nat.le_of_ble_eq_true rfl) ?_ | refine cons' _ _ ?_ ?_
    · simp only [wD, ndD, nds]; omega
    · simp only [wD, PyData.depth, PyData.depthAll]; omega
theorem eks_app : ∀ a b : List PyData, eks (a ++ b) = (eks a && eks b)
  | [], b => by rw [List.nil_append, eks, Bool.true_and]
  | d :: a, b => by rw [List.cons_append, eks, eks, eks_app a b, Bool.and_assoc]
theorem nds_app : ∀ a b : List PyData, nds (a ++ b) = nds a + nds b
  | [], b => by rw [List.nil_append, nds, Nat.zero_add]
  | d :: a, b => by rw [List.cons_append, nds, nds, nds_app a b, Nat.add_assoc]
theorem dpa_app : ∀ a b : List PyData, PyData.depthAll (a ++ b) = max (PyData.depthAll a) (PyData.depthAll b)
  | [], b => by rw [List.nil_append, PyData.depthAll]; omega
  | d :: a, b => by rw [List.cons_append, PyData.depthAll, PyData.depthAll, dpa_app a b]; omega
/-- lists of good things -/
structure Lk (l : List PyData) (N D : Nat) : Prop where
  ek : eks l = true
  nd : nds l ≤ N
  dp : PyData.depthAll l ≤ D
theorem Lk.app {a b : List PyData} {N M D : Nat} (h : Lk a N D) (g : Lk b M D) : Lk (a ++ b) (N + M) D := ⟨by rw [eks_app, h.ek, g.ek]; rfl, by rw [nds_app]; have := h.nd; have := g.nd; omega, by rw [dpa_app]; have := h.dp; have := g.dp; omega⟩
theorem Lk.parts {a b : List PyData} {N D : Nat} (h : Lk (a ++ b) N D) : Lk a N D ∧ Lk b N D ∧ nds a + nds b ≤ N := by
  obtain ⟨h1, h2, h3⟩ := h
  rw [eks_app, Bool.and_eq_true] at h1
  rw [nds_app] at h2
  rw [dpa_app] at h3
  exact ⟨⟨h1.1, by omega, by omega⟩, ⟨h1.2, by omega, by omega⟩, h2⟩
theorem Lk.take {l : List PyData} {N D : Nat} (h : Lk l N D) (n : Nat) : Lk (l.take n) N D := by
  rw [← List.take_append_drop n l] at h
  exact h.parts.1
theorem Lk.drop {l : List PyData} {N D : Nat} (h : Lk l N D) (n : Nat) : Lk (l.drop n) N D := by
  rw [← List.take_append_drop n l] at h
  exact h.parts.2.1
theorem Lk.nil {N D : Nat} : Lk [] N D := ⟨by rw [eks], by rw [nds]; exact Nat.zero_le _, by rw [PyData.depthAll]; exact Nat.zero_le _⟩
theorem Lk.cons {d : PyData} {l : List PyData} {N M D : Nat} (h : Gk d N D) (g : Lk l M D) : Lk (d :: l) (N + M) D := ⟨by rw [eks, h.ek, g.ek]; rfl, by rw [nds]; have := h.nd; have := g.nd; omega, by rw [PyData.depthAll]; have := h.dp; have := g.dp; omega⟩
theorem Lk.mono {l : List PyData} {N D N' D' : Nat} (h : Lk l N D) (a : N ≤ N') (b : D ≤ D') : Lk l N' D' := ⟨h.ek, Nat.le_trans h.nd a, Nat.le_trans h.dp b⟩
theorem Lk.rev : ∀ {l : List PyData} {N D : Nat}, Lk l N D → Lk l.reverse N D := by
  intro l
  induction l with
  | nil => intro N D h; exact h
  | cons d l ih =>
    intro N D h
    have h' : Lk ([d] ++ l) N D := h
    obtain ⟨a, b, c⟩ := h'.parts
    rw [List.reverse_cons]
    have i1 := ih (⟨b.ek, Nat.le_refl _, b.dp⟩ : Lk l (nds l) D)
    have a1 : Lk [d] (nds [d]) D := ⟨a.ek, Nat.le_refl _, a.dp⟩
    exact (i1.app a1).mono (by omega) (Nat.le_refl _)
theorem Lk.tup {l : List PyData} {N D : Nat} (h : Lk l N D) (hl : l.length ≤ 250) : Gk (.tuple l) (N + 1) (D + 1) := ⟨by rw [ekB, decide_eq_true hl, h.ek]; rfl, by rw [ndD]; have := h.nd; omega, by rw [PyData.depth]; have := h.dp; omega⟩
theorem Lk.lst {l : List PyData} {N D : Nat} (h : Lk l N D) (hl : l.length ≤ 250) : Gk (.list l) (N + 1) (D + 1) := ⟨by rw [ekB, decide_eq_true hl, h.ek]; rfl, by rw [ndD]; have := h.nd; omega, by rw [PyData.depth]; have := h.dp; omega⟩
theorem Gk.un {l : List PyData} {N D : Nat} (h : Gk (.tuple l) N D) : Lk l (N - 1) (D - 1) ∧ 1 ≤ N ∧ 1 ≤ D ∧ l.length ≤ 250 := by
  obtain ⟨h1, h2, h3⟩ := h
  rw [ekB, Bool.and_eq_true] at h1
  rw [ndD] at h2
  rw [PyData.depth] at h3
  exact ⟨⟨h1.2, by omega, by omega⟩, by omega, by omega, of_decide_eq_true h1.1⟩
theorem Gk.str {s : Str} {D : Nat} (h : ekB (.str s) = true) : Gk (.str s) 1 D := ⟨h, by simp [ndD], by simp only [PyData.depth]; omega⟩
theorem Gk.int {i : Int} {D : Nat} (h1 : -10 ≤ i) (h2 : i ≤ 201) : Gk (.int i) 1 D := ⟨ek_i h1 h2, by simp [ndD], by simp only [PyData.depth]; omega⟩
theorem Gk.non {D : Nat} : Gk .none 1 D := ⟨by simp [ekB], by simp [ndD], by simp only [PyData.depth]; omega⟩
theorem Gk.bl {b : Bool} {D : Nat} : Gk (.bool b) 1 D := ⟨by simp [ekB], by simp [ndD], by simp only [PyData.depth]; omega⟩
theorem Lk.mem {l : List PyData} {N D : Nat} (h : Lk l N D) {d : PyData} (hd : d ∈ l) : Gk d N D := by
  obtain ⟨a, b, rfl⟩ := List.append_of_mem hd
  obtain ⟨_, h2, _⟩ := h.parts
  have h2' : Lk ([d] ++ b) N D := h2
  obtain ⟨h3, _, _⟩ := h2'.parts
  obtain ⟨e1, e2, e3⟩ := h3
  rw [eks, eks, Bool.and_true] at e1
  rw [nds, nds] at e2
  rw [PyData.depthAll, PyData.depthAll] at e3
  exact ⟨e1, by omega, by omega⟩
theorem Lk.one {d : PyData} {N D : Nat} (h : Gk d N D) : Lk [d] N D := (Lk.cons h (Lk.nil (N := 0))).mono (Nat.le_refl _) (Nat.le_refl _)
theorem Lk.two {a b : PyData} {N M D : Nat} (h : Gk a N D) (g : Gk b M D) : Lk [a, b] (N + M) D := Lk.cons h (Lk.one g)
theorem lk_put {rs : List PyData} {N D D' m : Nat} {e x : PyData} (h : Lk rs N D) (he : rs[m]? = some e) (hx : Gk x (2 * ndD e + 60) D') (hD : D ≤ D') : Lk (rs.take m ++ [x] ++ rs.drop (m + 1)) (2 * N + 60) D' := by
  have hs : rs.take m ++ ([e] ++ rs.drop (m + 1)) = rs := by
    obtain ⟨h1, h2⟩ := List.getElem?_eq_some_iff.mp he
    have := List.take_append_drop m rs
    rw [List.drop_eq_getElem_cons h1, h2] at this
    exact this
  rw [← hs] at h
  obtain ⟨a, b, c⟩ := h.parts
  obtain ⟨b1, b2, c2⟩ := b.parts
  have c3 := b.nd
  rw [nds_app, nds, nds] at c
  refine ⟨?_, ?_, ?_⟩
  · rw [eks_app, eks_app, eks, eks, a.ek, hx.ek, b2.ek]
    rfl
  · rw [nds_app, nds_app, nds, nds]
    have := hx.nd
    omega
  · rw [dpa_app, dpa_app, PyData.depthAll, PyData.depthAll]
    have := hx.dp
    have := a.dp
    have := b2.dp
    omega
theorem gkA {fl d : PyData} {l : List PyData} {N D : Nat} (e : fl = .tuple l) (hl : l.length ≤ 3) (hT : Gk (.tuple l) N D) (h : d ∈ odA l) : Gk d (2 * N + 60) (D + 6) := by
  obtain ⟨hL, hN, hD, _⟩ := hT.un
  simp only [odA, List.mem_cons, List.not_mem_nil, or_false] at h
  rcases h with h | h | h | h | h | h | h | h | h | h
  · rw [h]; exact Gk.non.mono (by omega) (Nat.le_refl _)
  · rw [h]; exact Gk.bl.mono (by omega) (Nat.le_refl _)
  · rw [h]; exact ((Lk.one (Gk.str (D := 0) ek_w.1)).tup (Nat.le_of_ble_eq_true rfl)).mono (by omega) (by omega)
  · rw [h]; exact ((Lk.one hT).lst (Nat.le_of_ble_eq_true rfl)).mono (by omega) (by omega)
  · rw [h]; exact (hL.lst (by omega)).mono (by omega) (by omega)
  · rw [h]; exact ((hL.take _).tup (by rw [List.length_take]; omega)).mono (by omega) (by omega)
  · rw [h]; exact ((hL.app (Lk.one Gk.non)).tup (by rw [List.length_append, List.length_singleton]; omega)).mono (by omega) (by omega)
  · rw [h]; exact ((Lk.nil (N := 0) (D := 0)).tup (Nat.le_of_ble_eq_true rfl)).mono (by omega) (by omega)
  · rw [h]; exact ((Lk.two (Gk.str (D := 1) ek_w.2.1) ((Lk.nil (N := 0) (D := 0)).tup (Nat.le_of_ble_eq_true rfl))).tup (Nat.le_of_ble_eq_true rfl)).mono (by omega) (by omega)
  · rw [h]; exact ((Lk.two (Gk.str (D := 1) ek_w.2.2.2.1) ((Lk.nil (N := 0) (D := 0)).tup (Nat.le_of_ble_eq_true rfl))).tup (Nat.le_of_ble_eq_true rfl)).mono (by omega) (by omega)
theorem gkR {w : Str} {rs : List PyData} {d : PyData} {N D : Nat} (hw : ekB (.str w) = true) (hl : rs.length ≤ 200) (hR : Lk rs N D) (h : d ∈ odR (.str w) rs ++ [.tuple [.str w, .list rs]]) : Gk d (2 * N + 60) (D + 6) := by
  simp only [odR, List.mem_append, List.mem_cons, List.not_mem_nil, or_false] at h
  have two : ∀ l, Lk l (2 * N) D → l.length ≤ 250 → Gk (.tuple [.str w, .tuple l]) (2 * N + 60) (D + 6) := fun l a b => ((Lk.two (Gk.str hw) (a.tup b)).tup (Nat.le_of_ble_eq_true rfl)).mono (by omega) (by omega)
  rcases h with (h | h | h) | h
  · rw [h]; exact two _ ((hR.take _).mono (by omega) (Nat.le_refl _)) (by rw [List.length_take]; omega)
  · rw [h]; exact two _ ((hR.app (hR.drop _)).mono (by omega) (Nat.le_refl _)) (by rw [List.length_append, List.length_drop]; omega)
  · rw [h]; exact two _ (hR.rev.mono (by omega) (Nat.le_refl _)) (by rw [List.length_reverse]; omega)
  · rw [h]; exact ((Lk.two (Gk.str hw) (hR.lst (by omega))).tup (Nat.le_of_ble_eq_true rfl)).mono (by omega) (by omega)
/-- the kinds of a reading, as data -/
inductive KD : List PyData → Prop
  | leaf : KD [.str "leaf"]
  | pick (k : Nat) (d : PyData) (hk : k ≤ 2) : KD [.str "pick", .int (k : Int), d]
  | row (prs : List (Nat × PyData)) (hne : prs ≠ []) (hl : prs.length ≤ 200) (hk : ∀ p, p ∈ prs → p.1 ≤ 2) : KD [.str "row", .tuple (prs.map pD)]
  | times (ds : List PyData) (hne : ds ≠ []) (hl : ds.length ≤ 200) : KD [.str "times", .tuple ds]
theorem okRow_ix : ∀ {prs : List (Nat × Rdg)} {ps : List Fm} {lo hi : Nat} {r : RowS}, Rdg.okRow prs ps lo hi r → ∀ p, p ∈ prs → p.1 < hi
  | [], ps, lo, hi, r, h, p, hp => by cases hp
  | (j, q) :: prs, ps, lo, hi, r, h, p, hp => by
    rw [Rdg.okRow] at h
    obtain ⟨h1, h2, h3, p', r1, r2, h4, h5, h6, h7⟩ := h
    rcases List.mem_cons.mp hp with rfl | hp
    · exact h2
    · exact okRow_ix h7 p hp
theorem kd_of {n : Nat} {f : Fm} {q : Rdg} {r : RowS} (hw : Lw n f) (hq : q.ok f r) (hr : r.length ≤ 200) : ∃ fl, q.dat = .tuple fl ∧ KD fl ∧ Gk (.tuple fl) ((5 * n + 5) * r.length) (3 * n + 3) := by
  obtain ⟨g1, g2, g3⟩ := rdg_gr n f q r hw hq hr
  have hG : Gk q.dat ((5 * n + 5) * r.length) (3 * n + 3) := ⟨g1, g2, g3⟩
  cases q with
  | leaf => exact ⟨_, rfl, .leaf, hG⟩
  | row prs =>
    have e : (Rdg.row prs).dat = .tuple [.str "row", .tuple ((prs.map fun p => (p.1, p.2.dat)).map pD)] := by rw [Rdg.dat, datP_pD]
    rw [e] at hG ⊢
    cases f with
    | row ps =>
      rw [Rdg.ok] at hq
      cases n with
      | zero => exact hw.elim
      | succ n =>
        have hw' : ps.length ≤ 3 ∧ ∀ p, p ∈ ps → Lw n p := hw
        have h2 := okRow_nd prs ps 0 ps.length r hq.2
        have hlen : prs.length ≤ r.length := by
          clear e hG g1 g2 g3 h2
          obtain ⟨_, h3⟩ := hq
          have key : ∀ (prs : List (Nat × Rdg)) (lo : Nat) (r : RowS), Rdg.okRow prs ps lo ps.length r → prs.length ≤ r.length := by
            intro prs
            induction prs with
            | nil => intro lo r _; exact Nat.zero_le _
            | cons p prs ih =>
              obtain ⟨j, q⟩ := p
              intro lo r h
              rw [Rdg.okRow] at h
              obtain ⟨_, _, _, p', r1, r2, _, rfl, h5, h6⟩ := h
              have a := ih _ _ h6
              have b : 0 < r1.length := List.length_pos_iff.mpr (ok_ne _ _ _ h5)
              rw [List.length_cons, List.length_append]
              omega
          exact key prs 0 r h3
        refine ⟨_, rfl, .row _ (fun e => hq.1 (List.map_eq_nil_iff.mp e)) (by rw [List.length_map]; omega) fun p hp => ?_, hG⟩
        obtain ⟨p', hp', rfl⟩ := List.mem_map.mp hp
        have := okRow_ix hq.2 p' hp'
        show p'.1 ≤ 2
        omega
    | _ => rw [Rdg.ok] at hq; exact hq.elim; all_goals intros; contradiction
  | pick k q =>
    cases f with
    | pick ps =>
      rw [Rdg.ok] at hq
      obtain ⟨p, h1, h2⟩ := hq
      cases n with
      | zero => exact hw.elim
      | succ n =>
        have hw' : 1 ≤ ps.length ∧ ps.length ≤ 3 ∧ ∀ p, p ∈ ps → Lw n p := hw
        have := (List.getElem?_eq_some_iff.mp h1).1
        exact ⟨_, rfl, .pick k q.dat (by omega), hG⟩
    | _ => rw [Rdg.ok] at hq; exact hq.elim; all_goals intros; contradiction
  | times qs =>
    cases f with
    | times p l h =>
      rw [Rdg.ok] at hq
      have hlen : qs.length ≤ r.length := by
        have key : ∀ (qs : List Rdg) (r : RowS), Rdg.okAll qs p r → qs.length ≤ r.length := by
          intro qs
          induction qs with
          | nil => intro r _; exact Nat.zero_le _
          | cons q qs ih =>
            intro r h
            rw [Rdg.okAll] at h
            obtain ⟨r1, r2, rfl, h5, h6⟩ := h
            have a := ih _ h6
            have b : 0 < r1.length := List.length_pos_iff.mpr (ok_ne _ _ _ h5)
            rw [List.length_cons, List.length_append]
            omega
        exact key qs r hq.2.2.2
      refine ⟨_, rfl, .times _ (fun e => hq.1 ?_) (by rw [datL_map, List.length_map]; omega), hG⟩
      have : (Rdg.datL qs).length = 0 := by rw [e]; rfl
      rw [datL_map, List.length_map] at this
      exact List.length_eq_zero_iff.mp this
    | _ => rw [Rdg.ok] at hq; exact hq.elim; all_goals intros; contradiction
end Sw
set_option Elab.async false
set_option maxRecDepth 100000
set_option maxHeartbeats 16000000
namespace Sw
open PySem L2 PySem.Spec PyProof.Rows
section
variable {K : PySem.W.Frag} {σ : L2.St} {Pre : Hp → Prop}
theorem mk_lenT {t : TE} {ds : List PyData} (a : MkD K σ Pre t (.tuple ds)) : MkD K σ Pre (tCB (fun xs H Q => ∃ p ys, xs = [V.ref p] ∧ (SqL K H p ys ∨ SqT K H p ys) ∧ Q (V.int ys.length) H) (tCons t tNil)) (.int (ds.length : Nat)) := fun G H Q s hp k =>
  a G H _ s hp fun G1 H1 v g1 d1 => by
    obtain ⟨p, vs, rfl, h1, d1⟩ := dpTup d1
    refine ⟨p, vs, rfl, .inr (g1.gh.sqT h1), ?_⟩
    rw [dpsLen d1]
    exact k G1 H1 _ g1 (.int _)
theorem OdP.grow {H0 : Hp} {L : Addr} {cur : List PyData} {H H' : Hp} (h : OdP K H0 L Pre cur H) (s : Same H H') : OdP K H0 L Pre cur H' := by
  obtain ⟨G, vs, a, b, c, d, e, f⟩ := h
  exact ⟨G, vs, a, b.trans s, c, s _ _ d, e, f⟩
theorem OdP.pre {H0 : Hp} {L : Addr} {cur : List PyData} {H : Hp} (S : Stay Pre) (h : OdP K H0 L Pre cur H) : Pre H := by
  obtain ⟨G, vs, a, b, c, d, e, f⟩ := h
  exact S f b
theorem od_start {H0 : Hp} {i : Nat} {te : TE} {ds : List PyData} {r : TS} {D : Ends} (S : Stay Pre) (hp : Pre H0) (m : MkL K σ Pre te ds) (k : ∀ H' L, OdP K H0 L Pre ds H' → r D (σ.set i (some (.ref L))) H') : tSeq (tAsg te (gName i)) r D σ H0 :=
  m H0 H0 _ (.refl _) hp fun G H' p vs g np ng hl hd => k H' p ⟨G, vs, g.gg, g.gh, ng, hl, hd, S hp g.gg⟩
theorem od_mk2 {H0 : Hp} {L : Addr} {cur : List PyData} {H : Hp} {i j : Nat} {te : TE} {a b : PyData} {r : TS} {D : Ends} (S : Stay Pre) (h : OdP K H0 L Pre cur H) (m : MkD K σ Pre te (.tuple [a, b]))
    (k : ∀ H' x y, OdP K H0 L (fun G => Pre G ∧ Dp K G x a ∧ Dp K G y b) cur H' → r D ((σ.set i (some x)).set j (some y)) H') : tSeq (tAsg te (gTup K 2 (gCons (gName i) (gCons (gName j) gNil)))) r D σ H := by
  obtain ⟨G, vs, q1, q2, c, e, f, g⟩ := h
  refine m G H _ q2 g fun G' H' v g' hv => ?_
  obtain ⟨p, xs, rfl, h1, d1⟩ := dpTup hv
  obtain ⟨x, us, rfl, e1, d2⟩ := dpCons d1
  obtain ⟨y, us2, rfl, e2, d3⟩ := dpCons d2
  cases dpNil d3
  exact ⟨p, _, rfl, g'.gh.sqT h1, rfl, _, _, rfl, _, _, rfl, rfl, k H' x y ⟨G', vs, q1.trans g'.gg, g'.gh, g'.fr L _ e c, g'.hh _ _ e, dpsS g'.gg f, S g g'.gg, e1, e2⟩⟩
theorem od_mkL {H0 : Hp} {L : Addr} {cur : List PyData} {H : Hp} {i : Nat} {te : TE} {ds : List PyData} {r : TS} {D : Ends} (S : Stay Pre) (h : OdP K H0 L Pre cur H) (m : MkL K σ Pre te ds)
    (k : ∀ H' p us, OdP K H0 L (fun G => Pre G ∧ G p = some (.lst us) ∧ DpAll K G us ds) cur H' → r D (σ.set i (some (.ref p))) H') : tSeq (tAsg te (gName i)) r D σ H := by
  obtain ⟨G, vs, a, b, c, e, f, g⟩ := h
  refine m G H _ b g fun G' H' p us g' np ng hl hd => k H' p us ?_
  have g2 := g'.put np ng hl
  exact ⟨upd G' p (.lst us), vs, a.trans g2.gg, g2.gh, g2.fr L _ e c, g2.hh _ _ e, dpsS g2.gg f, S g g2.gg, upd_same, dpsS (.new ng) hd⟩
end
theorem natOf (z : Int) (n : Nat) (h0 : 0 ≤ z) (h : z < n) : ∃ m : Nat, z = (m : Int) ∧ m < n := ⟨z.toNat, by omega, by omega⟩
theorem modN (z : Int) (n : Nat) (h : 0 < n) : ∃ m : Nat, z % (n : Int) = (m : Int) ∧ m < n := natOf _ n (Int.emod_nonneg _ (by omega)) (Int.emod_lt_of_pos _ (by omega))
theorem stay_st {p : Addr} {o : HO} : Stay fun H => H p = some o := fun h s => s _ _ h
def intOf : PyData → Int
  | .int i => i
  | _ => 0
def less3 : List PyData := [.int 1, .int 2, .int 3]
def less6 : List PyData := [.int 1, .int 2, .int 3, .int (-1), .int (-2), .int (-3)]
theorem less6_ok {d : PyData} (h : d ∈ less6) : ∃ j, d = .int j ∧ -3 ≤ j ∧ j ≤ 3 := by
  simp only [less6, List.mem_cons, List.not_mem_nil, or_false] at h
  rcases h with h | h | h | h | h | h <;> exact ⟨_, h, by decide, by decide⟩
theorem less3_ok {d : PyData} (h : d ∈ less3) : ∃ j, d = .int j ∧ 1 ≤ j ∧ j ≤ 3 := by
  simp only [less3, List.mem_cons, List.not_mem_nil, or_false] at h
  rcases h with h | h | h <;> exact ⟨_, h, by decide, by decide⟩
/-- the pairs that are put in -/
def odX (k : Nat) (d : PyData) : List PyData := [.list [.int (k : Int), d], .tuple [.bool (decide (V.int (k : Int) = V.int 1)), d], .tuple [.str (toString (k : Int)), d], .tuple [.int ((k : Int) + 1), d], .tuple [.int ((k : Int) - 1), d], .tuple [.int (k : Int)], .none, .tuple [.int (k : Int), .none]]
theorem odX_ok {k : Nat} {d e : PyData} {N D : Nat} (hk : k ≤ 2) (hd : Gk d N D) (h : e ∈ odX k d) : Gk e (N + 3) (D + 1) := by
  have hs : ekB (.str (toString (k : Int))) = true := by
    match k, hk with
    | 0, _ => decide +kernel
    | 1, _ => decide +kernel
    | 2, _ => decide +kernel
  have L2 : ∀ a, Gk a 1 D → Lk [a, d] (N + 2) D := fun a ha => (Lk.cons ha (Lk.cons hd (Lk.nil (N := 0)))).mono (by omega) (Nat.le_refl _)
  have L1 : ∀ a, Gk a 1 D → Lk [a] (N + 2) D := fun a ha => (Lk.cons ha (Lk.nil (N := 0))).mono (by omega) (Nat.le_refl _)
  simp only [odX, List.mem_cons, List.not_mem_nil, or_false] at h
  rcases h with h | h | h | h | h | h | h | h
  · rw [h]; exact (L2 _ (.int (by omega) (by omega))).lst (Nat.le_of_ble_eq_true rfl)
  · rw [h]; exact (L2 _ (.bl)).tup (Nat.le_of_ble_eq_true rfl)
  · rw [h]; exact (L2 _ (.str hs)).tup (Nat.le_of_ble_eq_true rfl)
  · rw [h]; exact (L2 _ (.int (by omega) (by omega))).tup (Nat.le_of_ble_eq_true rfl)
  · rw [h]; exact (L2 _ (.int (by omega) (by omega))).tup (Nat.le_of_ble_eq_true rfl)
  · rw [h]; exact (L1 _ (.int (by omega) (by omega))).tup (Nat.le_of_ble_eq_true rfl)
  · rw [h]; exact (Gk.non (D := D + 1)).mono (by omega) (Nat.le_refl _)
  · rw [h]; exact ((Lk.cons (.int (by omega) (by omega)) (Lk.cons (.non) (Lk.nil (N := 0)))).tup (Nat.le_of_ble_eq_true rfl)).mono (by omega) (Nat.le_refl _)
section
variable {P : Program} {w : World} {K : PySem.W.Frag} {mg : Str → Option Value} {base : Heap}
abbrev n_law_odd : List Str := ["thing", "cell", "some", "rows", "word", "less", "first", "at", "k", "inner", "odd", "pair"]
theorem sc_law_odd : FnScope n_law_odd ["thing", "cell"] (defScope s_law_odd) := ⟨rfl, rfl, rfl, by decide +kernel, rfl, by decide +kernel, by decide +kernel⟩
def spOdd (K : PySem.W.Frag) : Sp := fun vs H Q _ => ∃ (v : V) (c : Int) (fl : List PyData) (N D : Nat), vs = [v, .int c] ∧ Dp K H v (.tuple fl) ∧ KD fl ∧ Gk (.tuple fl) N D ∧ ∀ H' u d, Same H H' → Dp K H' u d → Gk d (2 * N + 60) (D + 6) → Q u H'
def OdQ (K : PySem.W.Frag) (H0 : Hp) (L : Addr) (Pre : Hp → Prop) (N D m : Nat) (H : Hp) : Prop := ∃ cur, OdP K H0 L Pre cur H ∧ (∀ d, d ∈ cur → Gk d (2 * N + 60) (D + 6)) ∧ 1 ≤ cur.length ∧ cur.length ≤ m
theorem ok_law_odd (F : DefAt K mg "_law_odd" s_law_odd ["thing", "cell"]) (b_isinstance : mg "isinstance" = none) (b_len : mg "len" = none) (b_list : mg "list" = none) (b_str : mg "str" = none) (b_tuple : mg "tuple" = none) : DefOk P w K mg base "_law_odd" 1 ["thing", "cell"] (spOdd K) := by
  refine F.ok sc_law_odd (fun vs H Q E h => ?_) (fun fA cdv A outer s H vs Q E hr h => ?_)
  · obtain ⟨_, _, _, _, _, rfl, _⟩ := h
    rfl
  obtain ⟨v, c, fl, N, D, rfl, hv, hkd, hgk, k⟩ := h
  have form : ∀ {σ : L2.St}, σ[0]? = some (some v) → MkD K σ (fun H => Dp K H v (.tuple fl)) (tVar 0) (.tuple fl) := fun h => mk_var h fun _ q => q
  have S0 : Stay fun H => Dp K H v (.tuple fl) := stay_dp
  have hfl3 : fl.length ≤ 3 := by cases hkd <;> simp
  have hfl1 : 1 ≤ fl.length := by cases hkd <;> simp
  obtain ⟨hLk, hN1, hD1, _⟩ := hgk.un
  -- the return
  obtain ⟨t11, h11, f11⟩ : ∃ t11, PSs (cxOf CX0 P w K mg base n_law_odd "_law_odd" (defScope s_law_odd) fA cdv A outer s H E).nox ((defBody s_law_odd).drop 11) t11 ∧
      ∀ (H1 : Hp) (L : Addr) (m : Nat) (o3 o6 o7 o8 o9 o10 o11 : Option V), OdQ K H L (fun G => Dp K G v (.tuple fl)) N D m H1 → t11 { nx := fun _ H' => Q .non H', rt := Q } [some v, some (.int c), some (.ref L), o3, none, none, o6, o7, o8, o9, o10, o11] H1 := by
    refine ⟨_, (pss_one (ps_ret (pe_ix ix_list (pv 2) (pe_op op_mod (pv 1) (pe_callB call_len_seq (by rfl) b_len PySem.boot_len (pa_cons (pv 2) pa_nil))) (fun _ _ => rfl)))), ?_⟩
    rintro H1 L m o3 o6 o7 o8 o9 o10 o11 ⟨cur, O, hg, hl1, hl2⟩
    obtain ⟨vs, hL, hvl, hds⟩ := O.len
    obtain ⟨j, ej, lj⟩ := modN c vs.length (by omega)
    obtain ⟨x, hx⟩ : ∃ x, vs[j]? = some x := ⟨_, List.getElem?_eq_getElem (by omega)⟩
    obtain ⟨d, hd, hxd⟩ := dpsAtV hds hx
    exact ⟨_, rfl, _, rfl, _, rfl, L, _, rfl, .inl (sL hL), _, _, rfl, rfl, (by show (0 : Int) < ((vs.length : Nat) : Int); omega), L, _, _, _, rfl, rfl, sL hL, at_of ej hx, k H1 x d O.same hxd (hg d (List.mem_of_getElem? hd))⟩
  -- a row's own
  obtain ⟨t10, h10, f10⟩ : ∃ t10, PSs (cxOf CX0 P w K mg base n_law_odd "_law_odd" (defScope s_law_odd) fA cdv A outer s H E).nox ((defBody s_law_odd).drop 10) t10 ∧
      ∀ (H1 : Hp) (L : Addr) (o3 : Option V), OdQ K H L (fun G => Dp K G v (.tuple fl)) N D 100 H1 → t10 { nx := fun _ H' => Q .non H', rt := Q } [some v, some (.int c), some (.ref L), o3, none, none, none, none, none, none, none, none] H1 := by
    refine ⟨_, (pss_cons (ps_if (PW.pt (pw_and (pt_cmpR (op_eqD hr.units) (pe_slice sl_tupA (pv 0) po_none (po_some pe_int)) (pe_tup (pa_cons pe_str pa_nil)) (nomark _)) (pw_and (pt_cmpR op_eq (pe_callB call_len_seq (by rfl) b_len PySem.boot_len (pa_cons (pv 0) pa_nil)) pe_int (nomark _)) (pw_and1 (pt_cmpR op_gt (pe_callB call_len_seq (by rfl) b_len PySem.boot_len (pa_cons (pe_ix ix_tup (pv 0) pe_int (fun _ _ => rfl)) pa_nil)) pe_int (nomark _)))))) (pss_cons (ps_set (i := 6) sc_law_odd.nd rfl (Or.inr rfl) (pe_ix ix_tup (pe_ix ix_tup (pv 0) pe_int (fun _ _ => rfl)) pe_int (fun _ _ => rfl)))
    (pss_cons (ps_expr (pe_bm PySem.F.plainAttrs_list PySem.F.slot_list_extend PySem.F.type_list_extend mt_extend (pv 2) (pa_cons (pe_lc (own := [("less", 5)]) (g := gName 5) rfl sc_law_odd.nd (pi_tup (pe_tup (pa_cons pe_int (pa_cons pe_int (pa_cons pe_int pa_nil))))) (blkOk_by (own := [("less", 5)]) (N := n_law_odd) (sc := defScope s_law_odd) (by decide +kernel)) (fun _ _ _ _ _ => (pg_name (i := 5) sc_law_odd.nd rfl (Or.inl rfl))) (fun _ _ _ _ _ => pts_nil) (fun _ _ _ _ _ => (pe_tup (pa_cons pe_str (pa_cons (pe_op (r := rCatA K) op_catA (pe_tup (pa_cons (pe_tup (pa_cons (pe_op op_sub (pe_ix (r := rIxT K) ix_tup (pv 6) pe_int (fun _ _ => rfl)) (pv 5)) (pa_cons (pe_ix (r := rIxT K) ix_tup (pv 6) pe_int (fun _ _ => rfl)) pa_nil))) pa_nil)) (pe_slice (r := rSlA K) sl_tupA (pe_ix (r := rIxT K) ix_tup (pv 0) pe_int (fun _ _ => rfl)) (po_some pe_int) po_none)) pa_nil))))) pa_nil)))
    (pss_cons (ps_set (i := 7) sc_law_odd.nd rfl (Or.inl rfl) (pe_op op_mod (pe_op op_fdiv (pe_op op_mod (pe_op op_pow (pe_op op_add (pe_op op_mod (pv 1) pe_int) pe_int) pe_int) pe_int) pe_int) (pe_callB call_len_seq (by rfl) b_len PySem.boot_len (pa_cons (pe_ix ix_tup (pv 0) pe_int (fun _ _ => rfl)) pa_nil))))
    (pss_cons (ps_asg (pe_ix ix_tup (pe_ix ix_tup (pv 0) pe_int (fun _ _ => rfl)) (pv 7) (fun _ _ => rfl)) (pg_tup rfl (pgs_cons (pg_name (i := 8) sc_law_odd.nd rfl (Or.inl rfl)) (pgs_cons (pg_name (i := 9) sc_law_odd.nd rfl (Or.inl rfl)) pgs_nil))))
    (pss_cons (ps_set (i := 10) sc_law_odd.nd rfl (Or.inl rfl) (pe_lst (pa_cons (pe_lst (pa_cons (pv 8) (pa_cons (pv 9) pa_nil))) (pa_cons (pe_tup (pa_cons (pe_cmpR op_eq (pv 8) pe_int (nomark _)) (pa_cons (pv 9) pa_nil))) (pa_cons (pe_tup (pa_cons (pe_callTy call_str_int (by rfl) b_str (by decide +kernel) (pa_cons (pv 8) pa_nil)) (pa_cons (pv 9) pa_nil))) (pa_cons (pe_tup (pa_cons (pe_op op_add (pv 8) pe_int) (pa_cons (pv 9) pa_nil))) (pa_cons (pe_tup (pa_cons (pe_op op_sub (pv 8) pe_int) (pa_cons (pv 9) pa_nil))) (pa_cons (pe_tup (pa_cons (pv 8) pa_nil)) (pa_cons pe_non (pa_cons (pe_tup (pa_cons (pv 8) (pa_cons pe_non pa_nil))) pa_nil))))))))))
    (pss_one (ps_for PassesOwn.never rfl (pi_list (pv 10)) (pg_name (i := 11) sc_law_odd.nd rfl (Or.inl rfl))
      (pss_one (ps_expr (pe_bm PySem.F.plainAttrs_list PySem.F.slot_list_append PySem.F.type_list_append mt_append (pv 2) (pa_cons (pe_tup (pa_cons pe_str (pa_cons (pe_op op_catA (pe_op op_catA (pe_slice sl_tupA (pe_ix ix_tup (pv 0) pe_int (fun _ _ => rfl)) po_none (po_some (pv 7))) (pe_tup (pa_cons (pv 11) pa_nil))) (pe_slice sl_tupA (pe_ix ix_tup (pv 0) pe_int (fun _ _ => rfl)) (po_some (pe_op op_add (pv 7) pe_int)) po_none)) pa_nil))) pa_nil))))))))))) pss_nil)
      h11), ?_⟩
    rintro H1 L o3 ⟨cur, O, hg, hl1, hl2⟩
    have hp1 := O.pre S0
    refine (mk_toN (K := K) 1 (form rfl)).use hp1 fun H2 x s2 hx => ?_
    refine (mk_tup (K := K) (Pre := fun _ => True) (ds := [.str "row"]) (Nat.le_of_ble_eq_true rfl) (mk_cons stay_true mk_str mk_nil)).use trivial fun H3 y s3 hy => ?_
    refine ⟨_, _, dpS s3 hx, hy, ?_, by decide +kernel, _, rfl, ?_⟩
    · cases hkd <;> first | (show SeqAt.shaped (.tuple [.str "leaf"]) = true; decide +kernel) | (show SeqAt.shaped (.tuple [.str "pick"]) = true; decide +kernel) | (show SeqAt.shaped (.tuple [.str "row"]) = true; decide +kernel) | (show SeqAt.shaped (.tuple [.str "times"]) = true; decide +kernel)
    have s13 := s2.trans s3
    have O3 := O.grow s13
    have hv3 := O3.pre S0
    have off : t11 { nx := fun _ H' => Q .non H', rt := Q } [some v, some (.int c), some (.ref L), o3, none, none, none, none, none, none, none, none] H3 := f11 H3 L 100 _ _ _ _ _ _ _ ⟨cur, O3, hg, hl1, hl2⟩
    cases hkd with
    | leaf => exact iteF' (by show ¬ PyData.eqv (.tuple [.str "leaf"]) (.tuple [.str "row"]) = true; decide +kernel) (iteF off)
    | pick kk d hk => exact iteF' (by show ¬ PyData.eqv (.tuple [.str "pick"]) (.tuple [.str "row"]) = true; decide +kernel) (iteF off)
    | times ds hne hl => exact iteF' (by show ¬ PyData.eqv (.tuple [.str "times"]) (.tuple [.str "row"]) = true; decide +kernel) (iteF off)
    | row prs hne hl hk =>
      refine iteT' (by show PyData.eqv (.tuple [.str "row"]) (.tuple [.str "row"]) = true; decide +kernel) ?_
      have ha0 := hv3
      obtain ⟨a3, xs3, rfl, ha3, hx3⟩ := dpTup hv3
      obtain ⟨x30, us3, rfl, e30, hx4⟩ := dpCons hx3
      obtain ⟨x31, us4, rfl, e31, hx5⟩ := dpCons hx4
      cases dpNil hx5
      obtain ⟨b3, ys3, rfl, hb3, hys⟩ := dpTup e31
      have hyl := dpsLen hys
      rw [List.length_map] at hyl
      have hpl : 0 < prs.length := List.length_pos_iff.mpr hne
      refine ⟨_, rfl, a3, _, rfl, .inr ha3, rfl, _, rfl, iteT ?_⟩
      refine ⟨_, rfl, a3, _, 1, _, rfl, rfl, ha3, atI_nat (j := 1) rfl, b3, _, rfl, .inr hb3, _, _, rfl, rfl, _, rfl, ?_⟩
      refine iteT' (decide_eq_true (by omega)) ?_
      have hRow : Gk (.tuple (prs.map pD)) (N - 1) (D - 1) := hLk.mem (by simp)
      obtain ⟨hRs, hN2, hD2, _⟩ := hRow.un
      have rs1 : ([PyData.str "row", .tuple (prs.map pD)])[1]? = some (.tuple (prs.map pD)) := rfl
      -- first
      obtain ⟨p0, hp0⟩ : ∃ p0, prs[0]? = some p0 := ⟨_, List.getElem?_eq_getElem hpl⟩
      have hp0' : (prs.map pD)[0]? = some (pD p0) := by rw [List.getElem?_map, hp0]; rfl
      have hk0 := hk p0 (List.mem_of_getElem? hp0)
      refine od_mk (K := K) (d := pD p0) S0 O3 (mk_ixT S0 (mk_ixT S0 (form rfl) mk_int (j := 1) rfl rs1) mk_int (j := 0) rfl hp0') fun H4 x6 O4 => ?_
      have S1 : Stay fun G => Dp K G (.ref a3) (.tuple [.str "row", .tuple (prs.map pD)]) ∧ Dp K G x6 (pD p0) := stay_and S0 stay_dp
      have g0 : Gk (pD p0) (N - 2) (D - 2) := hRs.mem (List.mem_of_getElem? hp0')
      obtain ⟨g0L, _, _, _⟩ := Gk.un (show Gk (.tuple [.int (p0.1 : Int), p0.2]) (N - 2) (D - 2) from g0)
      have g02 : Gk p0.2 (N - 2) (D - 2) := (g0L.mem (by simp)).mono (by omega) (by omega)
      refine od_ext (K := K) (ds := less3.map fun l => .tuple [.str "row", .tuple ([.tuple [.int ((p0.1 : Int) - intOf l), p0.2]] ++ (prs.map pD).drop 1)]) S1 rfl (by omega) (Nat.le_of_ble_eq_true rfl) O4
        (mkl_compT (i := 5) (own := [5]) (es := less3) (F := fun l => .tuple [.str "row", .tuple ([.tuple [.int ((p0.1 : Int) - intOf l), p0.2]] ++ (prs.map pD).drop 1)]) S1 (by decide)
          (mk_tup (by decide) (mk_cons S1 mk_int (mk_cons S1 mk_int (mk_cons S1 mk_int mk_nil)))) (fun _ => rfl)
          (fun x l hl => ?_)) fun H5 O5 => ?_
      · obtain ⟨j, rfl, j1, j2⟩ := less3_ok hl
        have SS : Stay fun G => (Dp K G (.ref a3) (.tuple [.str "row", .tuple (prs.map pD)]) ∧ Dp K G x6 (pD p0)) ∧ Dp K G x (.int j) := stay_and S1 stay_dp
        have fv : MkD K ([some (.ref a3), some (.int c), some (.ref L), o3, none, some x, some x6, none, none, none, none, none] : L2.St) (fun G => (Dp K G (.ref a3) (.tuple [.str "row", .tuple (prs.map pD)]) ∧ Dp K G x6 (pD p0)) ∧ Dp K G x (.int j)) (tVar 0) (.tuple [.str "row", .tuple (prs.map pD)]) := mk_var rfl fun _ q => q.1.1
        refine mk_tup (Nat.le_of_ble_eq_true rfl) (mk_cons SS mk_str (mk_cons SS (mk_catT SS (by rw [List.length_drop, List.length_map, List.length_singleton]; omega)
          (mk_tup (Nat.le_of_ble_eq_true rfl) (mk_cons SS (mk_tup (Nat.le_of_ble_eq_true rfl) (mk_cons SS (mk_i0 SS (mk_ixT SS (mk_var (d := .tuple [.int (p0.1 : Int), p0.2]) rfl fun _ q => q.1.2) mk_int (j := 0) rfl rfl) (mk_var rfl fun _ q => q.2)) (mk_cons SS (mk_ixT SS (mk_var (d := .tuple [.int (p0.1 : Int), p0.2]) rfl fun _ q => q.1.2) mk_int (j := 1) rfl rfl) mk_nil))) mk_nil))
          (mk_fromN 1 (mk_ixT SS fv mk_int (j := 1) rfl rs1))) mk_nil))
      have hg5 : ∀ d, d ∈ cur ++ (less3.map fun l => PyData.tuple [.str "row", .tuple ([.tuple [.int ((p0.1 : Int) - intOf l), p0.2]] ++ (prs.map pD).drop 1)]) → Gk d (2 * N + 60) (D + 6) := by
        intro e he
        rcases List.mem_append.mp he with he | he
        · exact hg e he
        · obtain ⟨l, hl, rfl⟩ := List.mem_map.mp he
          obtain ⟨j, rfl, j1, j2⟩ := less3_ok hl
          have q1 : Gk (.tuple [.int ((p0.1 : Int) - intOf (.int j)), p0.2]) (N + 3) D := ((Lk.two (Gk.int (D := D - 2) (by show -10 ≤ (p0.1 : Int) - j; omega) (by show (p0.1 : Int) - j ≤ 201; omega)) g02).tup (Nat.le_of_ble_eq_true rfl)).mono (by omega) (by omega)
          exact ((Lk.two (Gk.str ek_w.2.1) (((Lk.one q1).app ((hRs.drop 1).mono (Nat.le_refl _) (show D - 1 - 1 ≤ D by omega))).tup (by rw [List.length_append, List.length_drop, List.length_map, List.length_singleton]; omega))).tup (Nat.le_of_ble_eq_true rfl)).mono (by omega) (by omega)
      generalize hcur : (cur ++ (less3.map fun l => PyData.tuple [.str "row", .tuple ([.tuple [.int ((p0.1 : Int) - intOf l), p0.2]] ++ (prs.map pD).drop 1)])) = cur5 at O5 hg5
      have hcl : cur5.length = cur.length + 3 := by rw [← hcur, List.length_append, List.length_map]; rfl
      -- at
      obtain ⟨m, em, lm⟩ := modN (((c % 1000003 + 1) ^ (Int.toNat 5) % 2147483647) / 8) (prs.map pD).length (by rw [List.length_map]; exact hpl)
      rw [List.length_map] at lm
      have fv7 : MkD K ([some (.ref a3), some (.int c), some (.ref L), o3, none, none, some x6, none, none, none, none, none] : L2.St) (fun G => Dp K G (.ref a3) (.tuple [.str "row", .tuple (prs.map pD)]) ∧ Dp K G x6 (pD p0)) (tVar 0) (.tuple [.str "row", .tuple (prs.map pD)]) := mk_var rfl fun _ q => q.1
      have vc7 : MkD K ([some (.ref a3), some (.int c), some (.ref L), o3, none, none, some x6, none, none, none, none, none] : L2.St) (fun G => Dp K G (.ref a3) (.tuple [.str "row", .tuple (prs.map pD)]) ∧ Dp K G x6 (pD p0)) (tVar 1) (.int c) := mk_var rfl fun _ _ => .int _
      refine od_mk (K := K) (d := .int (m : Int)) S1 O5 (by
        rw [← em]
        refine mk_iC (C := fun _ j => 0 < j) (g := fun i j => i % j) S1 (mk_iC (C := CDiv) (g := fun i j => i / j) S1 (mk_iC (C := fun _ j => 0 < j) (g := fun i j => i % j) S1 (mk_iC (C := CPow) (g := fun i j => i ^ j.toNat) S1 (mk_i0 (g := fun i j => i + j) S1 (mk_iC (C := fun _ j => 0 < j) (g := fun i j => i % j) S1 vc7 mk_int ?m1) mk_int) mk_int ?m2) mk_int ?m3) mk_int ?m4) (mk_lenT (mk_ixT S1 fv7 mk_int (j := 1) rfl rs1)) ?m5
        case m1 => show (0 : Int) < 1000003; decide
        case m2 =>
          have e1 := Int.emod_nonneg c (b := 1000003) (by decide)
          have e2 := Int.emod_lt_of_pos c (b := 1000003) (by decide)
          exact ⟨by decide, by decide, by omega⟩
        case m3 => show (0 : Int) < 2147483647; decide
        case m4 => exact ⟨by decide, by decide⟩
        case m5 => show (0 : Int) < ((prs.map pD).length : Int); rw [List.length_map]; omega) fun H6 x7 O6' => ?_
      obtain ⟨rfl⟩ : x7 = .int (m : Int) := by
        obtain ⟨_, _, _, _, _, _, _, q⟩ := O6'
        exact dpInt q.2
      have O6 := OdP.imp (Pre' := fun G => Dp K G (.ref a3) (.tuple [.str "row", .tuple (prs.map pD)]) ∧ Dp K G x6 (pD p0)) O6' (fun G _ q => q.1)
      -- the pair there
      obtain ⟨pm, hpm⟩ : ∃ pm, prs[m]? = some pm := ⟨_, List.getElem?_eq_getElem lm⟩
      have hpm' : (prs.map pD)[m]? = some (.tuple [.int (pm.1 : Int), pm.2]) := by rw [List.getElem?_map, hpm]; rfl
      have hkm := hk pm (List.mem_of_getElem? hpm)
      refine od_mk2 (K := K) (a := .int (pm.1 : Int)) (b := pm.2) S1 O6 (mk_ixT S1 (mk_ixT S1 (mk_var rfl fun _ q => q.1) mk_int (j := 1) rfl rs1) (mk_var (d := .int (m : Int)) rfl fun _ _ => .int _) (j := m) rfl hpm') fun H7 x8 x9 O7 => ?_
      have S7 : Stay fun G => (Dp K G (.ref a3) (.tuple [.str "row", .tuple (prs.map pD)]) ∧ Dp K G x6 (pD p0)) ∧ Dp K G x8 (.int (pm.1 : Int)) ∧ Dp K G x9 pm.2 := stay_and S1 (stay_and stay_dp stay_dp)
      have v8 : ∀ {σ : L2.St}, σ[8]? = some (some x8) → MkD K σ (fun G => (Dp K G (.ref a3) (.tuple [.str "row", .tuple (prs.map pD)]) ∧ Dp K G x6 (pD p0)) ∧ Dp K G x8 (.int (pm.1 : Int)) ∧ Dp K G x9 pm.2) (tVar 8) (.int (pm.1 : Int)) := fun h => mk_var h fun _ q => q.2.1
      have v9 : ∀ {σ : L2.St}, σ[9]? = some (some x9) → MkD K σ (fun G => (Dp K G (.ref a3) (.tuple [.str "row", .tuple (prs.map pD)]) ∧ Dp K G x6 (pD p0)) ∧ Dp K G x8 (.int (pm.1 : Int)) ∧ Dp K G x9 pm.2) (tVar 9) pm.2 := fun h => mk_var h fun _ q => q.2.2
      have hlog : (pm.1 : Int).natAbs.log2 < 1920 := by
        have : ∀ n : Fin 3, ((n.val : Nat) : Int).natAbs.log2 < 1920 := by decide
        exact this ⟨pm.1, by omega⟩
      refine od_mkL (K := K) (ds := odX pm.1 pm.2) S7 O7 (mkl_lst (Nat.le_of_ble_eq_true rfl)
        (mk_cons S7 (mk_lst (Nat.le_of_ble_eq_true rfl) (mk_cons S7 (v8 rfl) (mk_cons S7 (v9 rfl) mk_nil)))
        (mk_cons S7 (mk_tup (Nat.le_of_ble_eq_true rfl) (mk_cons S7 (mk_eqI S7 (v8 rfl) mk_int) (mk_cons S7 (v9 rfl) mk_nil)))
        (mk_cons S7 (mk_tup (Nat.le_of_ble_eq_true rfl) (mk_cons S7 (mk_strI hlog (v8 rfl)) (mk_cons S7 (v9 rfl) mk_nil)))
        (mk_cons S7 (mk_tup (Nat.le_of_ble_eq_true rfl) (mk_cons S7 (mk_i0 S7 (v8 rfl) mk_int) (mk_cons S7 (v9 rfl) mk_nil)))
        (mk_cons S7 (mk_tup (Nat.le_of_ble_eq_true rfl) (mk_cons S7 (mk_i0 S7 (v8 rfl) mk_int) (mk_cons S7 (v9 rfl) mk_nil)))
        (mk_cons S7 (mk_tup (Nat.le_of_ble_eq_true rfl) (mk_cons S7 (v8 rfl) mk_nil))
        (mk_cons S7 mk_non
        (mk_cons S7 (mk_tup (Nat.le_of_ble_eq_true rfl) (mk_cons S7 (v8 rfl) (mk_cons S7 mk_non mk_nil))) mk_nil))))))))) fun H8 LO us O8 => ?_
      have S8 : Stay fun G => ((Dp K G (.ref a3) (.tuple [.str "row", .tuple (prs.map pD)]) ∧ Dp K G x6 (pD p0)) ∧ Dp K G x8 (.int (pm.1 : Int)) ∧ Dp K G x9 pm.2) ∧ G LO = some (.lst us) ∧ DpAll K G us (odX pm.1 pm.2) := stay_and S7 (stay_and stay_st fun h s => dpsS s h)
      have hul : us.length = 8 := by
        have := (O8.pre S8).2.2
        rw [dpsLen this]
        rfl
      have gpm : Gk pm.2 (ndD (.tuple [.int (pm.1 : Int), pm.2])) (D - 2) := by
        have q := hRs.mem (List.mem_of_getElem? hpm')
        obtain ⟨qL, _, _, _⟩ := q.un
        have q2 := qL.mem (d := pm.2) (by simp)
        exact ⟨q2.ek, by simp only [ndD, nds]; omega, by have := q2.dp; omega⟩
      refine ⟨_, rfl, LO, rfl, ⟨_, sL (O8.pre S8).2.1⟩, ?_⟩
      refine for_list (K := K) (a := LO) (xs := us) (fun i σ H' => ∃ (o11 : Option V) (cur' : List PyData), σ = [some (.ref a3), some (.int c), some (.ref L), o3, none, none, some x6, some (.int (m : Int)), some x8, some x9, some (.ref LO), o11] ∧ OdP K H L (fun G => ((Dp K G (.ref a3) (.tuple [.str "row", .tuple (prs.map pD)]) ∧ Dp K G x6 (pD p0)) ∧ Dp K G x8 (.int (pm.1 : Int)) ∧ Dp K G x9 pm.2) ∧ G LO = some (.lst us) ∧ DpAll K G us (odX pm.1 pm.2)) cur' H' ∧ (∀ d, d ∈ cur' → Gk d (2 * N + 60) (D + 6)) ∧ 1 ≤ cur'.length ∧ cur'.length ≤ 110 + i)
        ⟨none, cur5, rfl, O8, hg5, by omega, by omega⟩ (fun i σ H' _ ⟨_, _, _, O, _⟩ => sL (O.pre S8).2.1) ?_ ?_
      · rintro i x σ H' hx ⟨o11, cur', rfl, O, hg', l1, l2⟩
        have hi := (List.getElem?_eq_some_iff.mp hx).1
        obtain ⟨d, hd, _⟩ := dpsAtV (O.pre S8).2.2 hx
        have O' := OdP.imp (Pre' := fun G => (((Dp K G (.ref a3) (.tuple [.str "row", .tuple (prs.map pD)]) ∧ Dp K G x6 (pD p0)) ∧ Dp K G x8 (.int (pm.1 : Int)) ∧ Dp K G x9 pm.2) ∧ G LO = some (.lst us) ∧ DpAll K G us (odX pm.1 pm.2)) ∧ Dp K G x d) O (fun G _ q => ⟨q, by
          obtain ⟨d', h1, h2⟩ := dpsAtV q.2.2 hx
          rw [hd] at h1
          cases h1
          exact h2⟩)
        have SS : Stay fun G => (((Dp K G (.ref a3) (.tuple [.str "row", .tuple (prs.map pD)]) ∧ Dp K G x6 (pD p0)) ∧ Dp K G x8 (.int (pm.1 : Int)) ∧ Dp K G x9 pm.2) ∧ G LO = some (.lst us) ∧ DpAll K G us (odX pm.1 pm.2)) ∧ Dp K G x d := stay_and S8 stay_dp
        have fv : MkD K ([some (.ref a3), some (.int c), some (.ref L), o3, none, none, some x6, some (.int (m : Int)), some x8, some x9, some (.ref LO), some x] : L2.St) (fun G => (((Dp K G (.ref a3) (.tuple [.str "row", .tuple (prs.map pD)]) ∧ Dp K G x6 (pD p0)) ∧ Dp K G x8 (.int (pm.1 : Int)) ∧ Dp K G x9 pm.2) ∧ G LO = some (.lst us) ∧ DpAll K G us (odX pm.1 pm.2)) ∧ Dp K G x d) (tVar 0) (.tuple [.str "row", .tuple (prs.map pD)]) := mk_var rfl fun _ q => q.1.1.1.1
        refine od_app (K := K) (d := .tuple [.str "row", .tuple ((prs.map pD).take m ++ [d] ++ (prs.map pD).drop (m + 1))]) SS rfl (by omega) O' (mk_tup (Nat.le_of_ble_eq_true rfl) (mk_cons SS mk_str (mk_cons SS
          (mk_catT SS (by rw [List.length_append, List.length_take, List.length_drop, List.length_map, List.length_singleton]; omega)
            (mk_catT SS (by rw [List.length_take, List.length_map, List.length_singleton]; omega) (mk_toV rfl (mk_ixT SS fv mk_int (j := 1) rfl rs1)) (mk_tup (Nat.le_of_ble_eq_true rfl) (mk_cons SS (mk_var rfl fun _ q => q.2) mk_nil)))
            (mk_fromV rfl (mk_ixT SS fv mk_int (j := 1) rfl rs1))) mk_nil))) fun H9 O9 => ?_
        refine ⟨some x, _, rfl, OdP.imp O9 (fun G _ q => q.1), fun e he => ?_, by rw [List.length_append]; omega, by rw [List.length_append, List.length_singleton]; omega⟩
        rcases List.mem_append.mp he with he | he
        · exact hg' e he
        · rw [List.mem_singleton.mp he]
          have gd := odX_ok hkm gpm (List.mem_of_getElem? hd)
          have q := lk_put (D' := D + 3) hRs hpm' (gd.mono (by omega) (by omega)) (by omega)
          exact ((Lk.two (Gk.str ek_w.2.1) (q.tup (by rw [List.length_append, List.length_append, List.length_take, List.length_drop, List.length_map, List.length_singleton]; omega))).tup (Nat.le_of_ble_eq_true rfl)).mono (by omega) (by omega)
      · rintro σ H' ⟨o11, cur', rfl, O, hg', l1, l2⟩
        exact f11 H' L 200 _ _ _ _ _ _ _ ⟨cur', OdP.imp O (fun G _ q => q.1.1.1), hg', l1, by omega⟩
  -- a pick's own
  obtain ⟨t9, h9, f9⟩ : ∃ t9, PSs (cxOf CX0 P w K mg base n_law_odd "_law_odd" (defScope s_law_odd) fA cdv A outer s H E).nox ((defBody s_law_odd).drop 9) t9 ∧
      ∀ (H1 : Hp) (L : Addr) (o3 : Option V), OdQ K H L (fun G => Dp K G v (.tuple fl)) N D 60 H1 → t9 { nx := fun _ H' => Q .non H', rt := Q } [some v, some (.int c), some (.ref L), o3, none, none, none, none, none, none, none, none] H1 := by
    refine ⟨_, (pss_cons (ps_if (PW.pt (pw_and (pt_cmpR (op_eqD hr.units) (pe_slice sl_tupA (pv 0) po_none (po_some pe_int)) (pe_tup (pa_cons pe_str pa_nil)) (nomark _)) (pw_and1 (pt_cmpR op_eq (pe_callB call_len_seq (by rfl) b_len PySem.boot_len (pa_cons (pv 0) pa_nil)) pe_int (nomark _))))) (pss_one (ps_expr (pe_bm PySem.F.plainAttrs_list PySem.F.slot_list_extend PySem.F.type_list_extend mt_extend (pv 2) (pa_cons (pe_lc (own := [("less", 5)]) (g := gName 5) rfl sc_law_odd.nd (pi_tup (pe_tup (pa_cons pe_int (pa_cons pe_int (pa_cons pe_int (pa_cons (pe_un un_neg pe_int) (pa_cons (pe_un un_neg pe_int) (pa_cons (pe_un un_neg pe_int) pa_nil)))))))) (blkOk_by (own := [("less", 5)]) (N := n_law_odd) (sc := defScope s_law_odd) (by decide +kernel)) (fun _ _ _ _ _ => (pg_name (i := 5) sc_law_odd.nd rfl (Or.inl rfl))) (fun _ _ _ _ _ => pts_nil) (fun _ _ _ _ _ => (pe_tup (pa_cons pe_str (pa_cons (pe_op op_sub (pe_ix (r := rIxT K) ix_tup (pv 0) pe_int (fun _ _ => rfl)) (pv 5)) (pa_cons (pe_ix (r := rIxT K) ix_tup (pv 0) pe_int (fun _ _ => rfl)) pa_nil)))))) pa_nil)))) pss_nil)
      h10), ?_⟩
    rintro H1 L o3 ⟨cur, O, hg, hl1, hl2⟩
    have hp1 := O.pre S0
    refine (mk_toN (K := K) 1 (form rfl)).use hp1 fun H2 x s2 hx => ?_
    refine (mk_tup (K := K) (Pre := fun _ => True) (ds := [.str "pick"]) (Nat.le_of_ble_eq_true rfl) (mk_cons stay_true mk_str mk_nil)).use trivial fun H3 y s3 hy => ?_
    refine ⟨_, _, dpS s3 hx, hy, ?_, by decide +kernel, _, rfl, ?_⟩
    · cases hkd <;> first | (show SeqAt.shaped (.tuple [.str "leaf"]) = true; decide +kernel) | (show SeqAt.shaped (.tuple [.str "pick"]) = true; decide +kernel) | (show SeqAt.shaped (.tuple [.str "row"]) = true; decide +kernel) | (show SeqAt.shaped (.tuple [.str "times"]) = true; decide +kernel)
    have s13 := s2.trans s3
    have O3 := O.grow s13
    have hv3 := O3.pre S0
    have off : t10 { nx := fun _ H' => Q .non H', rt := Q } [some v, some (.int c), some (.ref L), o3, none, none, none, none, none, none, none, none] H3 := f10 H3 L _ ⟨cur, O3, hg, hl1, by omega⟩
    cases hkd with
    | leaf => exact iteF' (by show ¬ PyData.eqv (.tuple [.str "leaf"]) (.tuple [.str "pick"]) = true; decide +kernel) (iteF off)
    | row prs hne hl hk => exact iteF' (by show ¬ PyData.eqv (.tuple [.str "row"]) (.tuple [.str "pick"]) = true; decide +kernel) (iteF off)
    | times ds hne hl => exact iteF' (by show ¬ PyData.eqv (.tuple [.str "times"]) (.tuple [.str "pick"]) = true; decide +kernel) (iteF off)
    | pick kk d hk =>
      refine iteT' (by show PyData.eqv (.tuple [.str "pick"]) (.tuple [.str "pick"]) = true; decide +kernel) ?_
      obtain ⟨a3, xs3, rfl, ha3, hx3⟩ := dpTup hv3
      refine ⟨_, rfl, a3, _, rfl, .inr ha3, rfl, _, rfl, ?_⟩
      rw [dpsLen hx3]
      refine iteT ?_
      refine od_ext (K := K) (ds := less6.map fun l => .tuple [.str "pick", .int ((kk : Int) - intOf l), d]) S0 rfl (by omega) (Nat.le_of_ble_eq_true rfl) O3
        (mkl_compT (i := 5) (own := [5]) (es := less6) (F := fun l => .tuple [.str "pick", .int ((kk : Int) - intOf l), d]) S0 (by decide)
          (mk_tup (by decide) (mk_cons S0 mk_int (mk_cons S0 mk_int (mk_cons S0 mk_int (mk_cons S0 (mk_neg mk_int) (mk_cons S0 (mk_neg mk_int) (mk_cons S0 (mk_neg mk_int) mk_nil))))))) (fun _ => rfl)
          (fun x l hl => ?_)) fun H4 O4 => ?_
      · obtain ⟨j, rfl, j1, j2⟩ := less6_ok hl
        have SS : Stay fun H => Dp K H (.ref a3) (.tuple [.str "pick", .int (kk : Int), d]) ∧ Dp K H x (.int j) := stay_and stay_dp stay_dp
        have fv : MkD K ([some (.ref a3), some (.int c), some (.ref L), o3, none, some x, none, none, none, none, none, none] : L2.St) (fun H => Dp K H (.ref a3) (.tuple [.str "pick", .int (kk : Int), d]) ∧ Dp K H x (.int j)) (tVar 0) (.tuple [.str "pick", .int (kk : Int), d]) := mk_var rfl fun _ q => q.1
        exact mk_tup (Nat.le_of_ble_eq_true rfl) (mk_cons SS mk_str (mk_cons SS (mk_i0 SS (mk_ixT SS fv mk_int (j := 1) rfl rfl) (mk_var rfl fun _ q => q.2)) (mk_cons SS (mk_ixT SS fv mk_int (j := 2) rfl rfl) mk_nil)))
      · refine f10 H4 L _ ⟨_, O4, fun e he => ?_, by rw [List.length_append]; omega, by rw [List.length_append, List.length_map]; show cur.length + 6 ≤ 100; omega⟩
        rcases List.mem_append.mp he with he | he
        · exact hg e he
        · obtain ⟨l, hl, rfl⟩ := List.mem_map.mp he
          obtain ⟨j, rfl, j1, j2⟩ := less6_ok hl
          have hd : Gk d (N - 1) (D - 1) := hLk.mem (by simp)
          exact ((Lk.cons (Gk.str ek_w.2.2.1) (Lk.cons (Gk.int (by show -10 ≤ (kk : Int) - j; omega) (by show (kk : Int) - j ≤ 201; omega)) (Lk.cons hd (Lk.nil (N := 0))))).tup (Nat.le_of_ble_eq_true rfl)).mono (by omega) (by omega)
  -- other words
  obtain ⟨t8, h8, f8⟩ : ∃ t8, PSs (cxOf CX0 P w K mg base n_law_odd "_law_odd" (defScope s_law_odd) fA cdv A outer s H E).nox ((defBody s_law_odd).drop 8) t8 ∧
      ∀ (H1 : Hp) (L : Addr) (o3 : Option V), OdQ K H L (fun G => Dp K G v (.tuple fl)) N D 50 H1 → t8 { nx := fun _ H' => Q .non H', rt := Q } [some v, some (.int c), some (.ref L), o3, none, none, none, none, none, none, none, none] H1 := by
    refine ⟨_, (pss_cons (ps_expr (pe_bm PySem.F.plainAttrs_list PySem.F.slot_list_extend PySem.F.type_list_extend mt_extend (pv 2) (pa_cons (pe_lc (own := [("word", 4)]) (g := gName 4) rfl sc_law_odd.nd (pi_tup (pe_tup (pa_cons pe_str (pa_cons pe_str (pa_cons pe_str (pa_cons pe_str (pa_cons pe_str (pa_cons pe_str pa_nil)))))))) (blkOk_by (own := [("word", 4)]) (N := n_law_odd) (sc := defScope s_law_odd) (by decide +kernel)) (fun _ _ _ _ _ => (pg_name (i := 4) sc_law_odd.nd rfl (Or.inl rfl))) (fun _ _ _ _ _ => pts_nil) (fun _ _ _ _ _ => (pe_op (r := rCatA K) op_catA (pe_tup (pa_cons (pv 4) pa_nil)) (pe_slice (r := rSlA K) sl_tupA (pv 0) (po_some pe_int) po_none)))) pa_nil)))
      h9), ?_⟩
    rintro H1 L o3 ⟨cur, O, hg, hl1, hl2⟩
    refine od_ext (K := K) (ds := odW.map fun w => .tuple ([w] ++ fl.drop 1)) S0 rfl (by omega) (Nat.le_of_ble_eq_true rfl) O
      (mkl_compT (i := 4) (own := [4]) (es := odW) (F := fun w => .tuple ([w] ++ fl.drop 1)) S0 (by decide)
        (mk_tup (by decide) (mk_cons S0 mk_str (mk_cons S0 mk_str (mk_cons S0 mk_str (mk_cons S0 mk_str (mk_cons S0 mk_str (mk_cons S0 mk_str mk_nil))))))) (fun _ => rfl)
        (fun x d _ => mk_catT (stay_and S0 stay_dp) (by rw [List.length_drop, List.length_singleton]; omega) (mk_tup (Nat.le_of_ble_eq_true rfl) (mk_cons (stay_and S0 stay_dp) (mk_var rfl fun _ q => q.2) mk_nil)) (mk_fromN 1 (mk_var rfl fun _ q => q.1)))) fun H4 O4 => ?_
    refine f9 H4 L _ ⟨_, O4, fun e he => ?_, by rw [List.length_append]; omega, by rw [List.length_append, List.length_map]; show cur.length + 6 ≤ 60; omega⟩
    rcases List.mem_append.mp he with he | he
    · exact hg e he
    · obtain ⟨wd, hw, rfl⟩ := List.mem_map.mp he
      have hgw : Gk wd 1 1 := by
        simp only [odW, List.mem_cons, List.not_mem_nil, or_false] at hw
        rcases hw with h | h | h | h | h | h <;> (rw [h]; exact Gk.str (by decide +kernel))
      exact ((Lk.app ((Lk.cons hgw (Lk.nil (N := 0))).mono (Nat.le_refl _) (show 1 ≤ D by omega)) ((hLk.drop 1).mono (Nat.le_refl _) (show D - 1 ≤ D by omega))).tup (by rw [List.length_append, List.length_drop, List.length_singleton]; omega)).mono (by omega) (by omega)
  refine ⟨_, (pss_cons (ps_set (i := 2) sc_law_odd.nd rfl (Or.inl rfl) (pe_lst (pa_cons pe_non (pa_cons pe_bl (pa_cons (pe_tup (pa_cons pe_str pa_nil)) (pa_cons (pe_lst (pa_cons (pv 0) pa_nil)) (pa_cons (pe_callTy call_list_of (by rfl) b_list (by decide +kernel) (pa_cons (pv 0) pa_nil)) (pa_cons (pe_slice sl_tupA (pv 0) po_none (po_some (pe_un un_neg pe_int))) (pa_cons (pe_op op_catA (pv 0) (pe_tup (pa_cons pe_non pa_nil))) (pa_cons (pe_tup pa_nil) (pa_cons (pe_tup (pa_cons pe_str (pa_cons (pe_tup pa_nil) pa_nil))) (pa_cons (pe_tup (pa_cons pe_str (pa_cons (pe_tup pa_nil) pa_nil))) pa_nil)))))))))))) (pss_cons (ps_set (i := 2) sc_law_odd.nd rfl (Or.inl rfl) (pe_op op_cat (pv 2) (pe_lst (pa_cons (pe_tup (pa_cons pe_str (pa_cons pe_int (pa_cons (pv 0) pa_nil)))) (pa_cons (pe_tup (pa_cons pe_str (pa_cons pe_bl (pa_cons (pv 0) pa_nil)))) (pa_cons (pe_tup (pa_cons pe_str (pa_cons (pe_un un_neg pe_int) (pa_cons (pv 0) pa_nil)))) (pa_cons (pe_tup (pa_cons pe_str (pa_cons pe_int (pa_cons (pv 0) pa_nil)))) (pa_cons (pe_tup (pa_cons (pv 0) (pa_cons (pv 0) pa_nil))) pa_nil)))))))) (pss_cons (ps_set (i := 2) sc_law_odd.nd rfl (Or.inl rfl) (pe_op op_cat (pv 2) (pe_lst (pa_cons (pe_tup (pa_cons pe_str (pa_cons (pe_tup (pa_cons (pe_tup (pa_cons pe_int (pa_cons (pv 0) pa_nil))) pa_nil)) pa_nil))) (pa_cons (pe_tup (pa_cons pe_str (pa_cons (pe_tup (pa_cons (pe_tup (pa_cons pe_bl (pa_cons (pv 0) pa_nil))) pa_nil)) pa_nil))) (pa_cons (pe_tup (pa_cons pe_str (pa_cons (pe_tup (pa_cons (pe_tup (pa_cons pe_int (pa_cons (pv 0) pa_nil))) pa_nil)) pa_nil))) (pa_cons (pe_tup (pa_cons pe_str (pa_cons (pe_tup (pa_cons (pe_tup (pa_cons pe_int (pa_cons pe_non pa_nil))) pa_nil)) pa_nil))) pa_nil))))))) (pss_cons (ps_set (i := 2) sc_law_odd.nd rfl (Or.inl rfl) (pe_op op_cat (pv 2) (pe_lst (pa_cons (pe_tup (pa_cons pe_str (pa_cons (pe_tup (pa_cons (pv 0) pa_nil)) pa_nil))) (pa_cons (pe_tup (pa_cons pe_str (pa_cons (pe_tup (pa_cons (pv 0) (pa_cons (pv 0) pa_nil))) pa_nil))) (pa_cons (pe_tup (pa_cons pe_str (pa_cons (pe_tup (pa_cons pe_non pa_nil)) pa_nil))) (pa_cons (pe_tup (pa_cons pe_str (pa_cons (pe_lst (pa_cons (pv 0) pa_nil)) pa_nil))) (pa_cons (pe_tup (pa_cons (pe_lst (pa_cons pe_str pa_nil)) pa_nil)) pa_nil)))))))) (pss_cons (ps_set (i := 2) sc_law_odd.nd rfl (Or.inl rfl) (pe_op op_cat (pv 2) (pe_lst (pa_cons (pe_tup (pa_cons pe_str (pa_cons (pe_tup (pa_cons (pe_tup (pa_cons (pe_un un_neg pe_int) (pa_cons (pv 0) pa_nil))) pa_nil)) pa_nil))) (pa_cons (pe_tup (pa_cons pe_str (pa_cons pe_str pa_nil))) (pa_cons (pe_tup (pa_cons pe_str (pa_cons (pe_tup (pa_cons (pe_tup (pa_cons pe_int (pa_cons (pv 0) pa_nil))) (pa_cons (pe_tup (pa_cons pe_int (pa_cons (pv 0) pa_nil))) pa_nil))) pa_nil))) (pa_cons (pe_tup (pa_cons pe_str (pa_cons (pe_tup (pa_cons (pv 0) pa_nil)) pa_nil))) pa_nil))))))) (pss_cons (ps_set (i := 2) sc_law_odd.nd rfl (Or.inl rfl) (pe_op op_cat (pv 2) (pe_lst (pa_cons (pe_tup (pa_cons pe_str (pa_cons (pe_tup (pa_cons (pe_lst (pa_cons pe_int (pa_cons (pv 0) pa_nil))) pa_nil)) pa_nil))) (pa_cons pe_str (pa_cons pe_int (pa_cons (pe_tup (pa_cons pe_str (pa_cons pe_str (pa_cons (pv 0) pa_nil)))) (pa_cons (pe_tup (pa_cons pe_str (pa_cons pe_non (pa_cons (pv 0) pa_nil)))) (pa_cons (pe_tup (pa_cons pe_str (pa_cons pe_non pa_nil))) pa_nil))))))))) (pss_cons (ps_set (i := 2) sc_law_odd.nd rfl (Or.inl rfl) (pe_op op_cat (pv 2) (pe_lst (pa_cons (pe_tup (pa_cons pe_str (pa_cons (pe_tup (pa_cons (pe_tup (pa_cons pe_str (pa_cons (pv 0) pa_nil))) pa_nil)) pa_nil))) (pa_cons (pe_tup (pa_cons pe_str (pa_cons (pe_tup (pa_cons (pe_tup (pa_cons pe_int pa_nil)) pa_nil)) pa_nil))) (pa_cons (pe_tup (pa_cons pe_str (pa_cons (pe_tup (pa_cons (pe_tup (pa_cons pe_int (pa_cons (pv 0) (pa_cons pe_int pa_nil)))) pa_nil)) pa_nil))) (pa_cons (pe_tup (pa_cons pe_str (pa_cons pe_non pa_nil))) pa_nil))))))) (pss_cons (ps_if (PW.pt (pw_and (pt_cmpR op_gt (pe_callB call_len_seq (by rfl) b_len PySem.boot_len (pa_cons (pv 0) pa_nil)) pe_int (nomark _)) (pw_and (pt_val (pe_callB call_isi (by rfl) b_isinstance (by decide +kernel) (pa_cons (pe_ix ix_tup (pv 0) pe_int (fun _ _ => rfl)) (pa_cons (pe_bltn (v := .ty "tuple") (by rfl) b_tuple (by decide +kernel) rfl) pa_nil)))) (pw_and1 (pt_cmpR op_gt (pe_callB call_len_seq (by rfl) b_len PySem.boot_len (pa_cons (pe_ix ix_tup (pv 0) pe_int (fun _ _ => rfl)) pa_nil)) pe_int (nomark _)))))) (pss_cons (ps_set (i := 3) sc_law_odd.nd rfl (Or.inl rfl) (pe_ix ix_tup (pv 0) pe_int (fun _ _ => rfl)))
    (pss_cons (ps_set (i := 2) sc_law_odd.nd rfl (Or.inl rfl) (pe_op op_cat (pv 2) (pe_lst (pa_cons (pe_tup (pa_cons (pe_ix ix_tup (pv 0) pe_int (fun _ _ => rfl)) (pa_cons (pe_slice sl_tupA (pv 3) po_none (po_some (pe_un un_neg pe_int))) pa_nil))) (pa_cons (pe_tup (pa_cons (pe_ix ix_tup (pv 0) pe_int (fun _ _ => rfl)) (pa_cons (pe_op op_catA (pv 3) (pe_slice sl_tupA (pv 3) (po_some (pe_un un_neg pe_int)) po_none)) pa_nil))) (pa_cons (pe_tup (pa_cons (pe_ix ix_tup (pv 0) pe_int (fun _ _ => rfl)) (pa_cons (pe_revT (pv 3)) pa_nil))) pa_nil))))))
    (pss_one (ps_expr (pe_bm PySem.F.plainAttrs_list PySem.F.slot_list_append PySem.F.type_list_append mt_append (pv 2) (pa_cons (pe_tup (pa_cons (pe_ix ix_tup (pv 0) pe_int (fun _ _ => rfl)) (pa_cons (pe_callTy call_list_of (by rfl) b_list (by decide +kernel) (pa_cons (pv 3) pa_nil)) pa_nil))) pa_nil)))))) pss_nil)
    h8)))))))), ?_⟩
  refine od_start (K := K) (ds := odA fl) S0 hv (mkl_lst (Nat.le_of_ble_eq_true rfl)
    (mk_cons S0 mk_non (mk_cons S0 mk_bl (mk_cons S0 (mk_tup (Nat.le_of_ble_eq_true rfl) (mk_cons S0 mk_str mk_nil)) (mk_cons S0 (mk_lst (Nat.le_of_ble_eq_true rfl) (mk_cons S0 (form rfl) mk_nil)) (mk_cons S0 (mkl_listOf (form rfl)).r.d (mk_cons S0 (mk_butLastT (by omega) (form rfl))
      (mk_cons S0 (mk_catT S0 (by rw [List.length_singleton]; omega) (form rfl) (mk_tup (Nat.le_of_ble_eq_true rfl) (mk_cons S0 mk_non mk_nil))) (mk_cons S0 (mk_tup (Nat.le_of_ble_eq_true rfl) mk_nil)
      (mk_cons S0 (mk_tup (Nat.le_of_ble_eq_true rfl) (mk_cons S0 mk_str (mk_cons S0 (mk_tup (Nat.le_of_ble_eq_true rfl) mk_nil) mk_nil))) (mk_cons S0 (mk_tup (Nat.le_of_ble_eq_true rfl) (mk_cons S0 mk_str (mk_cons S0 (mk_tup (Nat.le_of_ble_eq_true rfl) mk_nil) mk_nil))) mk_nil))))))))))) fun H1 M1 O1 => ?_
  refine od_cat (K := K) (ds := odB (.tuple fl)) S0 rfl (Nat.le_of_ble_eq_true rfl) (Nat.le_of_ble_eq_true rfl) O1 (mkl_lst (Nat.le_of_ble_eq_true rfl) (mk_cons S0 (mk_tup (Nat.le_of_ble_eq_true rfl) (mk_cons S0 mk_str (mk_cons S0 mk_int (mk_cons S0 (form rfl) mk_nil)))) (mk_cons S0 (mk_tup (Nat.le_of_ble_eq_true rfl) (mk_cons S0 mk_str (mk_cons S0 mk_bl (mk_cons S0 (form rfl) mk_nil)))) (mk_cons S0 (mk_tup (Nat.le_of_ble_eq_true rfl) (mk_cons S0 mk_str (mk_cons S0 (mk_neg mk_int) (mk_cons S0 (form rfl) mk_nil)))) (mk_cons S0 (mk_tup (Nat.le_of_ble_eq_true rfl) (mk_cons S0 mk_str (mk_cons S0 mk_int (mk_cons S0 (form rfl) mk_nil)))) (mk_cons S0 (mk_tup (Nat.le_of_ble_eq_true rfl) (mk_cons S0 (form rfl) (mk_cons S0 (form rfl) mk_nil))) mk_nil)))))) fun H2 M2 O2 => ?_
  refine od_cat (K := K) (ds := odC (.tuple fl)) S0 rfl (Nat.le_of_ble_eq_true rfl) (Nat.le_of_ble_eq_true rfl) O2 (mkl_lst (Nat.le_of_ble_eq_true rfl) (mk_cons S0 (mk_tup (Nat.le_of_ble_eq_true rfl) (mk_cons S0 mk_str (mk_cons S0 (mk_tup (Nat.le_of_ble_eq_true rfl) (mk_cons S0 (mk_tup (Nat.le_of_ble_eq_true rfl) (mk_cons S0 mk_int (mk_cons S0 (form rfl) mk_nil))) mk_nil)) mk_nil))) (mk_cons S0 (mk_tup (Nat.le_of_ble_eq_true rfl) (mk_cons S0 mk_str (mk_cons S0 (mk_tup (Nat.le_of_ble_eq_true rfl) (mk_cons S0 (mk_tup (Nat.le_of_ble_eq_true rfl) (mk_cons S0 mk_bl (mk_cons S0 (form rfl) mk_nil))) mk_nil)) mk_nil))) (mk_cons S0 (mk_tup (Nat.le_of_ble_eq_true rfl) (mk_cons S0 mk_str (mk_cons S0 (mk_tup (Nat.le_of_ble_eq_true rfl) (mk_cons S0 (mk_tup (Nat.le_of_ble_eq_true rfl) (mk_cons S0 mk_int (mk_cons S0 (form rfl) mk_nil))) mk_nil)) mk_nil))) (mk_cons S0 (mk_tup (Nat.le_of_ble_eq_true rfl) (mk_cons S0 mk_str (mk_cons S0 (mk_tup (Nat.le_of_ble_eq_true rfl) (mk_cons S0 (mk_tup (Nat.le_of_ble_eq_true rfl) (mk_cons S0 mk_int (mk_cons S0 mk_non mk_nil))) mk_nil)) mk_nil))) mk_nil))))) fun H3 M3 O3 => ?_
  refine od_cat (K := K) (ds := odD (.tuple fl)) S0 rfl (Nat.le_of_ble_eq_true rfl) (Nat.le_of_ble_eq_true rfl) O3 (mkl_lst (Nat.le_of_ble_eq_true rfl) (mk_cons S0 (mk_tup (Nat.le_of_ble_eq_true rfl) (mk_cons S0 mk_str (mk_cons S0 (mk_tup (Nat.le_of_ble_eq_true rfl) (mk_cons S0 (form rfl) mk_nil)) mk_nil))) (mk_cons S0 (mk_tup (Nat.le_of_ble_eq_true rfl) (mk_cons S0 mk_str (mk_cons S0 (mk_tup (Nat.le_of_ble_eq_true rfl) (mk_cons S0 (form rfl) (mk_cons S0 (form rfl) mk_nil))) mk_nil))) (mk_cons S0 (mk_tup (Nat.le_of_ble_eq_true rfl) (mk_cons S0 mk_str (mk_cons S0 (mk_tup (Nat.le_of_ble_eq_true rfl) (mk_cons S0 mk_non mk_nil)) mk_nil))) (mk_cons S0 (mk_tup (Nat.le_of_ble_eq_true rfl) (mk_cons S0 mk_str (mk_cons S0 (mk_lst (Nat.le_of_ble_eq_true rfl) (mk_cons S0 (form rfl) mk_nil)) mk_nil))) (mk_cons S0 (mk_tup (Nat.le_of_ble_eq_true rfl) (mk_cons S0 (mk_lst (Nat.le_of_ble_eq_true rfl) (mk_cons S0 mk_str mk_nil)) mk_nil)) mk_nil)))))) fun H4 M4 O4 => ?_
  refine od_cat (K := K) (ds := odE (.tuple fl)) S0 rfl (Nat.le_of_ble_eq_true rfl) (Nat.le_of_ble_eq_true rfl) O4 (mkl_lst (Nat.le_of_ble_eq_true rfl) (mk_cons S0 (mk_tup (Nat.le_of_ble_eq_true rfl) (mk_cons S0 mk_str (mk_cons S0 (mk_tup (Nat.le_of_ble_eq_true rfl) (mk_cons S0 (mk_tup (Nat.le_of_ble_eq_true rfl) (mk_cons S0 (mk_neg mk_int) (mk_cons S0 (form rfl) mk_nil))) mk_nil)) mk_nil))) (mk_cons S0 (mk_tup (Nat.le_of_ble_eq_true rfl) (mk_cons S0 mk_str (mk_cons S0 mk_str mk_nil))) (mk_cons S0 (mk_tup (Nat.le_of_ble_eq_true rfl) (mk_cons S0 mk_str (mk_cons S0 (mk_tup (Nat.le_of_ble_eq_true rfl) (mk_cons S0 (mk_tup (Nat.le_of_ble_eq_true rfl) (mk_cons S0 mk_int (mk_cons S0 (form rfl) mk_nil))) (mk_cons S0 (mk_tup (Nat.le_of_ble_eq_true rfl) (mk_cons S0 mk_int (mk_cons S0 (form rfl) mk_nil))) mk_nil))) mk_nil))) (mk_cons S0 (mk_tup (Nat.le_of_ble_eq_true rfl) (mk_cons S0 mk_str (mk_cons S0 (mk_tup (Nat.le_of_ble_eq_true rfl) (mk_cons S0 (form rfl) mk_nil)) mk_nil))) mk_nil))))) fun H5 M5 O5 => ?_
  refine od_cat (K := K) (ds := odF (.tuple fl)) S0 rfl (Nat.le_of_ble_eq_true rfl) (Nat.le_of_ble_eq_true rfl) O5 (mkl_lst (Nat.le_of_ble_eq_true rfl) (mk_cons S0 (mk_tup (Nat.le_of_ble_eq_true rfl) (mk_cons S0 mk_str (mk_cons S0 (mk_tup (Nat.le_of_ble_eq_true rfl) (mk_cons S0 (mk_lst (Nat.le_of_ble_eq_true rfl) (mk_cons S0 mk_int (mk_cons S0 (form rfl) mk_nil))) mk_nil)) mk_nil))) (mk_cons S0 mk_str (mk_cons S0 mk_int (mk_cons S0 (mk_tup (Nat.le_of_ble_eq_true rfl) (mk_cons S0 mk_str (mk_cons S0 mk_str (mk_cons S0 (form rfl) mk_nil)))) (mk_cons S0 (mk_tup (Nat.le_of_ble_eq_true rfl) (mk_cons S0 mk_str (mk_cons S0 mk_non (mk_cons S0 (form rfl) mk_nil)))) (mk_cons S0 (mk_tup (Nat.le_of_ble_eq_true rfl) (mk_cons S0 mk_str (mk_cons S0 mk_non mk_nil))) mk_nil))))))) fun H6 M6 O6 => ?_
  refine od_cat (K := K) (ds := odG (.tuple fl)) S0 rfl (Nat.le_of_ble_eq_true rfl) (Nat.le_of_ble_eq_true rfl) O6 (mkl_lst (Nat.le_of_ble_eq_true rfl) (mk_cons S0 (mk_tup (Nat.le_of_ble_eq_true rfl) (mk_cons S0 mk_str (mk_cons S0 (mk_tup (Nat.le_of_ble_eq_true rfl) (mk_cons S0 (mk_tup (Nat.le_of_ble_eq_true rfl) (mk_cons S0 mk_str (mk_cons S0 (form rfl) mk_nil))) mk_nil)) mk_nil))) (mk_cons S0 (mk_tup (Nat.le_of_ble_eq_true rfl) (mk_cons S0 mk_str (mk_cons S0 (mk_tup (Nat.le_of_ble_eq_true rfl) (mk_cons S0 (mk_tup (Nat.le_of_ble_eq_true rfl) (mk_cons S0 mk_int mk_nil)) mk_nil)) mk_nil))) (mk_cons S0 (mk_tup (Nat.le_of_ble_eq_true rfl) (mk_cons S0 mk_str (mk_cons S0 (mk_tup (Nat.le_of_ble_eq_true rfl) (mk_cons S0 (mk_tup (Nat.le_of_ble_eq_true rfl) (mk_cons S0 mk_int (mk_cons S0 (form rfl) (mk_cons S0 mk_int mk_nil)))) mk_nil)) mk_nil))) (mk_cons S0 (mk_tup (Nat.le_of_ble_eq_true rfl) (mk_cons S0 mk_str (mk_cons S0 mk_non mk_nil))) mk_nil))))) fun H7 M7 O7 => ?_
  have hcl : (odA fl ++ odB (.tuple fl) ++ odC (.tuple fl) ++ odD (.tuple fl) ++ odE (.tuple fl) ++ odF (.tuple fl) ++ odG (.tuple fl)).length = 38 := rfl
  have hgc : ∀ d, d ∈ (odA fl ++ odB (.tuple fl) ++ odC (.tuple fl) ++ odD (.tuple fl) ++ odE (.tuple fl) ++ odF (.tuple fl) ++ odG (.tuple fl)) → Gk d (2 * N + 60) (D + 6) := by
    intro d hd
    have hd' : d ∈ odA fl ∨ d ∈ odB (.tuple fl) ++ odC (.tuple fl) ++ odD (.tuple fl) ++ odE (.tuple fl) ++ odF (.tuple fl) ++ odG (.tuple fl) := by
      simp only [List.mem_append] at hd ⊢
      rcases hd with (((((hd | hd) | hd) | hd) | hd) | hd) | hd
      · exact .inl hd
      · exact .inr (.inl (.inl (.inl (.inl (.inl hd)))))
      · exact .inr (.inl (.inl (.inl (.inl (.inr hd)))))
      · exact .inr (.inl (.inl (.inl (.inr hd))))
      · exact .inr (.inl (.inl (.inr hd)))
      · exact .inr (.inl (.inr hd))
      · exact .inr (.inr hd)
    rcases hd' with h | h
    · exact gkA rfl hfl3 hgk h
    · exact gkT hgk h
  generalize (odA fl ++ odB (.tuple fl) ++ odC (.tuple fl) ++ odD (.tuple fl) ++ odE (.tuple fl) ++ odF (.tuple fl) ++ odG (.tuple fl)) = cur at O7 hcl hgc
  have hv7 := O7.pre S0
  have off : t8 { nx := fun _ H' => Q .non H', rt := Q } [some v, some (.int c), some (.ref M7), none, none, none, none, none, none, none, none, none] H7 := f8 H7 M7 _ ⟨cur, O7, hgc, by omega, by omega⟩
  obtain ⟨a7, xs7, rfl, ha7, hx7⟩ := dpTup hv7
  have hl7 := dpsLen hx7
  refine ⟨_, rfl, a7, _, rfl, .inr ha7, _, _, rfl, rfl, _, rfl, ?_⟩
  rw [hl7]
  cases hkd with
  | leaf => exact iteF (iteF off)
  | pick kk d hk =>
    obtain ⟨x0, u0, rfl, e0, hx8⟩ := dpCons hx7
    obtain ⟨x1, u1, rfl, e1, hx9⟩ := dpCons hx8
    refine iteT ⟨_, rfl, a7, _, 1, _, rfl, rfl, ha7, atI_nat (j := 1) rfl, _, .ty "tuple", _, _, _, rfl, .ty _, tyX e1, isTup e1, _, rfl, ?_⟩
    exact iteF (iteF off)
  | row prs hne hl hk =>
    obtain ⟨x0, u0, rfl, e0, hx8⟩ := dpCons hx7
    obtain ⟨x1, u1, rfl, e1, hx9⟩ := dpCons hx8
    cases dpNil hx9
    have hpos : 0 < (prs.map pD).length := List.length_pos_iff.mpr (fun e => hne (List.map_eq_nil_iff.mp e))
    have hlen : (prs.map pD).length ≤ 200 := by rw [List.length_map]; exact hl
    refine iteT ⟨_, rfl, a7, _, 1, _, rfl, rfl, ha7, atI_nat (j := 1) rfl, _, .ty "tuple", _, _, _, rfl, .ty _, tyX e1, isTup e1, _, rfl, ?_⟩
    refine iteT ?_
    obtain ⟨b7, ys7, rfl, hb7, hy7⟩ := dpTup e1
    have hyl := dpsLen hy7
    refine ⟨_, rfl, a7, _, 1, _, rfl, rfl, ha7, atI_nat (j := 1) rfl, b7, _, rfl, .inr hb7, _, _, rfl, rfl, _, rfl, ?_⟩
    refine iteT' (decide_eq_true (by omega)) ?_
    have rs1 : ([PyData.str "row", .tuple (prs.map pD)])[1]? = some (.tuple (prs.map pD)) := rfl
    have rs0 : ([PyData.str "row", .tuple (prs.map pD)])[0]? = some (.str "row") := rfl
    have hRow : Gk (.tuple (prs.map pD)) (N - 1) (D - 1) := hLk.mem (by simp)
    obtain ⟨hRs, hN2, hD2, _⟩ := hRow.un
    refine od_mk (K := K) (d := .tuple (prs.map pD)) S0 O7 (mk_ixT S0 (form rfl) mk_int (j := 1) rfl rs1) fun H8 x3 O8 => ?_
    have S1 : Stay fun G => Dp K G (.ref a7) (.tuple [.str "row", .tuple (prs.map pD)]) ∧ Dp K G x3 (.tuple (prs.map pD)) := stay_and S0 stay_dp
    have f1 : ∀ {σ : L2.St}, σ[0]? = some (some (.ref a7)) → MkD K σ (fun G => Dp K G (.ref a7) (.tuple [.str "row", .tuple (prs.map pD)]) ∧ Dp K G x3 (.tuple (prs.map pD))) (tVar 0) (.tuple [.str "row", .tuple (prs.map pD)]) := fun h => mk_var h fun _ q => q.1
    have r1 : ∀ {σ : L2.St}, σ[3]? = some (some x3) → MkD K σ (fun G => Dp K G (.ref a7) (.tuple [.str "row", .tuple (prs.map pD)]) ∧ Dp K G x3 (.tuple (prs.map pD))) (tVar 3) (.tuple (prs.map pD)) := fun h => mk_var h fun _ q => q.2
    refine od_cat (K := K) (ds := odR (.str "row") (prs.map pD)) S1 rfl (by omega) (Nat.le_of_ble_eq_true rfl) O8 (mkl_lst (Nat.le_of_ble_eq_true rfl)
      (mk_cons S1 (mk_tup (Nat.le_of_ble_eq_true rfl) (mk_cons S1 (mk_ixT S1 (f1 rfl) mk_int (j := 0) rfl rs0) (mk_cons S1 (mk_butLastT hpos (r1 rfl)) mk_nil)))
      (mk_cons S1 (mk_tup (Nat.le_of_ble_eq_true rfl) (mk_cons S1 (mk_ixT S1 (f1 rfl) mk_int (j := 0) rfl rs0) (mk_cons S1 (mk_catT S1 (by rw [List.length_drop]; omega) (r1 rfl) (mk_lastT hpos (r1 rfl))) mk_nil)))
      (mk_cons S1 (mk_tup (Nat.le_of_ble_eq_true rfl) (mk_cons S1 (mk_ixT S1 (f1 rfl) mk_int (j := 0) rfl rs0) (mk_cons S1 (mk_revT (r1 rfl)) mk_nil))) mk_nil)))) fun H9 L9 O9 => ?_
    have h9l : (cur ++ odR (.str "row") (prs.map pD)).length = 41 := by rw [List.length_append, hcl]; rfl
    refine od_app (K := K) (d := .tuple [.str "row", .list (prs.map pD)]) S1 rfl (by omega) O9 (mk_tup (Nat.le_of_ble_eq_true rfl) (mk_cons S1 (mk_ixT S1 (f1 rfl) mk_int (j := 0) rfl rs0) (mk_cons S1 (mkl_listOf (r1 rfl)).r.d mk_nil))) fun H10 O10 => ?_
    refine f8 H10 L9 _ ⟨_, OdP.imp O10 (fun G _ q => q.1), fun e he => ?_, by rw [List.length_append]; omega, by rw [List.length_append, List.length_singleton]; omega⟩
    rw [List.append_assoc] at he
    rcases List.mem_append.mp he with he | he
    · exact hgc e he
    · exact (gkR ek_w.2.1 hlen (hRs.mono (show N - 1 - 1 ≤ N by omega) (show D - 1 - 1 ≤ D by omega)) he)
  | times ds hne hl =>
    obtain ⟨x0, u0, rfl, e0, hx8⟩ := dpCons hx7
    obtain ⟨x1, u1, rfl, e1, hx9⟩ := dpCons hx8
    cases dpNil hx9
    have hpos : 0 < (ds).length := List.length_pos_iff.mpr hne
    have hlen : (ds).length ≤ 200 := hl
    refine iteT ⟨_, rfl, a7, _, 1, _, rfl, rfl, ha7, atI_nat (j := 1) rfl, _, .ty "tuple", _, _, _, rfl, .ty _, tyX e1, isTup e1, _, rfl, ?_⟩
    refine iteT ?_
    obtain ⟨b7, ys7, rfl, hb7, hy7⟩ := dpTup e1
    have hyl := dpsLen hy7
    refine ⟨_, rfl, a7, _, 1, _, rfl, rfl, ha7, atI_nat (j := 1) rfl, b7, _, rfl, .inr hb7, _, _, rfl, rfl, _, rfl, ?_⟩
    refine iteT' (decide_eq_true (by omega)) ?_
    have rs1 : ([PyData.str "times", .tuple (ds)])[1]? = some (.tuple (ds)) := rfl
    have rs0 : ([PyData.str "times", .tuple (ds)])[0]? = some (.str "times") := rfl
    have hRow : Gk (.tuple (ds)) (N - 1) (D - 1) := hLk.mem (by simp)
    obtain ⟨hRs, hN2, hD2, _⟩ := hRow.un
    refine od_mk (K := K) (d := .tuple (ds)) S0 O7 (mk_ixT S0 (form rfl) mk_int (j := 1) rfl rs1) fun H8 x3 O8 => ?_
    have S1 : Stay fun G => Dp K G (.ref a7) (.tuple [.str "times", .tuple (ds)]) ∧ Dp K G x3 (.tuple (ds)) := stay_and S0 stay_dp
    have f1 : ∀ {σ : L2.St}, σ[0]? = some (some (.ref a7)) → MkD K σ (fun G => Dp K G (.ref a7) (.tuple [.str "times", .tuple (ds)]) ∧ Dp K G x3 (.tuple (ds))) (tVar 0) (.tuple [.str "times", .tuple (ds)]) := fun h => mk_var h fun _ q => q.1
    have r1 : ∀ {σ : L2.St}, σ[3]? = some (some x3) → MkD K σ (fun G => Dp K G (.ref a7) (.tuple [.str "times", .tuple (ds)]) ∧ Dp K G x3 (.tuple (ds))) (tVar 3) (.tuple (ds)) := fun h => mk_var h fun _ q => q.2
    refine od_cat (K := K) (ds := odR (.str "times") (ds)) S1 rfl (by omega) (Nat.le_of_ble_eq_true rfl) O8 (mkl_lst (Nat.le_of_ble_eq_true rfl)
      (mk_cons S1 (mk_tup (Nat.le_of_ble_eq_true rfl) (mk_cons S1 (mk_ixT S1 (f1 rfl) mk_int (j := 0) rfl rs0) (mk_cons S1 (mk_butLastT hpos (r1 rfl)) mk_nil)))
      (mk_cons S1 (mk_tup (Nat.le_of_ble_eq_true rfl) (mk_cons S1 (mk_ixT S1 (f1 rfl) mk_int (j := 0) rfl rs0) (mk_cons S1 (mk_catT S1 (by rw [List.length_drop]; omega) (r1 rfl) (mk_lastT hpos (r1 rfl))) mk_nil)))
      (mk_cons S1 (mk_tup (Nat.le_of_ble_eq_true rfl) (mk_cons S1 (mk_ixT S1 (f1 rfl) mk_int (j := 0) rfl rs0) (mk_cons S1 (mk_revT (r1 rfl)) mk_nil))) mk_nil)))) fun H9 L9 O9 => ?_
    have h9l : (cur ++ odR (.str "times") (ds)).length = 41 := by rw [List.length_append, hcl]; rfl
    refine od_app (K := K) (d := .tuple [.str "times", .list (ds)]) S1 rfl (by omega) O9 (mk_tup (Nat.le_of_ble_eq_true rfl) (mk_cons S1 (mk_ixT S1 (f1 rfl) mk_int (j := 0) rfl rs0) (mk_cons S1 (mkl_listOf (r1 rfl)).r.d mk_nil))) fun H10 O10 => ?_
    refine f8 H10 L9 _ ⟨_, OdP.imp O10 (fun G _ q => q.1), fun e he => ?_, by rw [List.length_append]; omega, by rw [List.length_append, List.length_singleton]; omega⟩
    rw [List.append_assoc] at he
    rcases List.mem_append.mp he with he | he
    · exact hgc e he
    · exact (gkR ek_w.2.2.2.1 hlen (hRs.mono (show N - 1 - 1 ≤ N by omega) (show D - 1 - 1 ≤ D by omega)) he)
end
end Sw
set_option Elab.async false
set_option maxRecDepth 100000
set_option maxHeartbeats 16000000
namespace Sw
open PySem L2 PySem.Spec PyProof.Rows
theorem leaf_eqv : PyData.eqv Rdg.leaf.dat (.tuple [.str "leaf"]) = true := by
  rw [Rdg.dat]
  decide +kernel
theorem sh_dat {n : Nat} {f : Fm} {q : Rdg} {r : RowS} (hw : Lw n f) (hq : q.ok f r) (hr : r.length ≤ 200) (hn : n ≤ 10) : SeqAt.shaped q.dat = true := by
  have := (rdg_gr n f q r hw hq hr).2.2
  unfold SeqAt.shaped
  rw [lay_dat q, decide_eq_true (by omega)]
  rfl
/-- what stands at a place of a reading -/
theorem ok_rowAt {ps : List Fm} : ∀ {prs : List (Nat × Rdg)} {lo : Nat} {r : RowS} {i : Nat} {p : Nat × Rdg}, Rdg.okRow prs ps lo ps.length r → prs[i]? = some p → ∃ g s, g ∈ ps ∧ p.2.ok g s ∧ s.length ≤ r.length
  | [], lo, r, i, p, h, e => by simp at e
  | (j, q) :: prs, lo, r, 0, p, h, e => by
    rw [Rdg.okRow] at h
    obtain ⟨h1, h2, h3, p', r1, r2, h4, rfl, h5, h6⟩ := h
    simp at e
    subst e
    exact ⟨p', r1, List.mem_of_getElem? h4, h5, by rw [List.length_append]; omega⟩
  | (j, q) :: prs, lo, r, i + 1, p, h, e => by
    rw [Rdg.okRow] at h
    obtain ⟨h1, h2, h3, p', r1, r2, h4, rfl, h5, h6⟩ := h
    rw [List.getElem?_cons_succ] at e
    obtain ⟨g, s, a, b, c⟩ := ok_rowAt h6 e
    exact ⟨g, s, a, b, by rw [List.length_append]; omega⟩
theorem ok_allAt {g : Fm} : ∀ {qs : List Rdg} {r : RowS} {i : Nat} {q : Rdg}, Rdg.okAll qs g r → qs[i]? = some q → ∃ s, q.ok g s ∧ s.length ≤ r.length
  | [], r, i, q, h, e => by simp at e
  | q' :: qs, r, 0, q, h, e => by
    rw [Rdg.okAll] at h
    obtain ⟨r1, r2, rfl, h1, h2⟩ := h
    simp at e
    subst e
    exact ⟨r1, h1, by rw [List.length_append]; omega⟩
  | q' :: qs, r, i + 1, q, h, e => by
    rw [Rdg.okAll] at h
    obtain ⟨r1, r2, rfl, h1, h2⟩ := h
    rw [List.getElem?_cons_succ] at e
    obtain ⟨s, a, b⟩ := ok_allAt h2 e
    exact ⟨s, a, by rw [List.length_append]; omega⟩
theorem okRow_cnt {ps : List Fm} : ∀ {prs : List (Nat × Rdg)} {lo : Nat} {r : RowS}, Rdg.okRow prs ps lo ps.length r → prs.length ≤ r.length
  | [], lo, r, _ => Nat.zero_le _
  | (j, q) :: prs, lo, r, h => by
    rw [Rdg.okRow] at h
    obtain ⟨_, _, _, p', r1, r2, _, rfl, h5, h6⟩ := h
    have a := okRow_cnt h6
    have b : 0 < r1.length := List.length_pos_iff.mpr (ok_ne _ _ _ h5)
    rw [List.length_cons, List.length_append]
    omega
theorem okAll_cnt {p : Fm} : ∀ {qs : List Rdg} {r : RowS}, Rdg.okAll qs p r → qs.length ≤ r.length
  | [], r, _ => Nat.zero_le _
  | q :: qs, r, h => by
    rw [Rdg.okAll] at h
    obtain ⟨r1, r2, rfl, h5, h6⟩ := h
    have a := okAll_cnt h6
    have b : 0 < r1.length := List.length_pos_iff.mpr (ok_ne _ _ _ h5)
    rw [List.length_cons, List.length_append]
    omega
section
variable {P : Program} {w : World} {K : PySem.W.Frag} {mg : Str → Option Value} {base : Heap}
abbrev n_law_bent : List Str := ["thing", "cell", "at", "inner", "bent"]
theorem sc_law_bent : FnScope n_law_bent ["thing", "cell"] (defScope s_law_bent) := ⟨rfl, rfl, rfl, by decide +kernel, rfl, by decide +kernel, by decide +kernel⟩
def spBentT (K : PySem.W.Frag) (n : Nat) : Sp := fun vs H Q _ => ∃ (v : V) (c : Int) (f : Fm) (q : Rdg) (r : RowS), vs = [v, .int c] ∧ Dp K H v q.dat ∧ Lw n f ∧ q.ok f r ∧ r.length ≤ 200 ∧ ∀ H' u d, Same H H' → Dp K H' u d → Gk d (2 * ndD q.dat + 60) (3 * n + 9) → Q u H'
theorem ok_law_bent0 (F : DefAt K mg "_law_bent" s_law_bent ["thing", "cell"]) (d__law_odd : DefOk P w K mg base "_law_odd" 1 ["thing", "cell"] (spOdd K)) : DefOk P w K mg base "_law_bent" 2 ["thing", "cell"] (spBentT K 0) := by
  refine F.ok sc_law_bent (fun vs H Q E h => ?_) (fun fA cdv A outer s H vs Q E hr h => ?_)
  · obtain ⟨_, _, _, _, _, rfl, _⟩ := h
    rfl
  obtain ⟨v, c, f, q, r, rfl, hv, hw, hq, hr2, k⟩ := h
  refine ⟨_, (pss_cons (ps_if (PW.pt (pw_or (pt_cmpR (op_eqD hr.units) (pv 0) (pe_tup (pa_cons pe_str pa_nil)) (nomark _)) (pw_or1 (pt_cmpR op_eq (pe_op op_mod (pv 1) pe_int) pe_int (nomark _))))) (pss_one (ps_ret (pe_callD d__law_odd (hr.mono (by decide)) rfl (pa_cons (pv 0) (pa_cons (pe_op op_fdiv (pv 1) pe_int) pa_nil))))) pss_nil)
    pss_never), ?_⟩
  obtain ⟨fl, e, hkd, hgk⟩ := kd_of hw hq hr2
  have hsh := sh_dat hw hq hr2 (by omega)
  refine ⟨_, rfl, (by show 1 ≤ sizeLine; decide), fun p np => ?_⟩
  have s1 : Same H (upd H p (.tup [.str "leaf"])) := .new np
  refine ⟨_, _, dpS s1 hv, .tup (sT upd_same) (.cons (.str _) .nil), hsh, by decide +kernel, _, rfl, ?_⟩
  have ql : q = .leaf := by
    cases f with
    | sign x => cases q <;> first | rfl | (rw [Rdg.ok] at hq; exact hq.elim; all_goals intros; contradiction)
    | row _ => exact hw.elim
    | pick _ => exact hw.elim
    | times _ _ _ => exact hw.elim
  subst ql
  refine iteT' leaf_eqv (iteT ?_)
  refine ⟨_, rfl, _, rfl, _, _, rfl, rfl, ⟨by decide, by decide⟩, ?_⟩
  have g0 : Gk (.tuple fl) (ndD Rdg.leaf.dat) 3 := by rw [← e]; exact ⟨by rw [e]; exact hgk.ek, Nat.le_refl _, by rw [e]; exact hgk.dp⟩
  refine ⟨v, _, fl, ndD Rdg.leaf.dat, 3, rfl, by rw [← e]; exact dpS s1 hv, hkd, g0, fun H' u d s2 hd hg => ?_⟩
  exact k H' u d (s1.trans s2) hd hg
theorem ok_law_bentS (n : Nat) (hn : n ≤ 5) (F : DefAt K mg "_law_bent" s_law_bent ["thing", "cell"]) (d__law_odd : DefOk P w K mg base "_law_odd" 1 ["thing", "cell"] (spOdd K)) (d__law_bent : DefOk P w K mg base "_law_bent" (n + 2) ["thing", "cell"] (spBentT K n)) (b_len : mg "len" = none) : DefOk P w K mg base "_law_bent" (n + 3) ["thing", "cell"] (spBentT K (n + 1)) := by
  refine F.ok sc_law_bent (fun vs H Q E h => ?_) (fun fA cdv A outer s H vs Q E hr h => ?_)
  · obtain ⟨_, _, _, _, _, rfl, _⟩ := h
    rfl
  obtain ⟨v, c, f, q, r, rfl, hv, hw, hq, hr2, k⟩ := h
  refine ⟨_, (pss_cons (ps_if (PW.pt (pw_or (pt_cmpR (op_eqD hr.units) (pv 0) (pe_tup (pa_cons pe_str pa_nil)) (nomark _)) (pw_or1 (pt_cmpR op_eq (pe_op op_mod (pv 1) pe_int) pe_int (nomark _))))) (pss_one (ps_ret (pe_callD d__law_odd (hr.mono (by omega)) rfl (pa_cons (pv 0) (pa_cons (pe_op op_fdiv (pv 1) pe_int) pa_nil))))) pss_nil)
    (pss_cons (ps_if (pt_cmpR op_eq (pe_ix ix_tup (pv 0) pe_int (fun _ _ => rfl)) pe_str (nomark _)) (pss_one (ps_ret (pe_tup (pa_cons pe_str (pa_cons (pe_ix ix_tup (pv 0) pe_int (fun _ _ => rfl)) (pa_cons (pe_callD d__law_bent (hr.mono (by omega)) rfl (pa_cons (pe_ix ix_tup (pv 0) pe_int (fun _ _ => rfl)) (pa_cons (pe_op op_fdiv (pv 1) pe_int) pa_nil))) pa_nil)))))) pss_nil)
    (pss_cons (ps_set (i := 2) sc_law_bent.nd rfl (Or.inl rfl) (pe_op op_mod (pe_op op_fdiv (pv 1) pe_int) (pe_callB call_len_seq (by rfl) b_len PySem.boot_len (pa_cons (pe_ix ix_tup (pv 0) pe_int (fun _ _ => rfl)) pa_nil))))
    (pss_cons (ps_set (i := 3) sc_law_bent.nd rfl (Or.inl rfl) (pe_ix ix_tup (pe_ix ix_tup (pv 0) pe_int (fun _ _ => rfl)) (pv 2) (fun _ _ => rfl)))
    (pss_cons (ps_set (i := 4) sc_law_bent.nd rfl (Or.inl rfl) (pe_callD d__law_bent (hr.mono (by omega)) rfl (pa_cons (pe_ifExp (pt_cmpR op_eq (pe_ix ix_tup (pv 0) pe_int (fun _ _ => rfl)) pe_str (nomark _)) (pe_ix ix_tup (pv 3) pe_int (fun _ _ => rfl)) (pv 3)) (pa_cons (pe_op op_fdiv (pv 1) pe_int) pa_nil))))
    (pss_cons (ps_set (i := 4) sc_law_bent.nd rfl (Or.inl rfl) (pe_ifExp (pt_cmpR op_eq (pe_ix ix_tup (pv 0) pe_int (fun _ _ => rfl)) pe_str (nomark _)) (pe_tup (pa_cons (pe_ix ix_tup (pv 3) pe_int (fun _ _ => rfl)) (pa_cons (pv 4) pa_nil))) (pv 4)))
    (pss_one (ps_ret (pe_tup (pa_cons (pe_ix ix_tup (pv 0) pe_int (fun _ _ => rfl)) (pa_cons (pe_op op_catA (pe_op op_catA (pe_slice sl_tupA (pe_ix ix_tup (pv 0) pe_int (fun _ _ => rfl)) po_none (po_some (pv 2))) (pe_tup (pa_cons (pv 4) pa_nil))) (pe_slice sl_tupA (pe_ix ix_tup (pv 0) pe_int (fun _ _ => rfl)) (po_some (pe_op op_add (pv 2) pe_int)) po_none)) pa_nil))))))))))), ?_⟩
  obtain ⟨fl, e, hkd, hgk⟩ := kd_of hw hq hr2
  have hsh := sh_dat hw hq hr2 (by omega)
  refine ⟨_, rfl, (by show 1 ≤ sizeLine; decide), fun p np => ?_⟩
  have s1 : Same H (upd H p (.tup [.str "leaf"])) := .new np
  refine ⟨_, _, dpS s1 hv, .tup (sT upd_same) (.cons (.str _) .nil), hsh, by decide +kernel, _, rfl, ?_⟩
  generalize upd H p (.tup [.str "leaf"]) = H1 at s1 ⊢
  have hv1 := dpS s1 hv
  have g0 : Gk (.tuple fl) (ndD q.dat) (3 * (n + 1) + 3) := by rw [← e]; exact ⟨by rw [e]; exact hgk.ek, Nat.le_refl _, by rw [e]; exact hgk.dp⟩
  refine ite2 (fun _ => iteT ?s1) (fun hle => ⟨_, rfl, _, _, rfl, rfl, (by show (0 : Int) < 3; decide), rfl, _, rfl, ite2 (fun _ => ?s2) (fun _ => ?r)⟩)
  case s1 | s2 =>
    refine ⟨_, rfl, _, rfl, _, _, rfl, rfl, ⟨by decide, by decide⟩, ?_⟩
    refine ⟨v, _, fl, ndD q.dat, 3 * (n + 1) + 3, rfl, by rw [← e]; exact hv1, hkd, g0, fun H' u d s2 hd hg => ?_⟩
    exact k H' u d (s1.trans s2) hd hg
  clear e hkd hgk g0
  have hdep := (rdg_gr (n + 1) f q r hw hq hr2)
  cases q with
  | leaf => exact absurd leaf_eqv hle
  | pick kk q1 =>
    cases f with
    | pick ps =>
      have hw' : 1 ≤ ps.length ∧ ps.length ≤ 3 ∧ ∀ p, p ∈ ps → Lw n p := hw
      rw [Rdg.ok] at hq
      obtain ⟨g, hg1, hg2⟩ := hq
      have hkk := (List.getElem?_eq_some_iff.mp hg1).1
      obtain ⟨a, u, rfl, ht, hu⟩ := rdPick hv1
      refine ⟨_, rfl, a, _, 0, _, rfl, rfl, ht, atI_nat (j := 0) rfl, rfl, _, rfl, iteT ?_⟩
      refine ⟨_, rfl, a, _, 1, _, rfl, rfl, ht, atI_nat (j := 1) rfl, _, rfl, a, _, 2, _, rfl, rfl, ht, atI_nat (j := 2) rfl, _, rfl, _, _, rfl, rfl, ⟨by decide, by decide⟩, ?_⟩
      refine ⟨u, _, g, q1, r, rfl, hu, hw'.2.2 g (List.mem_of_getElem? hg1), hg2, hr2, fun H2 u2 d2 s2 hd2 hgk2 => ⟨(by show 3 ≤ sizeLine; decide), fun D nD => ?_⟩⟩
      refine k _ (.ref D) (.tuple [.str "pick", .int (kk : Int), d2]) (s1.trans (s2.trans (.new nD))) (.tup (sT upd_same) (.cons (.str _) (.cons (.int _) (.cons (dpS (.new nD) hd2) .nil)))) ?_
      have e2 : ndD (Rdg.pick kk q1).dat = 3 + ndD q1.dat := by simp only [Rdg.dat, ndD, nds]; omega
      rw [e2]
      exact ((Lk.cons (Gk.str ek_w.2.2.1) (Lk.two (Gk.int (by omega) (by omega)) hgk2)).tup (Nat.le_of_ble_eq_true rfl)).mono (by omega) (by omega)
    | _ => rw [Rdg.ok] at hq; exact hq.elim; all_goals intros; contradiction
  | row prs =>
    cases f with
    | row ps =>
      have hw' : ps.length ≤ 3 ∧ ∀ p, p ∈ ps → Lw n p := hw
      rw [Rdg.ok] at hq
      have hpl : 0 < prs.length := List.length_pos_iff.mpr hq.1
      obtain ⟨a, b, xs, rfl, ht, hb, hx⟩ := rdRow hv1
      have hxl : xs.length = prs.length := by rw [dpsLen hx, datP_map, List.length_map]
      refine ⟨_, rfl, a, _, 0, _, rfl, rfl, ht, atI_nat (j := 0) rfl, rfl, _, rfl, iteF ?_⟩
      have hpos : (0 : Int) < ((xs.length : Nat) : Int) := by omega
      obtain ⟨m, em, lm⟩ := modN (c / 3) xs.length (by omega)
      refine ⟨_, rfl, _, _, rfl, rfl, ⟨by decide, by decide⟩, _, rfl, a, _, 1, _, rfl, rfl, ht, atI_nat (j := 1) rfl, b, _, rfl, .inr hb, _, _, rfl, rfl, hpos, ?_⟩
      dsimp only
      rw [em]
      obtain ⟨x, hxm⟩ : ∃ x, xs[m]? = some x := ⟨_, List.getElem?_eq_getElem lm⟩
      refine ⟨_, rfl, a, _, 1, _, rfl, rfl, ht, atI_nat (j := 1) rfl, _, rfl, b, _, m, _, rfl, rfl, hb, at_of (j := m) rfl hxm, ?_⟩
      obtain ⟨pq, hpq⟩ : ∃ pq, prs[m]? = some pq := ⟨_, List.getElem?_eq_getElem (by omega)⟩
      have hdm : (Rdg.datP prs)[m]? = some (.tuple [.int (pq.1 : Int), pq.2.dat]) := by rw [datP_map, List.getElem?_map, hpq]; rfl
      obtain ⟨x', hx', hxd⟩ := dpsAt hx hdm
      rw [hxm] at hx'
      cases hx'
      obtain ⟨c2, ys, rfl, hc2, hyd⟩ := dpTup hxd
      obtain ⟨y0, ys1, rfl, e0, hy1⟩ := dpCons hyd
      obtain ⟨y1, ys2, rfl, e1, hy2⟩ := dpCons hy1
      cases dpNil hy2
      cases dpInt e0
      obtain ⟨g, s, hgm, hgs, hsl⟩ := ok_rowAt hq.2 hpq
      have hpi := okRow_ix hq.2 pq (List.mem_of_getElem? hpq)
      refine ⟨_, rfl, a, _, 0, _, rfl, rfl, ht, atI_nat (j := 0) rfl, rfl, _, rfl, iteT ?_⟩
      refine ⟨_, rfl, c2, _, 1, _, rfl, rfl, hc2, atI_nat (j := 1) rfl, _, rfl, _, _, rfl, rfl, ⟨by decide, by decide⟩, ?_⟩
      refine ⟨y1, _, g, pq.2, s, rfl, e1, hw'.2 g hgm, hgs, by omega, fun H2 u2 d2 s2 hd2 hgk2 => ?_⟩
      refine ⟨_, rfl, a, _, 0, _, rfl, rfl, s2.sqT ht, atI_nat (j := 0) rfl, rfl, _, rfl, iteT ?_⟩
      refine ⟨_, rfl, c2, _, 0, _, rfl, rfl, s2.sqT hc2, atI_nat (j := 0) rfl, _, rfl, (by show 2 ≤ sizeLine; decide), fun c3 n3 => ?_⟩
      have s3 := Same.new (o := .tup [.int (pq.1 : Int), u2]) n3
      have hbent : Dp K (upd H2 c3 (.tup [.int (pq.1 : Int), u2])) (.ref c3) (.tuple [.int (pq.1 : Int), d2]) := .tup (sT upd_same) (.cons (.int _) (.cons (dpS s3 hd2) .nil))
      have hgx : Gk (.tuple [.int (pq.1 : Int), d2]) (2 * ndD (.tuple [.int (pq.1 : Int), pq.2.dat]) + 60) (3 * n + 10) := by
        have e3 : ndD (.tuple [.int (pq.1 : Int), pq.2.dat]) = 2 + ndD pq.2.dat := by simp only [ndD, nds]; omega
        rw [e3]
        exact ((Lk.two (Gk.int (by omega) (by omega)) hgk2).tup (Nat.le_of_ble_eq_true rfl)).mono (by omega) (by omega)
      have hv3 : Dp K (upd H2 c3 (.tup [.int (pq.1 : Int), u2])) (.ref a) (.tuple [.str "row", .tuple (Rdg.datP prs)]) := dpS (s2.trans s3) hv1
      have SS : Stay fun G => Dp K G (.ref a) (.tuple [.str "row", .tuple (Rdg.datP prs)]) ∧ Dp K G (.ref c3) (.tuple [.int (pq.1 : Int), d2]) := stay_and stay_dp stay_dp
      have rs1 : ([PyData.str "row", .tuple (Rdg.datP prs)])[1]? = some (.tuple (Rdg.datP prs)) := rfl
      have hdl : (Rdg.datP prs).length = xs.length := (dpsLen hx).symm
      have fv : MkD K ([some (.ref a), some (.int c), some (.int (m : Int)), some (.ref c2), some (.ref c3)] : L2.St) (fun G => Dp K G (.ref a) (.tuple [.str "row", .tuple (Rdg.datP prs)]) ∧ Dp K G (.ref c3) (.tuple [.int (pq.1 : Int), d2])) (tVar 0) (.tuple [.str "row", .tuple (Rdg.datP prs)]) := mk_var rfl fun _ q => q.1
      have bv : MkD K ([some (.ref a), some (.int c), some (.int (m : Int)), some (.ref c2), some (.ref c3)] : L2.St) (fun G => Dp K G (.ref a) (.tuple [.str "row", .tuple (Rdg.datP prs)]) ∧ Dp K G (.ref c3) (.tuple [.int (pq.1 : Int), d2])) (tVar 4) (.tuple [.int (pq.1 : Int), d2]) := mk_var rfl fun _ q => q.2
      have hl2 : xs.length ≤ 200 := by
        have q1 := okRow_cnt hq.2
        omega
      refine rt_mk (K := K) (d := .tuple [.str "row", .tuple ((Rdg.datP prs).take m ++ [.tuple [.int (pq.1 : Int), d2]] ++ (Rdg.datP prs).drop (m + 1))]) (mk_tup (Nat.le_of_ble_eq_true rfl) (mk_cons SS (mk_ixT SS fv mk_int (j := 0) rfl rfl) (mk_cons SS
        (mk_catT SS (by rw [List.length_append, List.length_take, List.length_drop, List.length_singleton]; omega)
          (mk_catT SS (by rw [List.length_take, List.length_singleton]; omega) (mk_toV rfl (mk_ixT SS fv mk_int (j := 1) rfl rs1)) (mk_tup (Nat.le_of_ble_eq_true rfl) (mk_cons SS bv mk_nil)))
          (mk_fromV rfl (mk_ixT SS fv mk_int (j := 1) rfl rs1))) mk_nil))) ⟨hv3, hbent⟩ fun H9 v9 s9 hv9 => ?_
      refine k H9 v9 _ (s1.trans ((s2.trans s3).trans s9)) hv9 ?_
      obtain ⟨h1, h2, h3⟩ := hdep
      have hG : Gk (.tuple [.str "row", .tuple (Rdg.datP prs)]) (ndD (.tuple [.str "row", .tuple (Rdg.datP prs)])) (3 * (n + 1) + 3) := ⟨h1, Nat.le_refl _, h3⟩
      obtain ⟨hL, _, _, _⟩ := hG.un
      have hRow : Gk (.tuple (Rdg.datP prs)) (ndD (.tuple (Rdg.datP prs))) (3 * (n + 1) + 2) := by
        have q := hL.mem (d := .tuple (Rdg.datP prs)) (by simp)
        exact ⟨q.ek, Nat.le_refl _, by have := q.dp; omega⟩
      obtain ⟨hRs, hN2, _, _⟩ := hRow.un
      have qq := lk_put (D' := 3 * n + 10) hRs hdm hgx (by omega)
      have e3 : ndD ((Rdg.row prs).dat) = 2 + ndD (.tuple (Rdg.datP prs)) := by simp only [Rdg.dat, ndD, nds]; omega
      rw [e3]
      exact ((Lk.two (Gk.str ek_w.2.1) (qq.tup (by rw [List.length_append, List.length_append, List.length_take, List.length_drop, List.length_singleton]; omega))).tup (Nat.le_of_ble_eq_true rfl)).mono (by omega) (by omega)
    | _ => rw [Rdg.ok] at hq; exact hq.elim; all_goals intros; contradiction
  | times qs =>
    cases f with
    | times g l hh =>
      have hw' : Lw n g ∧ _ := hw
      rw [Rdg.ok] at hq
      have hpl : 0 < qs.length := List.length_pos_iff.mpr hq.1
      obtain ⟨a, b, xs, rfl, ht, hb, hx⟩ := rdTimes hv1
      have hxl : xs.length = qs.length := by rw [dpsLen hx, datL_map, List.length_map]
      refine ⟨_, rfl, a, _, 0, _, rfl, rfl, ht, atI_nat (j := 0) rfl, rfl, _, rfl, iteF ?_⟩
      have hpos : (0 : Int) < ((xs.length : Nat) : Int) := by omega
      obtain ⟨m, em, lm⟩ := modN (c / 3) xs.length (by omega)
      refine ⟨_, rfl, _, _, rfl, rfl, ⟨by decide, by decide⟩, _, rfl, a, _, 1, _, rfl, rfl, ht, atI_nat (j := 1) rfl, b, _, rfl, .inr hb, _, _, rfl, rfl, hpos, ?_⟩
      dsimp only
      rw [em]
      obtain ⟨x, hxm⟩ : ∃ x, xs[m]? = some x := ⟨_, List.getElem?_eq_getElem lm⟩
      refine ⟨_, rfl, a, _, 1, _, rfl, rfl, ht, atI_nat (j := 1) rfl, _, rfl, b, _, m, _, rfl, rfl, hb, at_of (j := m) rfl hxm, ?_⟩
      obtain ⟨q1, hq1⟩ : ∃ q1, qs[m]? = some q1 := ⟨_, List.getElem?_eq_getElem (by omega)⟩
      have hdm : (Rdg.datL qs)[m]? = some q1.dat := by rw [datL_map, List.getElem?_map, hq1]; rfl
      obtain ⟨x', hx', hxd⟩ := dpsAt hx hdm
      rw [hxm] at hx'
      cases hx'
      obtain ⟨s, hgs, hsl⟩ := ok_allAt hq.2.2.2 hq1
      refine ⟨_, rfl, a, _, 0, _, rfl, rfl, ht, atI_nat (j := 0) rfl, rfl, _, rfl, iteF ?_⟩
      refine ⟨_, rfl, _, rfl, _, _, rfl, rfl, ⟨by decide, by decide⟩, ?_⟩
      refine ⟨x, _, g, q1, s, rfl, hxd, hw'.1, hgs, by omega, fun H2 u2 d2 s2 hd2 hgk2 => ?_⟩
      refine ⟨_, rfl, a, _, 0, _, rfl, rfl, s2.sqT ht, atI_nat (j := 0) rfl, rfl, _, rfl, iteF ?_⟩
      refine ⟨_, rfl, ?_⟩
      have s3 : Same H2 H2 := .refl _
      have hbent := hd2
      have hgx : Gk d2 (2 * ndD q1.dat + 60) (3 * n + 10) := hgk2.mono (by omega) (by omega)
      have hv3 : Dp K H2 (.ref a) (.tuple [.str "times", .tuple (Rdg.datL qs)]) := dpS (s2.trans s3) hv1
      have SS : Stay fun G => Dp K G (.ref a) (.tuple [.str "times", .tuple (Rdg.datL qs)]) ∧ Dp K G (u2) (d2) := stay_and stay_dp stay_dp
      have rs1 : ([PyData.str "times", .tuple (Rdg.datL qs)])[1]? = some (.tuple (Rdg.datL qs)) := rfl
      have hdl : (Rdg.datL qs).length = xs.length := (dpsLen hx).symm
      have fv : MkD K ([some (.ref a), some (.int c), some (.int (m : Int)), some (x), some (u2)] : L2.St) (fun G => Dp K G (.ref a) (.tuple [.str "times", .tuple (Rdg.datL qs)]) ∧ Dp K G (u2) (d2)) (tVar 0) (.tuple [.str "times", .tuple (Rdg.datL qs)]) := mk_var rfl fun _ q => q.1
      have bv : MkD K ([some (.ref a), some (.int c), some (.int (m : Int)), some (x), some (u2)] : L2.St) (fun G => Dp K G (.ref a) (.tuple [.str "times", .tuple (Rdg.datL qs)]) ∧ Dp K G (u2) (d2)) (tVar 4) (d2) := mk_var rfl fun _ q => q.2
      have hl2 : xs.length ≤ 200 := by
        have q1 := okAll_cnt hq.2.2.2
        omega
      refine rt_mk (K := K) (d := .tuple [.str "times", .tuple ((Rdg.datL qs).take m ++ [d2] ++ (Rdg.datL qs).drop (m + 1))]) (mk_tup (Nat.le_of_ble_eq_true rfl) (mk_cons SS (mk_ixT SS fv mk_int (j := 0) rfl rfl) (mk_cons SS
        (mk_catT SS (by rw [List.length_append, List.length_take, List.length_drop, List.length_singleton]; omega)
          (mk_catT SS (by rw [List.length_take, List.length_singleton]; omega) (mk_toV rfl (mk_ixT SS fv mk_int (j := 1) rfl rs1)) (mk_tup (Nat.le_of_ble_eq_true rfl) (mk_cons SS bv mk_nil)))
          (mk_fromV rfl (mk_ixT SS fv mk_int (j := 1) rfl rs1))) mk_nil))) ⟨hv3, hbent⟩ fun H9 v9 s9 hv9 => ?_
      refine k H9 v9 _ (s1.trans ((s2.trans s3).trans s9)) hv9 ?_
      obtain ⟨h1, h2, h3⟩ := hdep
      have hG : Gk (.tuple [.str "times", .tuple (Rdg.datL qs)]) (ndD (.tuple [.str "times", .tuple (Rdg.datL qs)])) (3 * (n + 1) + 3) := ⟨h1, Nat.le_refl _, h3⟩
      obtain ⟨hL, _, _, _⟩ := hG.un
      have hRow : Gk (.tuple (Rdg.datL qs)) (ndD (.tuple (Rdg.datL qs))) (3 * (n + 1) + 2) := by
        have q := hL.mem (d := .tuple (Rdg.datL qs)) (by simp)
        exact ⟨q.ek, Nat.le_refl _, by have := q.dp; omega⟩
      obtain ⟨hRs, hN2, _, _⟩ := hRow.un
      have qq := lk_put (D' := 3 * n + 10) hRs hdm hgx (by omega)
      have e3 : ndD ((Rdg.times qs).dat) = 2 + ndD (.tuple (Rdg.datL qs)) := by simp only [Rdg.dat, ndD, nds]; omega
      rw [e3]
      exact ((Lk.two (Gk.str ek_w.2.2.2.1) (qq.tup (by rw [List.length_append, List.length_append, List.length_take, List.length_drop, List.length_singleton]; omega))).tup (Nat.le_of_ble_eq_true rfl)).mono (by omega) (by omega)
    | _ => rw [Rdg.ok] at hq; exact hq.elim; all_goals intros; contradiction
end
end Sw
set_option Elab.async false
set_option maxRecDepth 100000
set_option maxHeartbeats 16000000
namespace Sw
open PySem L2 PySem.Spec PyProof.Rows
theorem pe_imp {X : Cx} {e : Expr} {te te' : TE} (h : PE X e te) (i : ∀ σ H Q, te' σ H Q → te σ H Q) : PE X e te' := ⟨fun pins s σ H Q I q => h.run pins s σ H Q I (i _ _ _ q)⟩
theorem cut_takeL (xs : List V) (n : Nat) : cutV xs none (some (n : Int)) = xs.take n := cut_take xs n
theorem sqLB {K : PySem.W.Frag} {H H' : Hp} {st sp : Addr} (b : But st H H') (h : StateAt H st sp) {a : Addr} {xs : List V} (hq : SqL K H a xs) : SqL K H' a xs := by
  obtain ⟨ns, i, h1, h2⟩ := h
  have n : ∀ u, Rd H a u → u = .lst xs → a ≠ st := fun u r e hm => (dkRd h1 (hm ▸ r) xs).1 e
  rcases hq with hq | hq
  · have hn := n _ hq rfl
    rcases hq with hq | ⟨o, hq⟩
    · exact .inl (.inl (b _ _ hq hn))
    · exact .inl (.inr ⟨o, b _ _ hq hn⟩)
  · exact .inr hq
/-- things that can be shown and read -/
structure Gt (d : PyData) : Prop where
  sh : SeqAt.shaped d = true
  nd : ndD d ≤ 100000
  ok : OkR d
  dp : d.depth ≤ 40
theorem Gt.of {d : PyData} {N D : Nat} (h : Gk d N D) (hN : N ≤ 20000) (hD : D ≤ 40) : Gt d := by
  have h1 := h.nd
  have h2 := h.dp
  obtain ⟨_, _, h3, _⟩ := ek_all d h.ek
  refine ⟨?_, by omega, okR h.ek (by omega) (by omega), by omega⟩
  unfold SeqAt.shaped
  rw [h3, decide_eq_true (by omega)]
  rfl
theorem sh_pls (l : List (List Nat)) : SeqAt.shaped (.list (l.map plD)) = true := by
  have h1 : PyData.canLayAll0 (l.map plD) = true := by
    induction l with
    | nil => simp [PyData.canLayAll0]
    | cons a l ih =>
      rw [List.map_cons, PyData.canLayAll0, ih, Bool.and_true, plD, PyData.canLay0]
      clear ih
      induction a with
      | nil => simp [PyData.canLayAll0]
      | cons k a ih => rw [List.map_cons, PyData.canLayAll0, ih, PyData.canLay0]; rfl; all_goals intros; contradiction
  have h2 : PyData.depthAll (l.map plD) ≤ 1 := by
    clear h1
    induction l with
    | nil => simp [PyData.depthAll]
    | cons a l ih =>
      have h3 : PyData.depthAll (a.map fun k : Nat => PyData.int (k : Int)) ≤ 0 := by
        clear ih
        induction a with
        | nil => simp [PyData.depthAll]
        | cons k a ih => rw [List.map_cons, PyData.depthAll, PyData.depth]; omega; all_goals intros; contradiction
      rw [List.map_cons, PyData.depthAll, plD, PyData.depth]
      omega
  unfold SeqAt.shaped
  rw [PyData.canLay0, h1, PyData.depth, decide_eq_true (by omega)]
  rfl
def tCells (K : PySem.W.Frag) : TE := fun σ H Q => ∃ (a : Addr) (ns : List Int), σ[0]? = some (some (.ref a)) ∧ SqL K H a (ns.map V.int) ∧ ns.length ≤ 63 ∧ ∀ H' p (ms : List Int), Same H H' → H' p = some (.lst (ms.map V.int)) → Q (.ref p) H'
def spLaw (K : PySem.W.Frag) : Sp := fun vs H Q _ => ∃ (a : Addr) (ns : List Int), vs = [.ref a] ∧ SqL K H a (ns.map V.int) ∧ ns.length ≤ 63 ∧ ∀ H', Q (.bl true) H'
/-- what is asked: a thing and a row -/
structure AskR (K : PySem.W.Frag) (H : Hp) (x : V) (d : PyData) (rv : Addr) (r : RowS) : Prop where
  dat : Dp K H x d
  good : Gt d
  row : SqT K H rv (r.map V.str)
  ok : ∀ y, y ∈ r → okS y
theorem AskR.same {K : PySem.W.Frag} {H H' : Hp} {x : V} {d : PyData} {rv : Addr} {r : RowS} (h : AskR K H x d rv r) (s : Same H H') : AskR K H' x d rv r := ⟨dpS s h.dat, h.good, s.sqT h.row, h.ok⟩
section
variable {P : Program} {w : World} {K : PySem.W.Frag} {mg : Str → Option Value} {base : Heap}
abbrev n_law : List Str := ["script", "state", "form", "made", "row", "spots", "cell", "thing", "other", "one", "signs", "seen", "told", "more"]
theorem sc_law : FnScope n_law ["script"] (defScope s_law) := ⟨rfl, rfl, rfl, by decide +kernel, rfl, by decide +kernel, by decide +kernel⟩
theorem ok_law {f : Addr} {fd : FuncData} (F : Fun K "law" "law" s_law f fd) (d__law_form : DefOk P w K mg base "_law_form" 5 ["state", "left", "times"] (spForm K 3)) (d__law_read : DefOk P w K mg base "_law_read" 13 ["state", "form"] (spReadL K 3)) (d_is_reading : DefOk P w K mg base "is_reading" 5 ["form", "row", "thing"] (spIsR K))
    (d_leaves_read : DefOk P w K mg base "leaves_read" 2 ["form", "reading"] (spLeaves K)) (d__law_odd : DefOk P w K mg base "_law_odd" 1 ["thing", "cell"] (spOdd K)) (d__law_bent : DefOk P w K mg base "_law_bent" 5 ["thing", "cell"] (spBentT K 3)) (d__law_bent_row : DefOk P w K mg base "_law_bent_row" 1 ["row", "cell"] (spBent K)) (d__law_due : DefOk P w K mg base "_law_due" 17 ["form", "row", "thing"] (spDue K))
    (b_len : mg "len" = none) (b_repr : mg "repr" = none) (b_isinstance : mg "isinstance" = none) (b_bool : mg "bool" = none) : FnG P w K mg base 18 f fd ["script"] (spLaw K) := by
  refine Fun.okG F sc_law (fun vs H Q E h => ?_) (fun cdv A outer s H vs Q E hg hr h => ?_)
  · obtain ⟨_, _, rfl, _⟩ := h
    rfl
  obtain ⟨a, ns, rfl, hS, hlen, k⟩ := h
  -- one thing and one row
  obtain ⟨tI, hI, fI⟩ : ∃ tI, PSs (cxOf CX0 P w K mg base n_law "law" (defScope s_law) f cdv A outer s H E).nox (forBody ((forBody ((defBody s_law).getD 4 (.Pass ⟨0, 0, 0, 0⟩))).getD 2 (.Pass ⟨0, 0, 0, 0⟩))) tI ∧
      ∀ (D : Ends) (H1 : Hp) (v x : V) (fm : Fm) (rv : Addr) (d : PyData) (r : RowS) (o0 o1 o3 o4 o5 o6 o7 o8 o11 o12 o13 : Option V), FmAt K H1 v fm → Lw 3 fm → AskR K H1 x d rv r →
        (∀ H' (q11 q12 q13 : Option V), Same H1 H' → D.nx [o0, o1, some v, o3, o4, o5, o6, o7, o8, some x, some (.ref rv), q11, q12, q13] H') →
        tI D [o0, o1, some v, o3, o4, o5, o6, o7, o8, some x, some (.ref rv), o11, o12, o13] H1 := by
    refine ⟨_, (pss_cons (ps_set (i := 11) sc_law.nd rfl (Or.inl rfl) (pe_callB (r := rReprD K) (cr_reprD hg hr.units) (by rfl) b_repr (by decide +kernel) (pa_cons (pv 9) pa_nil)))
      (pss_cons (ps_set (i := 12) sc_law.nd rfl (Or.inl rfl) (pe_callD d_is_reading (hr.mono (by decide)) rfl (pa_cons (pv 2) (pa_cons (pv 10) (pa_cons (pv 9) pa_nil)))))
      (pss_cons (ps_if (PW.pt (pw_or (pt_not (pt_val (pe_callB call_isi (by rfl) b_isinstance (by decide +kernel) (pa_cons (pv 12) (pa_cons (pe_bltn (v := .ty "bool") (by rfl) b_bool (by decide +kernel) rfl) pa_nil))))) (pw_or (pt_cmpR op_ne (pv 12) (pe_callD d__law_due (hr.mono (by decide)) rfl (pa_cons (pv 2) (pa_cons (pv 10) (pa_cons (pv 9) pa_nil)))) (nomark _)) (pw_or1 (pt_cmpR op_ne (pe_callB (r := rReprD K) (cr_reprD hg hr.units) (by rfl) b_repr (by decide +kernel) (pa_cons (pv 9) pa_nil)) (pv 11) (nomark _)))))) (pss_one (ps_ret pe_bl)) pss_nil)
      (pss_cons (ps_set (i := 13) sc_law.nd rfl (Or.inl rfl) (pe_tup (pa_cons pe_str (pa_cons (pe_tup (pa_cons (pv 2) pa_nil)) pa_nil))))
      (pss_cons (ps_if (pt_cmpR op_ne (pe_callD d_is_reading (hr.mono (by decide)) rfl (pa_cons (pv 13) (pa_cons (pv 10) (pa_cons (pv 9) pa_nil)))) (pe_callD d__law_due (hr.mono (by decide)) rfl (pa_cons (pv 13) (pa_cons (pv 10) (pa_cons (pv 9) pa_nil)))) (nomark _)) (pss_one (ps_ret pe_bl)) pss_nil)
      (pss_one (ps_if (pt_cmpR op_ne (pe_callD d_is_reading (hr.mono (by decide)) rfl (pa_cons (pv 2) (pa_cons (pv 10) (pa_cons (pv 9) pa_nil)))) (pv 12) (nomark _)) (pss_one (ps_ret pe_bl)) pss_nil))))))), ?_⟩
    intro D H1 v x fm rv d r o0 o1 o3 o4 o5 o6 o7 o8 o11 o12 o13 hf hw a1 fin
    obtain ⟨z1, z2⟩ := lw_sd 3 fm hw
    have z1' : fm.size ≤ 64 := z1
    have hsg := lw_sg 3 fm hw
    have g := a1.good
    have hok : ∀ t, t ∈ r → PyData.strOk t = true := fun t ht => okS_str (a1.ok t ht)
    refine ⟨_, rfl, x, d, rfl, a1.dat, g.ok.sh, g.ok.nd, g.dp, g.ok.len, ?_⟩
    refine ⟨_, rfl, _, rfl, _, rfl, v, x, rv, fm, r, d, rfl, hf, a1.row, by omega, a1.dat, g.sh, g.nd, fun H2 b s2 hb => ?_⟩
    refine ⟨_, rfl, _, .ty "bool", _, _, _, rfl, .ty _, tyX (d := .bool b) (.bl b), isBool (K := K) (H := H2) (d := .bool b) (.bl b), _, rfl, iteF ?_⟩
    have a2 := a1.same s2
    have hf2 := dpS s2 hf
    refine ⟨_, rfl, _, rfl, _, rfl, _, rfl, v, x, rv, fm, r, d, rfl, hf2, by omega, by omega, hsg, a2.row, hok, a2.dat, g.sh, g.nd, fun H3 b3 s3 hb3 => ?_⟩
    have eb : b = b3 := Bool.eq_iff_iff.mpr (hb.trans hb3.symm)
    subst eb
    refine ⟨rfl, _, rfl, iteF' (by simp) ?_⟩
    have a3 := a2.same s3
    have hf3 := dpS s3 hf2
    refine ⟨_, rfl, x, d, rfl, a3.dat, g.ok.sh, g.ok.nd, g.dp, g.ok.len, _, rfl, rfl, _, rfl, iteF' (by simp) ?_⟩
    -- the row of the form alone
    refine ⟨_, rfl, (by show 1 ≤ sizeLine; decide), fun p1 n1 => ⟨(by show 2 ≤ sizeLine; decide), fun p2 n2 => ?_⟩⟩
    have e1 := Same.new n1 (o := .tup [v])
    have e2 := Same.new n2 (o := .tup [.str "row", .ref p1])
    have s4 := e1.trans e2
    have a4 := a3.same s4
    have hmore : FmAt K (upd (upd H3 p1 (.tup [v])) p2 (.tup [.str "row", .ref p1])) (.ref p2) (.row [fm]) := .tup (sT upd_same) (.cons (.str _) (.cons (.tup (sT (e2 _ _ upd_same)) (.cons (dpS s4 hf3) .nil)) .nil))
    have m1 : (Fm.row [fm]).dp ≤ 5 := by simp only [Fm.dp, Fm.dps]; omega
    have m2 : (Fm.row [fm]).size ≤ 1000 := by simp only [Fm.size, Fm.sizes]; omega
    have m3 : sgOk (.row [fm]) := by rw [sgOk, sgOks, sgOks]; exact ⟨hsg, trivial⟩
    have hf4 := dpS s4 hf3
    generalize upd (upd H3 p1 (.tup [v])) p2 (.tup [.str "row", .ref p1]) = H4 at s4 a4 hmore hf4 ⊢
    refine ⟨_, rfl, _, rfl, _, rfl, .ref p2, x, rv, .row [fm], r, d, rfl, hmore, a4.row, m2, a4.dat, g.sh, g.nd, fun H5 b5 s5 hb5 => ?_⟩
    have a5 := a4.same s5
    refine ⟨_, rfl, _, rfl, _, rfl, .ref p2, x, rv, .row [fm], r, d, rfl, dpS s5 hmore, m1, m2, m3, a5.row, hok, a5.dat, g.sh, g.nd, fun H6 b6 s6 hb6 => ?_⟩
    have eb : b5 = b6 := Bool.eq_iff_iff.mpr (hb5.trans hb6.symm)
    subst eb
    refine ⟨rfl, _, rfl, iteF' (by simp) ?_⟩
    have a6 := a5.same s6
    have s46 := s5.trans s6
    refine ⟨_, rfl, _, rfl, _, rfl, v, x, rv, fm, r, d, rfl, dpS s46 hf4, a6.row, by omega, a6.dat, g.sh, g.nd, fun H7 b7 s7 hb7 => ?_⟩
    have eb : b = b7 := Bool.eq_iff_iff.mpr (hb.trans hb7.symm)
    subst eb
    refine ⟨_, rfl, rfl, _, rfl, iteF' (by simp) ?_⟩
    exact fin H7 _ _ _ (s2.trans (s3.trans (s4.trans (s46.trans s7))))
  -- one cell
  obtain ⟨tB, hB, fB⟩ : ∃ tB, PSs (cxOf CX0 P w K mg base n_law "law" (defScope s_law) f cdv A outer s H E).nox (forBody ((defBody s_law).getD 4 (.Pass ⟨0, 0, 0, 0⟩))) tB ∧
      ∀ (D : Ends) (H1 : Hp) (sa st : Addr) (v u : V) (fm : Fm) (rv L : Addr) (oq : Option Rdg) (r : RowS) (c : Int) (o7 o8 o9 o10 o11 o12 o13 : Option V), FmAt K H1 v fm → Lw 3 fm → Mk fm r oq → Dp K H1 u (datO oq) → SqT K H1 rv (r.map V.str) → (∀ x, x ∈ r → okS x) → r.length ≤ 125 →
        (∀ H' (q7 q8 q9 q10 q11 q12 q13 : Option V), Same H1 H' → D.nx [some (.ref sa), some (.ref st), some v, some u, some (.ref rv), some (.ref L), some (.int c), q7, q8, q9, q10, q11, q12, q13] H') →
        tB D [some (.ref sa), some (.ref st), some v, some u, some (.ref rv), some (.ref L), some (.int c), o7, o8, o9, o10, o11, o12, o13] H1 := by
    refine ⟨_, (pss_cons (ps_set (i := 7) sc_law.nd rfl (Or.inl rfl) (pe_ifExp (pt_cmp (pc_isN (pv 3)) rfl) (pe_callD d__law_odd (hr.mono (by decide)) rfl (pa_cons (pe_tup (pa_cons pe_str pa_nil)) (pa_cons (pv 6) pa_nil))) (pe_callD d__law_bent (hr.mono (by decide)) rfl (pa_cons (pv 3) (pa_cons (pe_op op_fdiv (pv 6) pe_int) pa_nil)))))
      (pss_cons (ps_set (i := 8) sc_law.nd rfl (Or.inl rfl) (pe_ifExp (pt_cmpR op_eq (pe_op op_mod (pv 6) pe_int) pe_int (nomark _)) (pv 4) (pe_callD d__law_bent_row (hr.mono (by decide)) rfl (pa_cons (pv 4) (pa_cons (pe_op op_fdiv (pv 6) pe_int) pa_nil)))))
      (pss_one (ps_for PassesOwn.never rfl (pi_list (pe_lst (pa_cons (pe_tup (pa_cons (pv 7) (pa_cons (pv 4) pa_nil))) (pa_cons (pe_tup (pa_cons (pv 7) (pa_cons (pv 8) pa_nil))) (pa_cons (pe_tup (pa_cons (pv 3) (pa_cons (pv 8) pa_nil))) (pa_cons (pe_tup (pa_cons pe_non (pa_cons (pv 8) pa_nil))) pa_nil)))))) (pg_tup rfl (pgs_cons (pg_name (i := 9) sc_law.nd rfl (Or.inl rfl)) (pgs_cons (pg_name (i := 10) sc_law.nd rfl (Or.inl rfl)) pgs_nil)))
        hI)))), ?_⟩
    intro D H1 sa st v u fm rv L oq r c o7 o8 o9 o10 o11 o12 o13 hf hw M hu hrow ho hl fin
    have gu : Gt (datO oq) := by
      rcases M with ⟨rfl, _, _⟩ | ⟨q, rfl, hq⟩
      · exact Gt.of (N := 1) (D := 0) Gk.non (by omega) (by omega)
      · obtain ⟨h1, h2, h3⟩ := rdg_gr 3 fm q r hw hq (by omega)
        exact Gt.of ⟨h1, h2, h3⟩ (by have : (5 * 3 + 5) * r.length ≤ (5 * 3 + 5) * 125 := Nat.mul_le_mul_left _ hl; omega) (by omega)
    -- behind the thing
    have after : ∀ (Z : Hp → V → Prop), (∀ H2 y d, Same H1 H2 → Dp K H2 y d → Gt d → Z H2 y) →
        tIf (tB (tIsN (tVar 3))) (tCall (spOdd K) [] E0 (tCons (tTup (tCons (tC (.str "leaf")) tNil)) (tCons (tVar 6) tNil))) (tCall (spBentT K 3) [] E0 (tCons (tVar 3) (tCons (tOp (rI CDiv fun i j => .int (i / j)) (tVar 6) (tC (.int 2))) tNil)))
          [some (.ref sa), some (.ref st), some v, some u, some (.ref rv), some (.ref L), some (.int c), o7, o8, o9, o10, o11, o12, o13] H1 fun y H2 => Z H2 y := by
      intro Z kz
      rcases M with ⟨rfl, _, _⟩ | ⟨q, rfl, hq⟩
      · have e : u = .non := dpNone hu
        subst e
        refine ⟨_, rfl, _, rfl, iteT ?_⟩
        refine ⟨(by show 1 ≤ sizeLine; decide), fun p np => ?_⟩
        have s1 := Same.new np (o := .tup [.str "leaf"])
        refine ⟨_, rfl, .ref p, c, [.str "leaf"], 2, 1, rfl, .tup (sT upd_same) (.cons (.str _) .nil), .leaf, ((Lk.one (Gk.str (D := 0) ek_w.1)).tup (Nat.le_of_ble_eq_true rfl)), fun H2 y d s2 hd hgd => ?_⟩
        exact kz H2 y d (s1.trans s2) hd (Gt.of hgd (by omega) (by omega))
      · obtain ⟨ua, uxs, rfl, hua⟩ := rdTup hu
        refine ⟨_, rfl, _, rfl, iteF ?_⟩
        refine ⟨_, rfl, _, rfl, _, _, rfl, rfl, ⟨by decide, by decide⟩, ?_⟩
        refine ⟨.ref ua, _, fm, q, r, rfl, hu, hw, hq, by omega, fun H2 y d s2 hd hgd => ?_⟩
        have h2 := (rdg_gr 3 fm q r hw hq (by omega)).2.1
        have h3 : (5 * 3 + 5) * r.length ≤ (5 * 3 + 5) * 125 := Nat.mul_le_mul_left _ hl
        exact kz H2 y d s2 hd (Gt.of hgd (by omega) (by omega))
    refine after _ fun H2 y d s2 hy gd => ?_
    -- behind the other row
    have after2 : ∀ (Z : Hp → V → Prop), (∀ H3 (ob : Addr) (r2 : RowS), Same H2 H3 → SqT K H3 ob (r2.map V.str) → (∀ x, x ∈ r2 → okS x) → Z H3 (.ref ob)) →
        tIf (tTest (tOp rEq (tOp (rI (fun _ j => 0 < j) fun i j => .int (i % j)) (tVar 6) (tC (.int 2))) (tC (.int 0)))) (tVar 4) (tCall (spBent K) [] E0 (tCons (tVar 4) (tCons (tOp (rI CDiv fun i j => .int (i / j)) (tVar 6) (tC (.int 7))) tNil)))
          [some (.ref sa), some (.ref st), some v, some u, some (.ref rv), some (.ref L), some (.int c), some y, o8, o9, o10, o11, o12, o13] H2 fun z H3 => Z H3 z := by
      intro Z kz
      refine ⟨_, rfl, _, _, rfl, rfl, (by show (0 : Int) < 2; decide), rfl, _, rfl, ite2 (fun _ => ?_) (fun _ => ?_)⟩
      · exact ⟨_, rfl, kz H2 rv r (.refl _) (s2.sqT hrow) ho⟩
      · refine ⟨_, rfl, _, rfl, _, _, rfl, rfl, ⟨by decide, by decide⟩, ?_⟩
        refine ⟨rv, r, _, rfl, s2.sqT hrow, ho, by omega, fun H3 ob r2 s3 hob ho2 hl2 => ?_⟩
        exact kz H3 ob r2 s3 hob ho2
    refine after2 _ fun H3 ob r2 s3 hob ho2 => ?_
    -- the four
    refine ⟨_, rfl, _, rfl, (by show 2 ≤ sizeLine; decide), fun p1 n1 => ⟨_, rfl, _, rfl, (by show 2 ≤ sizeLine; decide), fun p2 n2 => ⟨_, rfl, _, rfl, (by show 2 ≤ sizeLine; decide), fun p3 n3 => ⟨_, rfl, (by show 2 ≤ sizeLine; decide), fun p4 n4 => ⟨(by show 4 ≤ sizeLine; decide), fun p5 n5 => ?_⟩⟩⟩⟩⟩
    have e1 := Same.new n1 (o := .tup [y, .ref rv])
    have e2 := Same.new n2 (o := .tup [y, .ref ob])
    have e3 := Same.new n3 (o := .tup [u, .ref ob])
    have e4 := Same.new n4 (o := .tup [.non, .ref ob])
    have e5 := Same.new n5 (o := .lst [.ref p1, .ref p2, .ref p3, .ref p4])
    have eA := (((e1.trans e2).trans e3).trans e4).trans e5
    have c1 := (((e2.trans e3).trans e4).trans e5) _ _ (upd_same (H := H3) (a := p1) (o := .tup [y, .ref rv]))
    have c2 := ((e3.trans e4).trans e5) _ _ (upd_same (a := p2) (o := .tup [y, .ref ob]))
    have c3 := (e4.trans e5) _ _ (upd_same (a := p3) (o := .tup [u, .ref ob]))
    have c4 := e5 _ _ (upd_same (a := p4) (o := .tup [.non, .ref ob]))
    refine ⟨p5, rfl, ⟨_, sL upd_same⟩, ?_⟩
    generalize hX : upd (upd (upd (upd (upd H3 p1 (.tup [y, .ref rv])) p2 (.tup [y, .ref ob])) p3 (.tup [u, .ref ob])) p4 (.tup [.non, .ref ob])) p5 (.lst [.ref p1, .ref p2, .ref p3, .ref p4]) = H4 at eA c1 c2 c3 c4 ⊢
    have hL4 : H4 p5 = some (.lst [.ref p1, .ref p2, .ref p3, .ref p4]) := by rw [← hX]; exact upd_same
    have s34 := s3.trans eA
    have s14 := s2.trans s34
    have hf4 := dpS s14 hf
    have ask1 : AskR K H4 y d rv r := ⟨dpS s34 hy, gd, s14.sqT hrow, ho⟩
    have ask2 : AskR K H4 y d ob r2 := ⟨dpS s34 hy, gd, eA.sqT hob, ho2⟩
    have ask3 : AskR K H4 u (datO oq) ob r2 := ⟨dpS s14 hu, gu, eA.sqT hob, ho2⟩
    have ask4 : AskR K H4 .non .none ob r2 := ⟨.non, Gt.of (N := 1) (D := 0) Gk.non (by omega) (by omega), eA.sqT hob, ho2⟩
    have four : ∀ (i : Nat) (x : V), ([V.ref p1, .ref p2, .ref p3, .ref p4] : List V)[i]? = some x → ∃ (p : Addr) (xv : V) (dd : PyData) (qv : Addr) (rr : RowS), x = .ref p ∧ H4 p = some (.tup [xv, .ref qv]) ∧ AskR K H4 xv dd qv rr := by
      intro i x hx
      match i, hx with
      | 0, hx => cases hx; exact ⟨p1, y, d, rv, r, rfl, c1, ask1⟩
      | 1, hx => cases hx; exact ⟨p2, y, d, ob, r2, rfl, c2, ask2⟩
      | 2, hx => cases hx; exact ⟨p3, u, _, ob, r2, rfl, c3, ask3⟩
      | 3, hx => cases hx; exact ⟨p4, .non, .none, ob, r2, rfl, c4, ask4⟩
      | i + 4, hx => simp at hx
    refine for_list (K := K) (a := p5) (xs := [.ref p1, .ref p2, .ref p3, .ref p4]) (fun i σ H' => ∃ q9 q10 q11 q12 q13 : Option V, σ = [some (.ref sa), some (.ref st), some v, some u, some (.ref rv), some (.ref L), some (.int c), some y, some (.ref ob), q9, q10, q11, q12, q13] ∧ Same H4 H')
      ⟨_, _, _, _, _, rfl, .refl _⟩ (fun i σ H' _ ⟨_, _, _, _, _, _, g⟩ => sL (g _ _ hL4)) ?_ ?_
    · rintro i x σ H5 hx ⟨q9, q10, q11, q12, q13, rfl, s5⟩
      obtain ⟨p, xv, dd, qv, rr, rfl, hp, ask⟩ := four i x hx
      refine ⟨p, _, rfl, sT (s5 _ _ hp), rfl, _, _, rfl, _, _, rfl, rfl, ?_⟩
      refine fI _ H5 v xv fm qv dd rr _ _ _ _ _ _ _ _ _ _ _ (dpS s5 hf4) hw (ask.same s5) fun H6 q11 q12 q13 s6 => ⟨_, _, _, _, _, rfl, s5.trans s6⟩
    · rintro σ H5 ⟨q9, q10, q11, q12, q13, rfl, s5⟩
      exact fin H5 _ _ _ _ _ _ _ (s14.trans s5)
  refine ⟨_, (pss_cons (ps_set (i := 1) sc_law.nd rfl (Or.inl rfl) (pe_disp (pps_cons pe_str (pe_slice sl_list (pv 0) po_none (po_some pe_int)) (pps_cons pe_str pe_int pps_nil)) (by rfl) (by rfl) (fun z => by cases z) (by decide)))
    (pss_cons (ps_set (i := 2) sc_law.nd rfl (Or.inl rfl) (pe_callD d__law_form (hr.mono (by decide)) rfl (pa_cons (pv 1) (pa_cons pe_int (pa_cons pe_int pa_nil)))))
    (pss_cons (ps_asg (pe_callD d__law_read (hr.mono (by decide)) rfl (pa_cons (pv 1) (pa_cons (pv 2) pa_nil))) (pg_tup rfl (pgs_cons (pg_name (i := 3) sc_law.nd rfl (Or.inl rfl)) (pgs_cons (pg_name (i := 4) sc_law.nd rfl (Or.inl rfl)) (pgs_cons (pg_name (i := 5) sc_law.nd rfl (Or.inl rfl)) pgs_nil)))))
    (pss_cons (ps_if (PW.pt (pw_or (pt_cmpR op_notB (pe_callD d_is_reading (hr.mono (by decide)) rfl (pa_cons (pv 2) (pa_cons (pv 4) (pa_cons (pv 3) pa_nil)))) pe_bl (nomark _)) (pw_or1 (pt_cmpR (op_neD hr.units) (pe_callD d_leaves_read (hr.mono (by decide)) rfl (pa_cons (pv 2) (pa_cons (pv 3) pa_nil))) (pv 5) (nomark _))))) (pss_one (ps_ret pe_bl)) pss_nil)
    (pss_cons (ps_for PassesOwn.never rfl (pi_list (pe_imp (te' := tCells K) (pe_ifExp (pt_cmpR op_gt (pe_callB call_len_seq (by rfl) b_len PySem.boot_len (pa_cons (pv 0) pa_nil)) pe_int (nomark _)) (pe_slice sl_list (pv 0) po_none (po_some pe_int)) (pe_lst (pa_cons pe_int pa_nil))) (fun σ H Q q => by
        obtain ⟨a, ns, e0, hS, hl, k⟩ := q
        refine ⟨_, e0, a, _, rfl, .inl hS, _, _, rfl, rfl, _, rfl, ite2 (fun _ => ?_) (fun _ => ?_)⟩
        · refine ⟨_, e0, _, rfl, a, _, rfl, hS, fun p np => k _ p (ns.take 8) (.new np) ?_⟩
          rw [upd_same, List.map_take]
          exact congrArg (fun l => some (HO.lst l)) (cut_take _ 8)
        · exact ⟨(by show 1 ≤ sizeLine; decide), fun p np => k _ p [0] (.new np) upd_same⟩))) (pg_name (i := 6) sc_law.nd rfl (Or.inl rfl))
      hB)
    (pss_one (ps_ret pe_bl))))))), ?_⟩
  -- state
  intro st hst
  have s1 : Same H (upd H st (.dK [])) := .new hst
  refine ⟨_, rfl, ?_⟩
  unfold tNoPart
  refine ⟨_, rfl, a, _, rfl, s1.seq hS, fun p hp => ?_⟩
  have e50 : cutV (ns.map V.int) none (some 50) = (ns.take 50).map V.int := by rw [List.map_take]; exact cut_takeL _ 50
  have npst : p ≠ st := fun e => by rw [e, upd_same] at hp; cases hp
  refine ⟨by rw [upd_ne npst.symm, upd_same], stK p 0, rfl, (by show 2 ≤ 15; decide), ?_⟩
  have S2 : StateAt (upd (upd (upd H st (.dK [])) p (.lst (cutV (ns.map V.int) none (some 50)))) st (.dK (mergeK [] (stK p 0)))) st p := ⟨ns.take 50, 0, upd_same, by rw [upd_ne npst, upd_same, e50]⟩
  have s2 : Same H (upd (upd (upd H st (.dK [])) p (.lst (cutV (ns.map V.int) none (some 50)))) st (.dK (mergeK [] (stK p 0)))) := (s1.trans (Same.new hp)).mut hst
  generalize upd (upd (upd H st (.dK [])) p (.lst (cutV (ns.map V.int) none (some 50)))) st (.dK (mergeK [] (stK p 0))) = H2 at S2 s2 ⊢
  -- form
  refine ⟨_, rfl, st, p, 3, rfl, S2, fun H3 v fm b3 S3 hv hw => ?_⟩
  refine ⟨_, rfl, _, rfl, st, p, v, fm, rfl, S3, hv, hw, fun H4 D u rv L oq r ws b4 S4 hD O M => ?_⟩
  refine ⟨D, _, rfl, sT hD, rfl, _, _, rfl, _, _, rfl, _, _, rfl, rfl, ?_⟩
  have hv4 := fmD S3 b4 hv
  have hl125 : r.length ≤ 125 := O.len
  obtain ⟨z1, z2⟩ := lw_sd 3 fm hw
  have z1' : fm.size ≤ 64 := z1
  have gu : Gt (datO oq) := by
    rcases M with ⟨rfl, _, _⟩ | ⟨q, rfl, hq⟩
    · exact Gt.of (N := 1) (D := 0) Gk.non (by omega) (by omega)
    · obtain ⟨h1, h2, h3⟩ := rdg_gr 3 fm q r hw hq (by omega)
      exact Gt.of ⟨h1, h2, h3⟩ (by have : (5 * 3 + 5) * r.length ≤ (5 * 3 + 5) * 125 := Nat.mul_le_mul_left _ hl125; omega) (by omega)
  have isr : IsRd fm r (datO oq) := by
    rcases M with ⟨rfl, h2, h3⟩ | ⟨q, rfl, hq⟩
    · exact .inl ⟨rfl, h2, h3⟩
    · exact .inr ⟨ok_ne q fm r hq, q, rfl, hq⟩
  refine ⟨_, rfl, _, rfl, _, rfl, v, u, rv, fm, r, datO oq, rfl, hv4, O.row, by omega, O.u, gu.sh, gu.nd, fun H5 b s5 hb => ?_⟩
  have eb : b = true := hb.mpr isr
  subst eb
  refine ⟨_, _, rfl, rfl, _, rfl, iteF' (by simp) ?_⟩
  have lvc : (oq = none ∧ u = .non) ∨ ∃ q : Rdg, oq = some q ∧ q.ok fm r ∧ Dp K H5 u q.dat := by
    rcases M with ⟨rfl, _, _⟩ | ⟨q, rfl, hq⟩
    · exact .inl ⟨rfl, dpNone O.u⟩
    · exact .inr ⟨q, rfl, hq, dpS s5 O.u⟩
  refine ⟨_, rfl, _, rfl, v, u, fm, r, oq, rfl, dpS s5 hv4, by omega, by omega, lvc, fun H6 LD ws6 s6 hLD nLD hws6 hl6 => ?_⟩
  have s46 := s5.trans s6
  refine ⟨_, rfl, .list ((lvO fm oq).map plD), .list ((lvO fm oq).map plD), .lst (sL hLD) hws6, .lst (sL (s46 _ _ O.lst)) (dpAllS s46 (noLs_pl _) O.sp), sh_pls _, sh_pls _, _, rfl, ?_⟩
  rw [eqv_self _ (by have := sh_pls (lvO fm oq); unfold SeqAt.shaped at this; rw [Bool.and_eq_true] at this; exact this.1)]
  refine iteF' (by simp) ?_
  have hS3 : SqL K H3 a (ns.map V.int) := sqLB b3 S2 (s2.seq hS)
  have hS4 : SqL K H4 a (ns.map V.int) := sqLB b4 S3 hS3
  have hS6 : SqL K H6 a (ns.map V.int) := s46.seq hS4
  refine ⟨a, ns, rfl, hS6, hlen, fun H7 pc ms s7 hpc => ⟨pc, rfl, ⟨_, sL hpc⟩, ?_⟩⟩
  have s47 := s46.trans s7
  refine for_list (K := K) (a := pc) (xs := ms.map V.int) (fun j σ H' => ∃ o6 o7 o8 o9 o10 o11 o12 o13 : Option V, σ = [some (.ref a), some (.ref st), some v, some u, some (.ref rv), some (.ref L), o6, o7, o8, o9, o10, o11, o12, o13] ∧ Same H7 H') ⟨_, _, _, _, _, _, _, _, rfl, .refl _⟩ (fun j σ H' _ ⟨_, _, _, _, _, _, _, _, _, g⟩ => sL (g _ _ hpc)) ?_ ?_
  · rintro j x σ H8 hx ⟨o6, o7, o8, o9, o10, o11, o12, o13, rfl, s8⟩
    rw [List.getElem?_map] at hx
    obtain ⟨i, _, rfl⟩ := Option.map_eq_some_iff.mp hx
    have s48 := s47.trans s8
    exact fB _ H8 a st v u fm rv L oq r i _ _ _ _ _ _ _ (dpS s48 hv4) hw M (dpS s48 O.u) (s48.sqT O.row) O.ok hl125 fun H9 q7 q8 q9 q10 q11 q12 q13 s9 => ⟨_, _, _, _, _, _, _, _, rfl, s8.trans s9⟩
  · rintro σ H8 ⟨o6, o7, o8, o9, o10, o11, o12, o13, rfl, s8⟩
    exact k _
end
end Sw
set_option Elab.async false
set_option maxRecDepth 100000
set_option maxHeartbeats 8000000
namespace Sw
open PySem L2 PySem.Spec PyProof.Rows
theorem defAt_mk {K : PySem.W.Frag} {h : Heap} {mg : Str → Option Value} {x : Str} {st : Stmt} {ps : List Str} {f : Addr} {od an : Option Addr} {sl : Array (Option Value)} {oc kV dc pm cd ct : Value} (X : K.In h) (G : h.Ns mainGlobals mg)
    (a : PySem.W.nsIn K mainGlobals x = some (some (.ref f))) (l : K.lookup f = some ⟨oc, od, .func (PySem.W.fnOf x x (defArgs st) (defBody st) (defScope st) .none kV dc pm an cd ct), sl⟩) (c : PySem.W.codeIn K cd x = true) (k : PySem.W.keepIn K (.ref f) = true)
    (b : Binds K (PySem.W.fnOf x x (defArgs st) (defBody st) (defScope st) .none kV dc pm an cd ct) ps []) : DefAt K mg x st ps :=
  ⟨f, _, fun_mk (st := st) l c k, PySem.W.mg_of X G a, b⟩
theorem defTab_mk {K : PySem.W.Frag} {h base : Heap} {mg : Str → Option Value} {x : Str} {st : Stmt} {ps : List Str} {f c T : Addr} {od an : Option Addr} {sl : Array (Option Value)} {oc kV dc pm ct : Value} (X : K.In h) (G : h.Ns mainGlobals mg)
    (a : PySem.W.nsIn K mainGlobals x = some (some (.ref f))) (l : K.lookup f = some ⟨oc, od, .func (PySem.W.fnOf x x (defArgs st) (defBody st) (defScope st) .none kV dc pm an (.ref c) ct), sl⟩) (cc : PySem.W.codeIn K (.ref c) x = true) (k : PySem.W.keepIn K (.ref f) = true)
    (b : Binds K (PySem.W.fnOf x x (defArgs st) (defBody st) (defScope st) .none kV dc pm an (.ref c) ct) ps []) (TB : GxR.TabB base mg c T) : DefTab K mg base x st ps T :=
  ⟨f, oc, od, kV, dc, pm, an, c, ct, sl, l, cc, k, PySem.W.mg_of X G a, b, TB⟩
theorem all_mk {l : PySem.W.OpenLaw} {w : World} {K : PySem.W.Frag} {h : Heap} {mg : Str → Option Value} {q : Program} {f1 f2 f3 f4 f5 f6 f7 f8 f9 f10 f11 f12 f13 f14 f15 f16 f17 f18 f19 f20 f21 f22 f23 f24 f25 f26 f27 f28 f29  fa : Addr} {od1 an1 od2 an2 od3 an3 od4 an4 od5 an5 od6 an6 od7 an7 od8 an8 od9 an9 od10 an10 od11 an11 od12 an12 od13 an13 od14 an14 od15 an15 od16 an16 od17 an17 od18 an18 od19 an19 od20 an20 od21 an21 od22 an22 od23 an23 od24 an24 od25 an25 od26 an26 od27 an27 od28 an28 od29 an29  : Option Addr} {sl1 sl2 sl3 sl4 sl5 sl6 sl7 sl8 sl9 sl10 sl11 sl12 sl13 sl14 sl15 sl16 sl17 sl18 sl19 sl20 sl21 sl22 sl23 sl24 sl25 sl26 sl27 sl28 sl29  : Array (Option Value)} {oc1 kV1 dc1 pm1 ct1 cd1 oc2 kV2 dc2 pm2 ct2 cd2 oc3 kV3 dc3 pm3 ct3 cd3 oc4 kV4 dc4 pm4 ct4 cd4 oc5 kV5 dc5 pm5 ct5 cd5 oc6 kV6 dc6 pm6 ct6 cd6 oc7 kV7 dc7 pm7 ct7 cd7 oc8 kV8 dc8 pm8 ct8 cd8 oc9 kV9 dc9 pm9 ct9 cd9 oc10 kV10 dc10 pm10 ct10 cd10 oc11 kV11 dc11 pm11 ct11 cd11 oc12 kV12 dc12 pm12 ct12 cd12 oc13 kV13 dc13 pm13 ct13 cd13 oc14 kV14 dc14 pm14 ct14 cd14 oc15 kV15 dc15 pm15 ct15 cd15 oc16 kV16 dc16 pm16 ct16 cd16 oc17 kV17 dc17 pm17 ct17 cd17 oc18 kV18 dc18 pm18 ct18 cd18 oc19 kV19 dc19 pm19 ct19 cd19 oc20 kV20 dc20 pm20 ct20 cd20 oc21 kV21 dc21 pm21 ct21 cd21 oc22 kV22 dc22 pm22 ct22 cd22 oc23 kV23 dc23 pm23 ct23 cd23 oc24 kV24 dc24 pm24 ct24 cd24 oc25 kV25 dc25 pm25 ct25 cd25 oc26 kV26 dc26 pm26 ct26 cd26 oc27 kV27 dc27 pm27 ct27 cd27 oc28 kV28 dc28 pm28 ct28 cd28 oc29 kV29 dc29 pm29 ct29 cd29  : Value} (X : K.In h) (G : h.Ns mainGlobals mg) (hfa : mg "law" = some (.ref fa)) (own : ∀ x c P, ((recsOf q).any fun e => e.name == x) = true → OwnT K h x c P)
    (a1 : PySem.W.nsIn K mainGlobals "parts_of" = some (some (.ref f1))) (l1 : K.lookup f1 = some ⟨oc1, od1, .func (PySem.W.fnOf "parts_of" "parts_of" (defArgs s_parts_of) (defBody s_parts_of) (defScope s_parts_of) .none kV1 dc1 pm1 an1 cd1 ct1), sl1⟩) (d1 : PySem.W.codeIn K cd1 "parts_of" = true) (k1 : PySem.W.keepIn K (.ref f1) = true)
    (a2 : PySem.W.nsIn K mainGlobals "laid" = some (some (.ref f2))) (l2 : K.lookup f2 = some ⟨oc2, od2, .func (PySem.W.fnOf "laid" "laid" (defArgs s_laid) (defBody s_laid) (defScope s_laid) .none kV2 dc2 pm2 an2 cd2 ct2), sl2⟩) (d2 : PySem.W.codeIn K cd2 "laid" = true) (k2 : PySem.W.keepIn K (.ref f2) = true)
    (a3 : PySem.W.nsIn K mainGlobals "emptiness" = some (some (.ref f3))) (l3 : K.lookup f3 = some ⟨oc3, od3, .func (PySem.W.fnOf "emptiness" "emptiness" (defArgs s_emptiness) (defBody s_emptiness) (defScope s_emptiness) .none kV3 dc3 pm3 an3 cd3 ct3), sl3⟩) (d3 : PySem.W.codeIn K cd3 "emptiness" = true) (k3 : PySem.W.keepIn K (.ref f3) = true)
    (a4 : PySem.W.nsIn K mainGlobals "_may_be_empty" = some (some (.ref f4))) (l4 : K.lookup f4 = some ⟨oc4, od4, .func (PySem.W.fnOf "_may_be_empty" "_may_be_empty" (defArgs s_may_be_empty) (defBody s_may_be_empty) (defScope s_may_be_empty) .none kV4 dc4 pm4 an4 cd4 ct4), sl4⟩) (d4 : PySem.W.codeIn K cd4 "_may_be_empty" = true) (k4 : PySem.W.keepIn K (.ref f4) = true)
    (a5 : PySem.W.nsIn K mainGlobals "fewest_rounds" = some (some (.ref f5))) (l5 : K.lookup f5 = some ⟨oc5, od5, .func (PySem.W.fnOf "fewest_rounds" "fewest_rounds" (defArgs s_fewest_rounds) (defBody s_fewest_rounds) (defScope s_fewest_rounds) .none kV5 dc5 pm5 an5 cd5 ct5), sl5⟩) (d5 : PySem.W.codeIn K cd5 "fewest_rounds" = true) (k5 : PySem.W.keepIn K (.ref f5) = true)
    (a6 : PySem.W.nsIn K mainGlobals "is_whole" = some (some (.ref f6))) (l6 : K.lookup f6 = some ⟨oc6, od6, .func (PySem.W.fnOf "is_whole" "is_whole" (defArgs s_is_whole) (defBody s_is_whole) (defScope s_is_whole) .none kV6 dc6 pm6 an6 cd6 ct6), sl6⟩) (d6 : PySem.W.codeIn K cd6 "is_whole" = true) (k6 : PySem.W.keepIn K (.ref f6) = true)
    (a7 : PySem.W.nsIn K mainGlobals "may_nothing" = some (some (.ref f7))) (l7 : K.lookup f7 = some ⟨oc7, od7, .func (PySem.W.fnOf "may_nothing" "may_nothing" (defArgs s_may_nothing) (defBody s_may_nothing) (defScope s_may_nothing) .none kV7 dc7 pm7 an7 cd7 ct7), sl7⟩) (d7 : PySem.W.codeIn K cd7 "may_nothing" = true) (k7 : PySem.W.keepIn K (.ref f7) = true)
    (a8 : PySem.W.nsIn K mainGlobals "is_reading" = some (some (.ref f8))) (l8 : K.lookup f8 = some ⟨oc8, od8, .func (PySem.W.fnOf "is_reading" "is_reading" (defArgs s_is_reading) (defBody s_is_reading) (defScope s_is_reading) .none kV8 dc8 pm8 an8 cd8 ct8), sl8⟩) (d8 : PySem.W.codeIn K cd8 "is_reading" = true) (k8 : PySem.W.keepIn K (.ref f8) = true)
    (a9 : PySem.W.nsIn K mainGlobals "_fits" = some (some (.ref f9))) (l9 : K.lookup f9 = some ⟨oc9, od9, .func (PySem.W.fnOf "_fits" "_fits" (defArgs s_fits) (defBody s_fits) (defScope s_fits) .none kV9 dc9 pm9 an9 cd9 ct9), sl9⟩) (d9 : PySem.W.codeIn K cd9 "_fits" = true) (k9 : PySem.W.keepIn K (.ref f9) = true)
    (a10 : PySem.W.nsIn K mainGlobals "_are_pairs" = some (some (.ref f10))) (l10 : K.lookup f10 = some ⟨oc10, od10, .func (PySem.W.fnOf "_are_pairs" "_are_pairs" (defArgs s_are_pairs) (defBody s_are_pairs) (defScope s_are_pairs) .none kV10 dc10 pm10 an10 cd10 ct10), sl10⟩) (d10 : PySem.W.codeIn K cd10 "_are_pairs" = true) (k10 : PySem.W.keepIn K (.ref f10) = true)
    (a11 : PySem.W.nsIn K mainGlobals "_is_number" = some (some (.ref f11))) (l11 : K.lookup f11 = some ⟨oc11, od11, .func (PySem.W.fnOf "_is_number" "_is_number" (defArgs s_is_number) (defBody s_is_number) (defScope s_is_number) .none kV11 dc11 pm11 an11 cd11 ct11), sl11⟩) (d11 : PySem.W.codeIn K cd11 "_is_number" = true) (k11 : PySem.W.keepIn K (.ref f11) = true)
    (a12 : PySem.W.nsIn K mainGlobals "_inner" = some (some (.ref f12))) (l12 : K.lookup f12 = some ⟨oc12, od12, .func (PySem.W.fnOf "_inner" "_inner" (defArgs s_inner) (defBody s_inner) (defScope s_inner) .none kV12 dc12 pm12 an12 cd12 ct12), sl12⟩) (d12 : PySem.W.codeIn K cd12 "_inner" = true) (k12 : PySem.W.keepIn K (.ref f12) = true)
    (a13 : PySem.W.nsIn K mainGlobals "leaves_read" = some (some (.ref f13))) (l13 : K.lookup f13 = some ⟨oc13, od13, .func (PySem.W.fnOf "leaves_read" "leaves_read" (defArgs s_leaves_read) (defBody s_leaves_read) (defScope s_leaves_read) .none kV13 dc13 pm13 an13 cd13 ct13), sl13⟩) (d13 : PySem.W.codeIn K cd13 "leaves_read" = true) (k13 : PySem.W.keepIn K (.ref f13) = true)
    (a14 : PySem.W.nsIn K mainGlobals "_law_cell" = some (some (.ref f14))) (l14 : K.lookup f14 = some ⟨oc14, od14, .func (PySem.W.fnOf "_law_cell" "_law_cell" (defArgs s_law_cell) (defBody s_law_cell) (defScope s_law_cell) .none kV14 dc14 pm14 an14 cd14 ct14), sl14⟩) (d14 : PySem.W.codeIn K cd14 "_law_cell" = true) (k14 : PySem.W.keepIn K (.ref f14) = true)
    (a15 : PySem.W.nsIn K mainGlobals "_law_sign" = some (some (.ref f15))) (l15 : K.lookup f15 = some ⟨oc15, od15, .func (PySem.W.fnOf "_law_sign" "_law_sign" (defArgs s_law_sign) (defBody s_law_sign) (defScope s_law_sign) .none kV15 dc15 pm15 an15 cd15 ct15), sl15⟩) (d15 : PySem.W.codeIn K cd15 "_law_sign" = true) (k15 : PySem.W.keepIn K (.ref f15) = true)
    (a16 : PySem.W.nsIn K mainGlobals "_law_times" = some (some (.ref f16))) (l16 : K.lookup f16 = some ⟨oc16, od16, .func (PySem.W.fnOf "_law_times" "_law_times" (defArgs s_law_times) (defBody s_law_times) (defScope s_law_times) .none kV16 dc16 pm16 an16 cd16 ct16), sl16⟩) (d16 : PySem.W.codeIn K cd16 "_law_times" = true) (k16 : PySem.W.keepIn K (.ref f16) = true)
    (a17 : PySem.W.nsIn K mainGlobals "_law_form" = some (some (.ref f17))) (l17 : K.lookup f17 = some ⟨oc17, od17, .func (PySem.W.fnOf "_law_form" "_law_form" (defArgs s_law_form) (defBody s_law_form) (defScope s_law_form) .none kV17 dc17 pm17 an17 cd17 ct17), sl17⟩) (d17 : PySem.W.codeIn K cd17 "_law_form" = true) (k17 : PySem.W.keepIn K (.ref f17) = true)
    (a18 : PySem.W.nsIn K mainGlobals "_law_nothing" = some (some (.ref f18))) (l18 : K.lookup f18 = some ⟨oc18, od18, .func (PySem.W.fnOf "_law_nothing" "_law_nothing" (defArgs s_law_nothing) (defBody s_law_nothing) (defScope s_law_nothing) .none kV18 dc18 pm18 an18 cd18 ct18), sl18⟩) (d18 : PySem.W.codeIn K cd18 "_law_nothing" = true) (k18 : PySem.W.keepIn K (.ref f18) = true)
    (a19 : PySem.W.nsIn K mainGlobals "_law_bent_row" = some (some (.ref f19))) (l19 : K.lookup f19 = some ⟨oc19, od19, .func (PySem.W.fnOf "_law_bent_row" "_law_bent_row" (defArgs s_law_bent_row) (defBody s_law_bent_row) (defScope s_law_bent_row) .none kV19 dc19 pm19 an19 cd19 ct19), sl19⟩) (d19 : PySem.W.codeIn K cd19 "_law_bent_row" = true) (k19 : PySem.W.keepIn K (.ref f19) = true)
    (a20 : PySem.W.nsIn K mainGlobals "_law_read" = some (some (.ref f20))) (l20 : K.lookup f20 = some ⟨oc20, od20, .func (PySem.W.fnOf "_law_read" "_law_read" (defArgs s_law_read) (defBody s_law_read) (defScope s_law_read) .none kV20 dc20 pm20 an20 cd20 ct20), sl20⟩) (d20 : PySem.W.codeIn K cd20 "_law_read" = true) (k20 : PySem.W.keepIn K (.ref f20) = true)
    (a21 : PySem.W.nsIn K mainGlobals "_law_often" = some (some (.ref f21))) (l21 : K.lookup f21 = some ⟨oc21, od21, .func (PySem.W.fnOf "_law_often" "_law_often" (defArgs s_law_often) (defBody s_law_often) (defScope s_law_often) .none kV21 dc21 pm21 an21 cd21 ct21), sl21⟩) (d21 : PySem.W.codeIn K cd21 "_law_often" = true) (k21 : PySem.W.keepIn K (.ref f21) = true)
    (a22 : PySem.W.nsIn K mainGlobals "_law_least" = some (some (.ref f22))) (l22 : K.lookup f22 = some ⟨oc22, od22, .func (PySem.W.fnOf "_law_least" "_law_least" (defArgs s_law_least) (defBody s_law_least) (defScope s_law_least) .none kV22 dc22 pm22 an22 cd22 ct22), sl22⟩) (d22 : PySem.W.codeIn K cd22 "_law_least" = true) (k22 : PySem.W.keepIn K (.ref f22) = true)
    (a23 : PySem.W.nsIn K mainGlobals "_law_odd" = some (some (.ref f23))) (l23 : K.lookup f23 = some ⟨oc23, od23, .func (PySem.W.fnOf "_law_odd" "_law_odd" (defArgs s_law_odd) (defBody s_law_odd) (defScope s_law_odd) .none kV23 dc23 pm23 an23 cd23 ct23), sl23⟩) (d23 : PySem.W.codeIn K cd23 "_law_odd" = true) (k23 : PySem.W.keepIn K (.ref f23) = true)
    (a24 : PySem.W.nsIn K mainGlobals "_law_bent" = some (some (.ref f24))) (l24 : K.lookup f24 = some ⟨oc24, od24, .func (PySem.W.fnOf "_law_bent" "_law_bent" (defArgs s_law_bent) (defBody s_law_bent) (defScope s_law_bent) .none kV24 dc24 pm24 an24 cd24 ct24), sl24⟩) (d24 : PySem.W.codeIn K cd24 "_law_bent" = true) (k24 : PySem.W.keepIn K (.ref f24) = true)
    (a25 : PySem.W.nsIn K mainGlobals "_law_taken" = some (some (.ref f25))) (l25 : K.lookup f25 = some ⟨oc25, od25, .func (PySem.W.fnOf "_law_taken" "_law_taken" (defArgs s_law_taken) (defBody s_law_taken) (defScope s_law_taken) .none kV25 dc25 pm25 an25 cd25 ct25), sl25⟩) (d25 : PySem.W.codeIn K cd25 "_law_taken" = true) (k25 : PySem.W.keepIn K (.ref f25) = true)
    (a26 : PySem.W.nsIn K mainGlobals "_law_row_taken" = some (some (.ref f26))) (l26 : K.lookup f26 = some ⟨oc26, od26, .func (PySem.W.fnOf "_law_row_taken" "_law_row_taken" (defArgs s_law_row_taken) (defBody s_law_row_taken) (defScope s_law_row_taken) .none kV26 dc26 pm26 an26 cd26 ct26), sl26⟩) (d26 : PySem.W.codeIn K cd26 "_law_row_taken" = true) (k26 : PySem.W.keepIn K (.ref f26) = true)
    (a27 : PySem.W.nsIn K mainGlobals "_law_put" = some (some (.ref f27))) (l27 : K.lookup f27 = some ⟨oc27, od27, .func (PySem.W.fnOf "_law_put" "_law_put" (defArgs s_law_put) (defBody s_law_put) (defScope s_law_put) .none kV27 dc27 pm27 an27 cd27 ct27), sl27⟩) (d27 : PySem.W.codeIn K cd27 "_law_put" = true) (k27 : PySem.W.keepIn K (.ref f27) = true)
    (a28 : PySem.W.nsIn K mainGlobals "_law_due" = some (some (.ref f28))) (l28 : K.lookup f28 = some ⟨oc28, od28, .func (PySem.W.fnOf "_law_due" "_law_due" (defArgs s_law_due) (defBody s_law_due) (defScope s_law_due) .none kV28 dc28 pm28 an28 cd28 ct28), sl28⟩) (d28 : PySem.W.codeIn K cd28 "_law_due" = true) (k28 : PySem.W.keepIn K (.ref f28) = true)
    (a29 : PySem.W.nsIn K mainGlobals "law" = some (some (.ref f29))) (l29 : K.lookup f29 = some ⟨oc29, od29, .func (PySem.W.fnOf "law" "law" (defArgs s_law) (defBody s_law) (defScope s_law) .none kV29 dc29 pm29 an29 cd29 ct29), sl29⟩) (d29 : PySem.W.codeIn K cd29 "law" = true) (k29 : PySem.W.keepIn K (.ref f29) = true)
    (z_len : PySem.W.nsIn K mainGlobals "len" = some none)
    (z_range : PySem.W.nsIn K mainGlobals "range" = some none)
    (z_reversed : PySem.W.nsIn K mainGlobals "reversed" = some none)
    (z_all : PySem.W.nsIn K mainGlobals "all" = some none)
    (z_any : PySem.W.nsIn K mainGlobals "any" = some none)
    (z_max : PySem.W.nsIn K mainGlobals "max" = some none)
    (z_min : PySem.W.nsIn K mainGlobals "min" = some none)
    (z_tuple : PySem.W.nsIn K mainGlobals "tuple" = some none)
    (z_int : PySem.W.nsIn K mainGlobals "int" = some none)
    (z_bool : PySem.W.nsIn K mainGlobals "bool" = some none)
    (z_list : PySem.W.nsIn K mainGlobals "list" = some none)
    (z_repr : PySem.W.nsIn K mainGlobals "repr" = some none)
    (z_isinstance : PySem.W.nsIn K mainGlobals "isinstance" = some none)
    (z_str : PySem.W.nsIn K mainGlobals "str" = some none)
    : ∃ (fd : FuncData) (cs : List (Addr × Addr)) (sp : Sp), (∀ p ∈ cs, h.get? p.2 = some { cls := .none, data := .fields #[] }) ∧ (∀ p ∈ cs, K.lookup p.2 = none) ∧ (∀ p ∈ cs, PySem.W.CodeHd h p.1 p.2) ∧ (∀ (s : Shared) (u : Value), BindsTo s fd ⟨[u], []⟩ [("script", u)]) ∧
      (∀ (H : Hp) (a : Addr) (ns : List Int), ns.length ≤ 63 → (∀ z ∈ ns, Builtin.Int.intBits z ≤ 1048576) → Tabs cs H → SqL K H a (ns.map V.int) → sp [.ref a] H (fun v H' => v = .bl true ∧ Tabs cs H') fun _ _ _ => False) ∧
      ∀ base : Heap, K.In base → base.Ns mainGlobals mg → (∀ p ∈ cs, GxR.TabB base mg p.1 p.2) → FnG l.prog w K mg base 18 fa fd ["script"] sp := by
  have e := hfa.symm.trans (PySem.W.mg_of X G a29)
  cases e
  have b_len := PySem.W.mg_none_of X G z_len
  have b_range := PySem.W.mg_none_of X G z_range
  have b_reversed := PySem.W.mg_none_of X G z_reversed
  have b_all := PySem.W.mg_none_of X G z_all
  have b_any := PySem.W.mg_none_of X G z_any
  have b_max := PySem.W.mg_none_of X G z_max
  have b_min := PySem.W.mg_none_of X G z_min
  have b_tuple := PySem.W.mg_none_of X G z_tuple
  have b_int := PySem.W.mg_none_of X G z_int
  have b_bool := PySem.W.mg_none_of X G z_bool
  have b_list := PySem.W.mg_none_of X G z_list
  have b_repr := PySem.W.mg_none_of X G z_repr
  have b_isinstance := PySem.W.mg_none_of X G z_isinstance
  have b_str := PySem.W.mg_none_of X G z_str
  have D1 : DefAt K mg "parts_of" s_parts_of ["form"] := defAt_mk X G a1 l1 d1 k1 ((fun_mk (st := s_parts_of) l1 d1 k1).binds (ps := ["form"]) fun _ _ _ _ _ _ us hl => match us, hl with | [_], _ => rfl)
  have D2 : DefAt K mg "laid" s_laid ["form"] := defAt_mk X G a2 l2 d2 k2 ((fun_mk (st := s_laid) l2 d2 k2).binds (ps := ["form"]) fun _ _ _ _ _ _ us hl => match us, hl with | [_], _ => rfl)
  have D3 : DefAt K mg "emptiness" s_emptiness ["pieces"] := defAt_mk X G a3 l3 d3 k3 ((fun_mk (st := s_emptiness) l3 d3 k3).binds (ps := ["pieces"]) fun _ _ _ _ _ _ us hl => match us, hl with | [_], _ => rfl)
  have D4 : DefAt K mg "_may_be_empty" s_may_be_empty ["piece", "parts"] := defAt_mk X G a4 l4 d4 k4 ((fun_mk (st := s_may_be_empty) l4 d4 k4).binds (ps := ["piece", "parts"]) fun _ _ _ _ _ _ us hl => match us, hl with | [_, _], _ => rfl)
  have D5 : DefAt K mg "fewest_rounds" s_fewest_rounds ["low", "part_empty"] := defAt_mk X G a5 l5 d5 k5 ((fun_mk (st := s_fewest_rounds) l5 d5 k5).binds (ps := ["low", "part_empty"]) fun _ _ _ _ _ _ us hl => match us, hl with | [_, _], _ => rfl)
  have D6 : DefAt K mg "is_whole" s_is_whole ["thing"] := defAt_mk X G a6 l6 d6 k6 ((fun_mk (st := s_is_whole) l6 d6 k6).binds (ps := ["thing"]) fun _ _ _ _ _ _ us hl => match us, hl with | [_], _ => rfl)
  have D7 : DefAt K mg "may_nothing" s_may_nothing ["form"] := defAt_mk X G a7 l7 d7 k7 ((fun_mk (st := s_may_nothing) l7 d7 k7).binds (ps := ["form"]) fun _ _ _ _ _ _ us hl => match us, hl with | [_], _ => rfl)
  have D8 : DefAt K mg "is_reading" s_is_reading ["form", "row", "thing"] := defAt_mk X G a8 l8 d8 k8 ((fun_mk (st := s_is_reading) l8 d8 k8).binds (ps := ["form", "row", "thing"]) fun _ _ _ _ _ _ us hl => match us, hl with | [_, _, _], _ => rfl)
  have D9 : DefAt K mg "_fits" s_fits ["piece", "empty", "thing"] := defAt_mk X G a9 l9 d9 k9 ((fun_mk (st := s_fits) l9 d9 k9).binds (ps := ["piece", "empty", "thing"]) fun _ _ _ _ _ _ us hl => match us, hl with | [_, _, _], _ => rfl)
  have D10 : DefAt K mg "_are_pairs" s_are_pairs ["empty", "some"] := defAt_mk X G a10 l10 d10 k10 ((fun_mk (st := s_are_pairs) l10 d10 k10).binds (ps := ["empty", "some"]) fun _ _ _ _ _ _ us hl => match us, hl with | [_, _], _ => rfl)
  have D11 : DefAt K mg "_is_number" s_is_number ["thing", "many"] := defAt_mk X G a11 l11 d11 k11 ((fun_mk (st := s_is_number) l11 d11 k11).binds (ps := ["thing", "many"]) fun _ _ _ _ _ _ us hl => match us, hl with | [_, _], _ => rfl)
  have D12 : DefAt K mg "_inner" s_inner ["reading"] := defAt_mk X G a12 l12 d12 k12 ((fun_mk (st := s_inner) l12 d12 k12).binds (ps := ["reading"]) fun _ _ _ _ _ _ us hl => match us, hl with | [_], _ => rfl)
  have D13 : DefAt K mg "leaves_read" s_leaves_read ["form", "reading"] := defAt_mk X G a13 l13 d13 k13 ((fun_mk (st := s_leaves_read) l13 d13 k13).binds (ps := ["form", "reading"]) fun _ _ _ _ _ _ us hl => match us, hl with | [_, _], _ => rfl)
  have D14 : DefAt K mg "_law_cell" s_law_cell ["state"] := defAt_mk X G a14 l14 d14 k14 ((fun_mk (st := s_law_cell) l14 d14 k14).binds (ps := ["state"]) fun _ _ _ _ _ _ us hl => match us, hl with | [_], _ => rfl)
  have D15 : DefAt K mg "_law_sign" s_law_sign ["cell"] := defAt_mk X G a15 l15 d15 k15 ((fun_mk (st := s_law_sign) l15 d15 k15).binds (ps := ["cell"]) fun _ _ _ _ _ _ us hl => match us, hl with | [_], _ => rfl)
  have D16 : DefAt K mg "_law_times" s_law_times ["cell"] := defAt_mk X G a16 l16 d16 k16 ((fun_mk (st := s_law_times) l16 d16 k16).binds (ps := ["cell"]) fun _ _ _ _ _ _ us hl => match us, hl with | [_], _ => rfl)
  have D17 : DefAt K mg "_law_form" s_law_form ["state", "left", "times"] := defAt_mk X G a17 l17 d17 k17 ((fun_mk (st := s_law_form) l17 d17 k17).binds (ps := ["state", "left", "times"]) fun _ _ _ _ _ _ us hl => match us, hl with | [_, _, _], _ => rfl)
  have D18 : DefAt K mg "_law_nothing" s_law_nothing ["form"] := defAt_mk X G a18 l18 d18 k18 ((fun_mk (st := s_law_nothing) l18 d18 k18).binds (ps := ["form"]) fun _ _ _ _ _ _ us hl => match us, hl with | [_], _ => rfl)
  have D19 : DefAt K mg "_law_bent_row" s_law_bent_row ["row", "cell"] := defAt_mk X G a19 l19 d19 k19 ((fun_mk (st := s_law_bent_row) l19 d19 k19).binds (ps := ["row", "cell"]) fun _ _ _ _ _ _ us hl => match us, hl with | [_, _], _ => rfl)
  have D20 : DefAt K mg "_law_read" s_law_read ["state", "form"] := defAt_mk X G a20 l20 d20 k20 ((fun_mk (st := s_law_read) l20 d20 k20).binds (ps := ["state", "form"]) fun _ _ _ _ _ _ us hl => match us, hl with | [_, _], _ => rfl)
  have D21 : DefAt K mg "_law_often" s_law_often ["form", "cell"] := defAt_mk X G a21 l21 d21 k21 ((fun_mk (st := s_law_often) l21 d21 k21).binds (ps := ["form", "cell"]) fun _ _ _ _ _ _ us hl => match us, hl with | [_, _], _ => rfl)
  have D22 : DefAt K mg "_law_least" s_law_least ["form"] := defAt_mk X G a22 l22 d22 k22 ((fun_mk (st := s_law_least) l22 d22 k22).binds (ps := ["form"]) fun _ _ _ _ _ _ us hl => match us, hl with | [_], _ => rfl)
  have D23 : DefAt K mg "_law_odd" s_law_odd ["thing", "cell"] := defAt_mk X G a23 l23 d23 k23 ((fun_mk (st := s_law_odd) l23 d23 k23).binds (ps := ["thing", "cell"]) fun _ _ _ _ _ _ us hl => match us, hl with | [_, _], _ => rfl)
  have D24 : DefAt K mg "_law_bent" s_law_bent ["thing", "cell"] := defAt_mk X G a24 l24 d24 k24 ((fun_mk (st := s_law_bent) l24 d24 k24).binds (ps := ["thing", "cell"]) fun _ _ _ _ _ _ us hl => match us, hl with | [_, _], _ => rfl)
  have D25 : DefAt K mg "_law_taken" s_law_taken ["form", "thing"] := defAt_mk X G a25 l25 d25 k25 ((fun_mk (st := s_law_taken) l25 d25 k25).binds (ps := ["form", "thing"]) fun _ _ _ _ _ _ us hl => match us, hl with | [_, _], _ => rfl)
  have D26 : DefAt K mg "_law_row_taken" s_law_row_taken ["parts", "pairs"] := defAt_mk X G a26 l26 d26 k26 ((fun_mk (st := s_law_row_taken) l26 d26 k26).binds (ps := ["parts", "pairs"]) fun _ _ _ _ _ _ us hl => match us, hl with | [_, _], _ => rfl)
  have D27 : DefAt K mg "_law_put" s_law_put ["rows"] := defAt_mk X G a27 l27 d27 k27 ((fun_mk (st := s_law_put) l27 d27 k27).binds (ps := ["rows"]) fun _ _ _ _ _ _ us hl => match us, hl with | [_], _ => rfl)
  have D28 : DefAt K mg "_law_due" s_law_due ["form", "row", "thing"] := defAt_mk X G a28 l28 d28 k28 ((fun_mk (st := s_law_due) l28 d28 k28).binds (ps := ["form", "row", "thing"]) fun _ _ _ _ _ _ us hl => match us, hl with | [_, _, _], _ => rfl)
  refine ⟨PySem.W.fnOf "law" "law" (defArgs s_law) (defBody s_law) (defScope s_law) .none kV29 dc29 pm29 an29 cd29 ct29, ([] : List (Addr × Addr)), spLaw K , ?_, ?_, ?_, fun s v => .of_eq rfl, ?_, fun base _ _ TB => ?_⟩
  · exact fun p hp => by cases hp
  · exact fun p hp => by cases hp
  · exact fun p hp => by cases hp
  · intro H a ns hl _ hT hS
    exact ⟨a, ns, rfl, hS, hl, fun H' => ⟨rfl, fun p hp => by cases hp⟩⟩
  have o_parts := ok_parts_of (P := l.prog) (w := w) (base := base) D1
  have o_laid := ok_laid D2 o_parts b_len
  have o_maybe := ok_may_be_empty (P := l.prog) (w := w) (base := base) D4 b_all b_any
  have o_empt := ok_emptiness D3 o_maybe b_len b_range b_reversed
  have o_few := ok_fewest_rounds (P := l.prog) (w := w) (base := base) D5 b_max
  have o_inner := ok_inner (P := l.prog) (w := w) (base := base) D12 b_list
  have o_innerR := ok_innerR (P := l.prog) (w := w) (base := base) D12 b_list
  have o_mayn := ok_may_nothing D7 o_laid o_empt
  have o_whole := ok_is_whole (P := l.prog) (w := w) (base := base) D6 b_isinstance b_int b_bool
  have o_number := ok_is_number D11 o_whole
  have o_pairs := ok_are_pairs D10 o_number b_all b_isinstance b_len b_tuple
  have o_fits := ok_fits D9 o_pairs o_number o_few b_isinstance b_len b_tuple
  have o_is := ok_is_reading D8 o_fits o_inner o_laid o_empt o_mayn b_len
  have o_lr := ok_leaves_read D13 o_innerR o_parts
  have o_cell := ok_law_cell (P := l.prog) (w := w) (base := base) D14 b_len
  have o_sign := ok_law_sign (P := l.prog) (w := w) (base := base) D15
  have o_times := ok_law_times (P := l.prog) (w := w) (base := base) D16 b_max
  have o_form := ok_law_form D17 o_cell o_sign o_times b_max b_range b_int b_tuple 3
  have o_noth := ok_law_nothing (P := l.prog) (w := w) (base := base) D18 b_len 5
  have o_bent_row := ok_law_bent_row (P := l.prog) (w := w) (base := base) D19 b_len b_range b_tuple
  have o_often := ok_law_often (P := l.prog) (w := w) (base := base) D21 b_min
  have o_read := ok_law_read D20 D22 o_cell o_noth o_often b_len b_range 3 (by decide)
  have o_odd := ok_law_odd (P := l.prog) (w := w) (base := base) D23 b_isinstance b_len b_list b_str b_tuple
  have o_bent0 := ok_law_bent0 D24 o_odd
  have o_bent1 := ok_law_bentS 0 (by decide) D24 o_odd o_bent0 b_len
  have o_bent2 := ok_law_bentS 1 (by decide) D24 o_odd o_bent1 b_len
  have o_bent3 := ok_law_bentS 2 (by decide) D24 o_odd o_bent2 b_len
  have o_put := ok_law_put (P := l.prog) (w := w) (base := base) D27
  have o_taken := ok_law_taken D25 D26 o_noth o_put b_isinstance b_len b_tuple b_bool b_int b_str 5 (by decide)
  have o_due := ok_law_due D28 o_taken o_noth
  exact ok_law (fun_mk (st := s_law) l29 d29 k29) o_form o_read o_is o_lr o_odd o_bent3 o_bent_row o_due b_len b_repr b_isinstance b_bool
end Sw
set_option Elab.async false
open PySem PySem.W PyProof.Rows
set_option maxRecDepth 100000 in
set_option maxHeartbeats 0 in
theorem PySem.Challenge.cw_soleway_k10_is_it_a_reading_holds : PySem.Challenge.rw_soleway_k10_is_it_a_reading.Holds := by
  w_on; o_law; k_head; (case hw => w_witness2)
  k_fill
  refine Sw.walk_ofG (l := PySem.Challenge.rw_soleway_k10_is_it_a_reading) (n := 63) (k := 18) (x := "script") rfl (by decide) rfl ⟨rfl, by decide, by decide⟩ (fun w h Y => PySem.W.kIn_of Y) ?F
  case F =>
    intro w mg fa h KX G hmg own
    refine' Sw.all_mk KX G hmg own ?a1 ?l1 ?d1 ?k1 ?a2 ?l2 ?d2 ?k2 ?a3 ?l3 ?d3 ?k3 ?a4 ?l4 ?d4 ?k4 ?a5 ?l5 ?d5 ?k5 ?a6 ?l6 ?d6 ?k6 ?a7 ?l7 ?d7 ?k7 ?a8 ?l8 ?d8 ?k8 ?a9 ?l9 ?d9 ?k9 ?a10 ?l10 ?d10 ?k10 ?a11 ?l11 ?d11 ?k11 ?a12 ?l12 ?d12 ?k12 ?a13 ?l13 ?d13 ?k13 ?a14 ?l14 ?d14 ?k14 ?a15 ?l15 ?d15 ?k15 ?a16 ?l16 ?d16 ?k16 ?a17 ?l17 ?d17 ?k17 ?a18 ?l18 ?d18 ?k18 ?a19 ?l19 ?d19 ?k19 ?a20 ?l20 ?d20 ?k20 ?a21 ?l21 ?d21 ?k21 ?a22 ?l22 ?d22 ?k22 ?a23 ?l23 ?d23 ?k23 ?a24 ?l24 ?d24 ?k24 ?a25 ?l25 ?d25 ?k25 ?a26 ?l26 ?d26 ?k26 ?a27 ?l27 ?d27 ?k27 ?a28 ?l28 ?d28 ?k28 ?a29 ?l29 ?d29 ?k29 ?z_len ?z_range ?z_reversed ?z_all ?z_any ?z_max ?z_min ?z_tuple ?z_int ?z_bool ?z_list ?z_repr ?z_isinstance ?z_str
    (case a1 => k_is)
    (case l1 => k_is)
    (case d1 => k_is)
    (case k1 => k_is)
    (case a2 => k_is)
    (case l2 => k_is)
    (case d2 => k_is)
    (case k2 => k_is)
    (case a3 => k_is)
    (case l3 => k_is)
    (case d3 => k_is)
    (case k3 => k_is)
    (case a4 => k_is)
    (case l4 => k_is)
    (case d4 => k_is)
    (case k4 => k_is)
    (case a5 => k_is)
    (case l5 => k_is)
    (case d5 => k_is)
    (case k5 => k_is)
    (case a6 => k_is)
    (case l6 => k_is)
    (case d6 => k_is)
    (case k6 => k_is)
    (case a7 => k_is)
    (case l7 => k_is)
    (case d7 => k_is)
    (case k7 => k_is)
    (case a8 => k_is)
    (case l8 => k_is)
    (case d8 => k_is)
    (case k8 => k_is)
    (case a9 => k_is)
    (case l9 => k_is)
    (case d9 => k_is)
    (case k9 => k_is)
    (case a10 => k_is)
    (case l10 => k_is)
    (case d10 => k_is)
    (case k10 => k_is)
    (case a11 => k_is)
    (case l11 => k_is)
    (case d11 => k_is)
    (case k11 => k_is)
    (case a12 => k_is)
    (case l12 => k_is)
    (case d12 => k_is)
    (case k12 => k_is)
    (case a13 => k_is)
    (case l13 => k_is)
    (case d13 => k_is)
    (case k13 => k_is)
    (case a14 => k_is)
    (case l14 => k_is)
    (case d14 => k_is)
    (case k14 => k_is)
    (case a15 => k_is)
    (case l15 => k_is)
    (case d15 => k_is)
    (case k15 => k_is)
    (case a16 => k_is)
    (case l16 => k_is)
    (case d16 => k_is)
    (case k16 => k_is)
    (case a17 => k_is)
    (case l17 => k_is)
    (case d17 => k_is)
    (case k17 => k_is)
    (case a18 => k_is)
    (case l18 => k_is)
    (case d18 => k_is)
    (case k18 => k_is)
    (case a19 => k_is)
    (case l19 => k_is)
    (case d19 => k_is)
    (case k19 => k_is)
    (case a20 => k_is)
    (case l20 => k_is)
    (case d20 => k_is)
    (case k20 => k_is)
    (case a21 => k_is)
    (case l21 => k_is)
    (case d21 => k_is)
    (case k21 => k_is)
    (case a22 => k_is)
    (case l22 => k_is)
    (case d22 => k_is)
    (case k22 => k_is)
    (case a23 => k_is)
    (case l23 => k_is)
    (case d23 => k_is)
    (case k23 => k_is)
    (case a24 => k_is)
    (case l24 => k_is)
    (case d24 => k_is)
    (case k24 => k_is)
    (case a25 => k_is)
    (case l25 => k_is)
    (case d25 => k_is)
    (case k25 => k_is)
    (case a26 => k_is)
    (case l26 => k_is)
    (case d26 => k_is)
    (case k26 => k_is)
    (case a27 => k_is)
    (case l27 => k_is)
    (case d27 => k_is)
    (case k27 => k_is)
    (case a28 => k_is)
    (case l28 => k_is)
    (case d28 => k_is)
    (case k28 => k_is)
    (case a29 => k_is)
    (case l29 => k_is)
    (case d29 => k_is)
    (case k29 => k_is)
    (case z_len => k_is)
    (case z_range => k_is)
    (case z_reversed => k_is)
    (case z_all => k_is)
    (case z_any => k_is)
    (case z_max => k_is)
    (case z_min => k_is)
    (case z_tuple => k_is)
    (case z_int => k_is)
    (case z_bool => k_is)
    (case z_list => k_is)
    (case z_repr => k_is)
    (case z_isinstance => k_is)
    (case z_str => k_is)
