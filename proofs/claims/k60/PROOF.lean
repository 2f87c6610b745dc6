import PyProof.Rows.All
import Wide.All
import OpenK.AllK
import Wide.FinOn
import HandS.ForMost
import HandS.TupAny
import HandS.TupMul
import HandS.RevRange
import HandS.Wide
import HandS.Style
import HandS.Flow
import HandS.AnyAll
import HandS.GenList
import HandS.Nested
import HandS.EndTab
import HandS.SetKeys
import HandS.Set
import HandS.Strs
import HandS.SetBool
import HandS.SetFor
import HandS.IsInst
import HandS.Text
import HandS.SortKw
import KE.DataMinMax
import KE.GoesMore
import HandS.Deep
import HandS.SortOrd
import HandS.SortRule
import HandS.RaiseMore
import PyProof.ReprRoads
import HandS.More
import HandS.Zip
import HandS.DictComp
import HandS.StrMore
import PySem.Challenge.RW_soleway_k60_machines_known
set_option Elab.async false
set_option maxRecDepth 100000
set_option maxHeartbeats 4000000
namespace Sw
open PySem L2 PySem.Spec PyProof.Rows

/-! ### defs of the top -/
section
variable {P : Program} {w : World} {K : PySem.W.Frag} {mg : Str → Option Value} {base : Heap}
/-- a def of the top: it stands under its name, takes its arguments by place -/
structure DefAt (K : PySem.W.Frag) (mg : Str → Option Value) (x : Str) (st : Stmt) (ps : List Str) : Prop where
  ex : ∃ f fd, Fun K x x st f fd ∧ mg x = some (.ref f) ∧ Binds K fd ps []
/-- .. and keeps a promise -/
structure DefOk (P : Program) (w : World) (K : PySem.W.Frag) (mg : Str → Option Value) (base : Heap) (x : Str) (k : Nat) (ps : List Str) (sp : Sp) : Prop where
  ex : ∃ f fd, FnOk P w K mg base CX0 k f fd ps sp ∧ mg x = some (.ref f) ∧ PySem.W.keepIn K (.ref f) = true ∧ Binds K fd ps []
theorem DefOk.mono {x : Str} {j k : Nat} {ps : List Str} {sp : Sp} (F : DefOk P w K mg base x j ps sp) (h : j ≤ k) : DefOk P w K mg base x k ps sp := by
  obtain ⟨f, fd, a, b, c, d⟩ := F.ex
  exact ⟨f, fd, a.mono h, b, c, d⟩
theorem DefOk.imp {x : Str} {k : Nat} {ps : List Str} {sp sp' : Sp} (F : DefOk P w K mg base x k ps sp) (h : ∀ vs H Q E, sp' vs H Q E → sp vs H Q E) : DefOk P w K mg base x k ps sp' := by
  obtain ⟨f, fd, a, b, c, d⟩ := F.ex
  exact ⟨f, fd, a.imp h, b, c, d⟩
theorem DefAt.ok {x : Str} {st : Stmt} {N ps : List Str} {k : Nat} {sp : Sp} (F : DefAt K mg x st ps) (S : FnScope N ps (defScope st)) (len : ∀ vs H Q E, sp vs H Q E → vs.length = ps.length)
    (hbody : ∀ (f : Addr) (cdv : Value) (A : Around) (outer : List Env) (s : Shared) (H : Hp) (vs : List V) (Q : VK) (E : XK), Room k (A.deeper (envOfC x (defScope st) s.heap.objs.size f cdv)) → sp vs H Q E →
      ∃ t, PSs (cxOf CX0 P w K mg base N x (defScope st) f cdv A outer s H E).nox (defBody st) t ∧ t { nx := fun _ H' => Q .non H', rt := Q } (start N vs) H) : DefOk P w K mg base x (k + 1) ps sp := by
  obtain ⟨f, fd, h1, h2, h3⟩ := F.ex
  exact ⟨f, fd, h1.ok S len (fun cdv A outer s H vs Q E hr hs => hbody f cdv A outer s H vs Q E hr hs), h2, h1.kp, h3⟩
end
section
variable {X : Cx} {x : Str} {k : Nat} {ps : List Str} {sp : Sp} {e : Expr} {es : List Expr} {t : TA} {p pos : Pos}
theorem pe_callD (F : DefOk X.prog X.w X.K X.mg X.base x k ps sp) (hr : Room k X.A) (hg : Gl X x) (ha : PA X (e :: es) t) (hx : Passes CX0 X E0 := by exact pass0) (hdb : (x == ("__debug__" : Str)) = false := by decide)
    (he : starEach (e :: es) X.env = (false, eval e X.env) :: starEach es X.env := by rfl) (hpl : (backTo pos (starEach es X.env)).any (·.1) = false := by rfl) : PE X (.Call (.Name x p) (e :: es) [] pos) (tCall sp [] E0 t) := by
  obtain ⟨f, fd, a, b, c, d⟩ := F.ex
  exact pe_call a hr hg b c d .nil hx ha hdb he hpl
end

/-! ### heaps -/
theorem _root_.L2.Same.new {H : Hp} {p : Addr} {o : HO} (h : H p = none) : Same H (upd H p o) := fun b u q => by rw [upd_ne (ne_of_none q h)]; exact q
/-- what was not there may be written again -/
theorem _root_.L2.Same.mut {H H' : Hp} {p : Addr} {o : HO} (e : Same H H') (h : H p = none) : Same H (upd H' p o) := fun a u ha => by
  rw [upd_ne (ne_of_none ha h)]
  exact e a u ha
theorem _root_.L2.Same.rd {H H' : Hp} {a : Addr} {u : HO} (e : Same H H') (h : Rd H a u) : Rd H' a u := by
  rcases h with h | ⟨o, h⟩
  · exact Or.inl (e a _ h)
  · exact Or.inr ⟨o, e a _ h⟩
theorem _root_.L2.Same.sqT {K : PySem.W.Frag} {H H' : Hp} {a : Addr} {xs : List V} (e : Same H H') (h : SqT K H a xs) : SqT K H' a xs := by
  rcases h with h | h
  · exact Or.inl (e.rd h)
  · exact Or.inr h
theorem sT {K : PySem.W.Frag} {H : Hp} {a : Addr} {xs : List V} (h : H a = some (.tup xs)) : SqT K H a xs := Or.inl (Or.inl h)
theorem sL {K : PySem.W.Frag} {H : Hp} {a : Addr} {xs : List V} (h : H a = some (.lst xs)) : SqL K H a xs := Or.inl (Or.inl h)
/-- all but the object at p is as it was -/
def But (p : Addr) (H H' : Hp) : Prop := ∀ b o, H b = some o → b ≠ p → H' b = some o
theorem But.of {p : Addr} {H H' : Hp} (h : Same H H') : But p H H' := fun b o e _ => h b o e
theorem But.trans {p : Addr} {H H1 H2 : Hp} (a : But p H H1) (b : But p H1 H2) : But p H H2 := fun c o e n => b c o (a c o e n) n
theorem But.refl {p : Addr} {H : Hp} : But p H H := fun _ _ e _ => e
theorem But.upd {p : Addr} {H H' : Hp} {o : HO} (a : But p H H') : But p H (upd H' p o) := fun b u e n => by rw [upd_ne n]; exact a b u e n
theorem But.same {p : Addr} {H H' : Hp} (a : But p H H') (h : H p = none) : Same H H' := fun b o e => a b o e (ne_of_none e h)
theorem But.free {p q : Addr} {H H' : Hp} (a : But p H H') (h : H' q = none) (n : q ≠ p) : H q = none := by
  cases e : H q with
  | none => rfl
  | some o =>
    rw [a q o e n] at h
    cases h

/-! ### data in the heap -/
mutual
theorem dpSame {K : PySem.W.Frag} {H H' : Hp} (s : ∀ a u, (∃ xs, u = HO.lst xs ∨ u = HO.tup xs) → Rd H a u → Rd H' a u) : ∀ (d : PyData) (v : V), Dp K H v d → Dp K H' v d
  | .none, _, h => by cases h; exact .non
  | .bool b, _, h => by cases h; exact .bl b
  | .int i, _, h => by cases h; exact .int i
  | .str x, _, h => by cases h; exact .str x
  | .list ds, _, h => by
    cases h with
    | lst h1 h2 =>
      refine .lst ?_ (dpAllSame s ds _ h2)
      rcases h1 with h1 | h1
      · exact .inl (s _ _ ⟨_, .inl rfl⟩ h1)
      · exact .inr h1
  | .tuple ds, _, h => by
    cases h with
    | tup h1 h2 =>
      refine .tup ?_ (dpAllSame s ds _ h2)
      rcases h1 with h1 | h1
      · exact .inl (s _ _ ⟨_, .inr rfl⟩ h1)
      · exact .inr h1
  | .dict _, _, h => by cases h
theorem dpAllSame {K : PySem.W.Frag} {H H' : Hp} (s : ∀ a u, (∃ xs, u = HO.lst xs ∨ u = HO.tup xs) → Rd H a u → Rd H' a u) : ∀ (ds : List PyData) (vs : List V), DpAll K H vs ds → DpAll K H' vs ds
  | [], _, h => by cases h; exact .nil
  | d :: ds, _, h => by
    cases h with
    | cons h1 h2 => exact .cons (dpSame s d _ h1) (dpAllSame s ds _ h2)
end
theorem dpS {K : PySem.W.Frag} {H H' : Hp} (s : Same H H') {d : PyData} {v : V} (h : Dp K H v d) : Dp K H' v d := dpSame (fun _ _ _ r => s.rd r) d v h
theorem dpsS {K : PySem.W.Frag} {H H' : Hp} (s : Same H H') {ds : List PyData} {vs : List V} (h : DpAll K H vs ds) : DpAll K H' vs ds := dpAllSame (fun _ _ _ r => s.rd r) ds vs h
/-- a thing that is no list and no tuple may change -/
theorem dpB {K : PySem.W.Frag} {H H' : Hp} {p : Addr} (s : But p H H') (hp : ∀ u, Rd H p u → ∀ xs, u ≠ .lst xs ∧ u ≠ .tup xs) {d : PyData} {v : V} (h : Dp K H v d) : Dp K H' v d := by
  refine dpSame (fun a u hu r => ?_) d v h
  obtain ⟨xs, hu⟩ := hu
  have n : a ≠ p := by
    rintro rfl
    have := hp u r xs
    rcases hu with e | e
    · exact this.1 e
    · exact this.2 e
  rcases r with r | ⟨o, r⟩
  · exact .inl (s _ _ r n)
  · exact .inr ⟨o, s _ _ r n⟩
theorem dpsLen {K : PySem.W.Frag} {H : Hp} : ∀ {vs : List V} {ds : List PyData}, DpAll K H vs ds → vs.length = ds.length
  | [], _, h => by cases h; rfl
  | _ :: _, _, h => by cases h with | cons _ t => simp [dpsLen t]
theorem dpsAt {K : PySem.W.Frag} {H : Hp} : ∀ {vs : List V} {ds : List PyData} {i : Nat} {d : PyData}, DpAll K H vs ds → ds[i]? = some d → ∃ v, vs[i]? = some v ∧ Dp K H v d
  | [], _, i, d, h, e => by cases h; simp at e
  | v :: vs, _, i, d, h, e => by
    cases h with
    | cons h1 h2 =>
      cases i with
      | zero => simp at e; subst e; exact ⟨v, rfl, h1⟩
      | succ i => simp at e; obtain ⟨u, e1, e2⟩ := dpsAt h2 e; exact ⟨u, by simpa using e1, e2⟩
theorem dpsAtV {K : PySem.W.Frag} {H : Hp} : ∀ {vs : List V} {ds : List PyData} {i : Nat} {v : V}, DpAll K H vs ds → vs[i]? = some v → ∃ d, ds[i]? = some d ∧ Dp K H v d
  | [], _, i, v, h, e => by simp at e
  | v :: vs, _, i, u, h, e => by
    cases h with
    | cons h1 h2 =>
      cases i with
      | zero => simp at e; subst e; exact ⟨_, rfl, h1⟩
      | succ i => simp at e; obtain ⟨u, e1, e2⟩ := dpsAtV h2 e; exact ⟨u, by simpa using e1, e2⟩
theorem dpsApp {K : PySem.W.Frag} {H : Hp} : ∀ {vs us : List V} {ds es : List PyData}, DpAll K H vs ds → DpAll K H us es → DpAll K H (vs ++ us) (ds ++ es)
  | [], _, _, _, h, g => by cases h; exact g
  | _ :: _, _, _, _, h, g => by cases h with | cons h1 h2 => exact .cons h1 (dpsApp h2 g)
/-- a tuple's data by its items -/
theorem dpTup {K : PySem.W.Frag} {H : Hp} {v : V} {ds : List PyData} (h : Dp K H v (.tuple ds)) : ∃ a xs, v = .ref a ∧ SqT K H a xs ∧ DpAll K H xs ds := by
  cases h with
  | tup h1 h2 => exact ⟨_, _, rfl, h1, h2⟩
theorem dpLst {K : PySem.W.Frag} {H : Hp} {v : V} {ds : List PyData} (h : Dp K H v (.list ds)) : ∃ a xs, v = .ref a ∧ SqL K H a xs ∧ DpAll K H xs ds := by
  cases h with
  | lst h1 h2 => exact ⟨_, _, rfl, h1, h2⟩
theorem dpStr {K : PySem.W.Frag} {H : Hp} {v : V} {x : Str} (h : Dp K H v (.str x)) : v = .str x := by cases h; rfl
theorem dpInt {K : PySem.W.Frag} {H : Hp} {v : V} {x : Int} (h : Dp K H v (.int x)) : v = .int x := by cases h; rfl
theorem dpNone {K : PySem.W.Frag} {H : Hp} {v : V} (h : Dp K H v .none) : v = .non := by cases h; rfl
theorem dpNil {K : PySem.W.Frag} {H : Hp} {vs : List V} (h : DpAll K H vs []) : vs = [] := by cases h; rfl
theorem dpCons {K : PySem.W.Frag} {H : Hp} {vs : List V} {d : PyData} {ds : List PyData} (h : DpAll K H vs (d :: ds)) : ∃ v us, vs = v :: us ∧ Dp K H v d ∧ DpAll K H us ds := by
  cases h with
  | cons h1 h2 => exact ⟨_, _, rfl, h1, h2⟩

/-! ### forms -/
inductive Fm where
  | sign (s : Str)
  | row (ps : List Fm)
  | pick (ps : List Fm)
  | times (p : Fm) (low : Nat) (high : Option Nat)
def highD : Option Nat → PyData
  | none => .none
  | some h => .int h
def highV : Option Nat → V
  | none => .non
  | some h => .int h
theorem dpHigh {K : PySem.W.Frag} {H : Hp} {v : V} {o : Option Nat} (h : Dp K H v (highD o)) : v = highV o := by
  cases o with
  | none => exact dpNone h
  | some n => exact dpInt h
theorem highDp {K : PySem.W.Frag} {H : Hp} (o : Option Nat) : Dp K H (highV o) (highD o) := by
  cases o with
  | none => exact .non
  | some n => exact .int _
mutual
def Fm.dat : Fm → PyData
  | .sign s => .tuple [.str "sign", .str s]
  | .row ps => .tuple [.str "row", .tuple (Fm.dats ps)]
  | .pick ps => .tuple [.str "pick", .tuple (Fm.dats ps)]
  | .times p low high => .tuple [.str "times", p.dat, .int low, highD high]
def Fm.dats : List Fm → List PyData
  | [] => []
  | p :: ps => p.dat :: Fm.dats ps
end
theorem Fm.dats_map : ∀ ps : List Fm, Fm.dats ps = ps.map Fm.dat
  | [] => rfl
  | p :: ps => by rw [Fm.dats, Fm.dats_map ps, List.map_cons]
def Fm.kind : Fm → Str
  | .sign _ => "sign"
  | .row _ => "row"
  | .pick _ => "pick"
  | .times _ _ _ => "times"
def Fm.parts : Fm → List Fm
  | .sign _ => []
  | .row ps => ps
  | .pick ps => ps
  | .times p _ _ => [p]
abbrev FmAt (K : PySem.W.Frag) (H : Hp) (v : V) (f : Fm) : Prop := Dp K H v f.dat
abbrev FmsAt (K : PySem.W.Frag) (H : Hp) (vs : List V) (fs : List Fm) : Prop := DpAll K H vs (Fm.dats fs)
/-- every form is a tuple that begins with its kind -/
theorem fmTup {K : PySem.W.Frag} {H : Hp} {v : V} {f : Fm} (h : FmAt K H v f) : ∃ a xs, v = .ref a ∧ SqT K H a (.str f.kind :: xs) := by
  cases f with
  | sign s => obtain ⟨a, xs, rfl, h1, h2⟩ := dpTup h; obtain ⟨v, us, rfl, e, _⟩ := dpCons h2; cases dpStr e; exact ⟨a, us, rfl, h1⟩
  | row s => obtain ⟨a, xs, rfl, h1, h2⟩ := dpTup h; obtain ⟨v, us, rfl, e, _⟩ := dpCons h2; cases dpStr e; exact ⟨a, us, rfl, h1⟩
  | pick s => obtain ⟨a, xs, rfl, h1, h2⟩ := dpTup h; obtain ⟨v, us, rfl, e, _⟩ := dpCons h2; cases dpStr e; exact ⟨a, us, rfl, h1⟩
  | times s l u => obtain ⟨a, xs, rfl, h1, h2⟩ := dpTup h; obtain ⟨v, us, rfl, e, _⟩ := dpCons h2; cases dpStr e; exact ⟨a, us, rfl, h1⟩
theorem fmSign {K : PySem.W.Frag} {H : Hp} {v : V} {s : Str} (h : FmAt K H v (.sign s)) : ∃ a, v = .ref a ∧ SqT K H a [.str "sign", .str s] := by
  obtain ⟨a, xs, rfl, h1, h2⟩ := dpTup h; obtain ⟨v, us, rfl, e, h3⟩ := dpCons h2; cases dpStr e
  obtain ⟨v, us, rfl, e, h4⟩ := dpCons h3; cases dpStr e; cases dpNil h4; exact ⟨a, rfl, h1⟩
theorem fmRow {K : PySem.W.Frag} {H : Hp} {v : V} {ps : List Fm} (h : FmAt K H v (.row ps)) : ∃ a b vs, v = .ref a ∧ SqT K H a [.str "row", .ref b] ∧ SqT K H b vs ∧ FmsAt K H vs ps := by
  obtain ⟨a, xs, rfl, h1, h2⟩ := dpTup h; obtain ⟨v, us, rfl, e, h3⟩ := dpCons h2; cases dpStr e
  obtain ⟨v, us, rfl, e, h4⟩ := dpCons h3; obtain ⟨b, vs, rfl, h5, h6⟩ := dpTup e; cases dpNil h4; exact ⟨a, b, vs, rfl, h1, h5, h6⟩
theorem fmPick {K : PySem.W.Frag} {H : Hp} {v : V} {ps : List Fm} (h : FmAt K H v (.pick ps)) : ∃ a b vs, v = .ref a ∧ SqT K H a [.str "pick", .ref b] ∧ SqT K H b vs ∧ FmsAt K H vs ps := by
  obtain ⟨a, xs, rfl, h1, h2⟩ := dpTup h; obtain ⟨v, us, rfl, e, h3⟩ := dpCons h2; cases dpStr e
  obtain ⟨v, us, rfl, e, h4⟩ := dpCons h3; obtain ⟨b, vs, rfl, h5, h6⟩ := dpTup e; cases dpNil h4; exact ⟨a, b, vs, rfl, h1, h5, h6⟩
theorem fmTimes {K : PySem.W.Frag} {H : Hp} {v : V} {p : Fm} {low : Nat} {high : Option Nat} (h : FmAt K H v (.times p low high)) : ∃ a u, v = .ref a ∧ SqT K H a [.str "times", u, .int low, highV high] ∧ FmAt K H u p := by
  obtain ⟨a, xs, rfl, h1, h2⟩ := dpTup h; obtain ⟨v, us, rfl, e, h3⟩ := dpCons h2; cases dpStr e
  obtain ⟨u, us, rfl, e, h4⟩ := dpCons h3
  obtain ⟨v, us, rfl, e2, h5⟩ := dpCons h4; cases dpInt e2
  obtain ⟨v, us, rfl, e3, h6⟩ := dpCons h5; cases dpHigh e3; cases dpNil h6
  exact ⟨a, u, rfl, h1, e⟩
end Sw
set_option Elab.async false
set_option maxRecDepth 100000
set_option maxHeartbeats 4000000
namespace Sw
open PySem L2 PySem.Spec PyProof.Rows GenW
/-! ### any, all of a generator expression, its element of any kind -/
/-- a code object's table: it may grow -/
def TabE (P : Addr) : HO := .ext fun h => ∃ ps : Array Value, h.get? P = some { cls := .none, data := .fields ps } ∧ TriplesOk ps.toList
section
variable {X : Cx} {pins : List (Addr × Obj)} {σ : L2.St} {H : Hp} {s : Shared}
theorem tabE_ok {P : Program} {w : World} {h : Heap} {a : Addr} {ps : Array Value} (e : h.get? a = some { cls := .none, data := .fields ps }) (t : TriplesOk ps.toList) : ObjOk P w H h a (TabE a) :=
  ⟨⟨ps, e, t⟩, ⟨_, e⟩, fun _ _ ⟨ps, q, t⟩ k => ⟨ps, k _ q, t⟩⟩
theorem inv_tabE {P : Addr} {ps' : Array Value} {h' : Heap} {tk : Nat} (I : Inv X pins σ H s) (hP : H P = some (TabE P)) (k : ∀ b o, b ≠ P → s.heap.get? b = some o → h'.get? b = some o)
    (hm : h'.get? P = some { cls := .none, data := .fields ps' }) (ht : TriplesOk ps'.toList) : Inv X pins σ H { s with heap := h', toks := tk } := by
  have nN : ∀ b, H b = none → b ≠ P := fun b e z => by
    rw [z, hP] at e
    cases e
  have nO : ∀ b x, H b = some (.own x) → b ≠ P := fun b x e z => by
    rw [z, hP] at e
    cases e
  refine I.step (g' := s.gens) (d' := s.drawn) (ch := []) (fun b hb => absurd hb (by simp)) (fun b o _ _ _ e n => k b o (nN b n) e) (fun b o _ _ _ e n => ⟨o.slots, k b o (nN b n) e⟩) (fun _ _ _ _ n => n) (fun b o _ e => ?_)
    (fun _ _ e => e) (fun _ _ _ e => e) (fun b ps e => ⟨#[], by rw [e]; simp⟩) (fun m hn => ?_) (fun b u e => ?_) I.bare
  · by_cases hb : b = P
    · rw [hb]
      exact ⟨_, hm⟩
    · exact ⟨o, k b o hb e⟩
  · obtain ⟨ob, es, ep, ho, r⟩ := hn
    exact ⟨ob, es, ep, k _ ob (nN _ I.free) ho, r⟩
  · by_cases hb2 : b = P
    · subst hb2
      rw [hP] at e
      cases e
      exact tabE_ok hm ht
    · refine (I.hok b u e).stay (fun d v hd q => k d v ?_ q) (fun _ q => q) fun _ _ q => q
      rcases hd with z | z
      · rw [z]
        exact hb2
      · exact nO d _ z
theorem gen_code {M : Model} {A : Around} {E : Value → Shared → Prop} {c P : Addr} {gpos : Pos} {qual : Str} {scope : Scope} {Q : Value → Shared → Prop} (I : Inv X pins σ H s) (TB : GxR.TabB X.base X.mg c P) (hcode : X.env.code = .ref c) (hP : H P = some (TabE P))
    (hQ : ∀ code h' tk, Inv X pins σ H { s with heap := h', toks := tk } → (∀ b o, b ≠ P → s.heap.get? b = some o → h'.get? b = some o) → s.heap.objs.size ≤ h'.objs.size → Q code { s with heap := h', toks := tk }) :
    wpAny M A (genexprCode X.env gpos qual scope) Q E s := by
  obtain ⟨⟨ps, e, ht⟩, _⟩ := I.hok P _ hP
  have cd : PySem.W.CodeHd s.heap c P := TB.code.keeps fun b u e => I.bk b u e
  cases hf : codeAmong gpos ps.toList with
  | none =>
    refine wpAny_genexprCodeX hcode (cd.code e ht) (cd.tab e) hf fun c' h' tk hx hge hlt hco' _ htab' _ => ?_
    obtain ⟨o1, vs, f1, tf, fl, tg, inF, tx, tt, op, _, _, _, _, _, _, _, _, _, htr, _⟩ := hco'
    exact hQ _ h' tk (inv_tabE I hP hx htab'.2 htr) hx (Nat.le_trans hge (Nat.le_of_lt hlt))
  | some cv =>
    refine wpAny_genexprCode_hit hcode (cd.code e ht) hf ?_
    exact hQ cv s.heap s.toks I (fun _ _ _ q => q) (Nat.le_refl _)
/-! ### the frame -/
abbrev genv (X : Cx) (scope : Scope) (C : Addr) (code : Value) : Env := genEnv scope (cloFrom X.env.cells scope.names []) C code builtinsNs X.env
abbrev _root_.L2.Cx.gen (X : Cx) (s : Shared) (H : Hp) (scope : Scope) (C : Addr) (code : Value) (A' : Around) (fp : List Addr) (pn : List (Addr × Obj)) : Cx :=
  { X with A := A', s_0 := s, H_0 := H, env := genv X scope C code, outer := X.stack, stack := genv X scope C code :: X.stack, ex := fp, fn := fun _ => false, calm := true, pn := pn, xe := fun _ _ => False }
structure GenSc (scope : Scope) : Prop where
  co : (scope.isCoroutine : Bool) = false
  cell : ∀ nk ∈ scope.names, nk.2 ≠ NameKind.cell
  dot : scope.names.lookup (".0" : Str) = some (.local : NameKind)
theorem gen_start {scope : Scope} {own : List (Str × Nat)} {fp : List Addr} {pn : List (Addr × Obj)} {C : Addr} {code : Value} {A' : Around} {s' : Shared} {m : Str → Option Value} (I : Inv X pins σ H s) (ok : BlkOk X.N X.env.scope scope own) (G : GenSc scope) (hN : X.N.Nodup)
    (hfp : ∀ b ∈ fp, FpOk X pins H b ∧ b < s.heap.objs.size) (hC : s.heap.objs.size ≤ C) (hA : A'.handled = none) (hF : A'.frames = some (genv X scope C code :: X.stack))
    (hos : s'.os = s.os) (hb : AllBare s'.gens) (k : ∀ b o, s.heap.get? b = some o → s'.heap.get? b = some o) (hn : s'.heap.Ns C m)
    (hpn : ∀ p ∈ pn, s'.heap.get? p.1 = some p.2 ∧ s.heap.objs.size ≤ p.1 ∧ p.1 ≠ C ∧ ∀ v, p.2.data ≠ .cell v) :
    Inv (X.gen s H scope C code A' fp pn) [] (wipe σ (own.map (·.2))) H s' := by
  have hCap : ∀ y ∈ scope.names, y.2 = .free → ∃ c, X.env.cells.lookup y.1 = some c := fun y hy e => by
    rcases ok.free y hy e with k | k
    · exact I.ok.has _ (.inl k)
    · exact I.ok.has _ (.inr k)
  have cm : ∀ {y c}, (cloFrom X.env.cells scope.names []).lookup y = some c → X.env.cells.lookup y = some c := fun {y c} e => NdefX.clo_cm hCap e
  have clt : ∀ {y c}, X.env.cells.lookup y = some c → c < s.heap.objs.size := fun {y c} e => by
    obtain ⟨w, z⟩ := I.cell _ _ e
    exact z.lt
  have okG : (X.gen s H scope C code A' fp pn).Ok := by
    refine ⟨I.ok.mod, ok.kind, I.ok.glob, rfl, hC, fun y z c e1 e2 => I.ok.inj y z c (cm e1) (cm e2), fun y hy => ?_, fun y c z => (by cases z), fun _ => hA, hF, .inr ⟨rfl, rfl⟩, fun b hb => ⟨?_, fun y c e z => ?_⟩, I.bs, Nat.le_trans I.ok.bsz I.sz, fun b o e hb => ?_, fun b hb z => ?_, I.stack, I.stkFree⟩
    · have hy : scope.names.lookup y = some .cell ∨ scope.names.lookup y = some .free := hy
      rcases hy with hy | hy
      · exact absurd rfl (G.cell _ (PySem.mem_of_lookup hy))
      · obtain ⟨c, hc⟩ := hCap _ (PySem.mem_of_lookup hy) rfl
        exact ⟨c, NdefX.clo_has hCap (PySem.mem_of_lookup hy) hc⟩
    · exact Nat.ne_of_lt (Nat.lt_of_lt_of_le (hfp b hb).2 hC)
    · exact (hfp b hb).1.2.2.2.2.1 y c (cm e) z
    · rcases (hfp b hb).1.2.2.2.1 with z | z
      · exact I.ok.noex b o e z
      · exact absurd (Nat.lt_of_lt_of_le (Heap.lt_size e) (Nat.le_trans I.ok.bsz z)) (Nat.lt_irrefl _)
    · rcases List.mem_cons.mp (I.stkSub b z) with z | z
      · exact (hfp b hb).1.2.1 z
      · exact (hfp b hb).1.2.2.1 z
  refine ⟨okG, hos, hb, Un.kept k, ⟨m, hn, fun i y av e1 e2 e3 => ?_⟩, fun y c e => ?_, I.hok.fresh hC, fun y c e => I.freeC y c (cm e), fun p hp => ?_, I.hok.kept k, by rw [wipe_length]; exact I.len⟩
  · obtain ⟨e2, hne⟩ := wipe_some e2
    have no : ∀ kd, scope.names.lookup y = some kd → ¬ (kd = .local ∨ kd = .cell) := fun kd e hh => by
      rcases ok.own _ (PySem.mem_of_lookup e) hh with e' | e'
      · obtain ⟨p, hp, hpy⟩ := List.mem_map.mp e'
        have e3 := ok.ix p hp
        have : p.1 = y := hpy
        rw [this] at e3
        exact hne (List.mem_map.mpr ⟨p, hp, nodup_ix hN e3 e1⟩)
      · exact e' (List.mem_of_getElem? e1)
    have e3 : Vis scope y := e3
    have hfr : scope.names.lookup y = some .free := by
      rcases e3 with e3 | e3 | e3
      · exact absurd (.inl rfl) (no _ e3)
      · exact absurd (.inr rfl) (no _ e3)
      · exact e3
    obtain ⟨m0, hn0, hl⟩ := I.loc
    have hsc := ok.free _ (PySem.mem_of_lookup hfr) rfl
    have hVs : Vis X.env.scope y := hsc.elim (fun k => .inr (.inl k)) (fun k => .inr (.inr k))
    obtain ⟨w, r, q⟩ := hl i y av e1 e2 hVs
    refine ⟨w, r, .inr ⟨.inr hfr, ?_⟩⟩
    rcases q with ⟨kk, _⟩ | ⟨_, c', e', z⟩
    · have kk : X.env.scope.names.lookup y = some .local := kk
      rcases hsc with k1 | k1 <;> rw [show X.env.scope.names.lookup y = _ from k1] at kk <;> cases kk
    · exact ⟨c', NdefX.clo_has hCap (PySem.mem_of_lookup hfr) e', z.keeps k⟩
  · obtain ⟨w, z⟩ := I.cell y c (cm e)
    exact ⟨w, z.keeps k⟩
  · have hp : p ∈ pn := by simpa using hp
    obtain ⟨h1, h2, h3, h4⟩ := hpn p hp
    refine ⟨h1, I.hok.fresh h2, h3, fun z => ?_, h4⟩
    rcases List.mem_cons.mp (I.stkSub p.1 z) with z | z
    · exact absurd I.lt (by rw [← z]; exact Nat.not_lt.mpr h2)
    · exact I.nofs h2 z
end
end Sw
set_option Elab.async false
set_option maxRecDepth 100000
set_option maxHeartbeats 4000000
namespace Sw
open PySem L2 PySem.Spec PyProof.Rows GenW
/-! ### the generator's turns -/
/-- behind what the consumer does meanwhile: all objects stand, generators and tokens may have changed -/
theorem inv_later {X : Cx} {pins : List (Addr × Obj)} {σ : L2.St} {H : Hp} {s s' : Shared} (I : Inv X pins σ H s) (k : ∀ b o, s.heap.get? b = some o → s'.heap.get? b = some o) (hos : s'.os = s.os) (hb : AllBare s'.gens) : Inv X pins σ H s' :=
  I.call' (ch := []) hos (Un.kept k) (I.hok.kept k) hb fun b hb => absurd hb (by simp)
section
variable {X : Cx} {tg elt iter : Expr} {scope : Scope} {pos : Pos} {it : Addr}
abbrev genC (tg elt iter : Expr) (scope : Scope) (pos : Pos) (it : Addr) (env : Env) : Code := .compLoop (.GeneratorExp elt [⟨tg, iter, [], 0⟩] scope pos) 0 (.ref it) .none env
abbrev genS (tg elt iter : Expr) (scope : Scope) (pos : Pos) (it : Addr) (env : Env) : Code := .compStart (.GeneratorExp elt [⟨tg, iter, [], 0⟩] scope pos) 0 (.ref it) .none env
/-- at its end -/
def RG (X : Cx) (QT : Hp → Prop) : Nat → Shared → Shared → Prop := fun _ _ s₁ => ∃ σc H, Inv X [] σc H s₁ ∧ QT H
/-- a truth is handed out; if it is go, it may be asked on -/
def YG (X : Cx) (go : Bool) (QF : Hp → Prop) : Protocol := fun _ _ v s kap => ∃ b σc H, v = .bool b ∧ Inv X [] σc H s ∧ (b = !go → QF H) ∧
  (b = go → ∀ s'', (∀ b o, s.heap.get? b = some o → s''.heap.get? b = some o) → s''.os = s.os → AllBare s''.gens → kap (.send .none) s'')
/-- what a generator expression's walk asks: go the truth by which its consumer goes on -/
def GWalk (go : Bool) (J : It) (g : TG) (te : TE) (σ0 : L2.St) (vs : List Nat) (QT QF : Hp → Prop) (W : Nat → Nat → Hp → Prop) : Prop := ∀ i m H, W i m H →
  (J.stop i H ∧ QT H) ∨ (J.go i H ∧ ∃ Nx : Hp → Prop, (∀ H', Nx H' → ∃ m', m' < m ∧ W (i + 1) m' H') ∧ ∀ x H', J.yld i H x H' → g x σ0 H' fun σ2 H2 => wipe σ2 vs = σ0 ∧ te σ2 H2 fun y H3 => ∃ b, y = .bl b ∧ if b = go then Nx H3 else QF H3)
theorem seg_turns {A : Around} {fp : List Addr} {tn : Nat → Heap → Prop} {J : It} {g : TG} {te : TE} {go : Bool} {σ0 : L2.St} {vs : List Nat} {QT QF : Hp → Prop} {W : Nat → Nat → Hp → Prop}
    (hA : A.over (genC tg elt iter scope pos it X.env) [] = X.A) (hc : X.calm = true) (hx : X.xe = fun _ _ => False) (hco : X.env.scope.isCoroutine = false) (hex : ∀ b ∈ fp, b ∈ X.ex ∧ b ≠ X.env.locals ∧ b ∉ X.fs ∧ (∀ x c, X.env.cells.lookup x = some c → c ≠ b) ∧ ∀ p ∈ X.pn, p.1 ≠ b)
    (T : Turn X.prog X.w X.K tg J fp it tn) (hg : PG X tg g) (he : PE X elt te) (hw : ∀ σ : L2.St, wipe (wipe σ vs) vs = wipe σ vs) (turn : GWalk go J g te σ0 vs QT QF W) :
    ∀ (n m i : Nat) (σc : L2.St) (H : Hp) (s₀ s : Shared), m < n → W i m H → Inv X [] σc H s → wipe σc vs = σ0 → tn i s.heap → (∀ b ∈ fp, H b = none) →
      Seg (model X.prog X.w) A (fun n s₀ r s₁ => r = .ok .next ∧ RG X QT n s₀ s₁) (YG X go QF) n s₀ (genC tg elt iter scope pos it X.env) ((model X.prog X.w).den (genC tg elt iter scope pos it X.env)) [] s := by
  intro n
  induction n with
  | zero => intro m i σc H s₀ s h; exact absurd h (Nat.not_lt_zero _)
  | succ n ih =>
    intro m i σc H s₀ s hm w0 I hσ st fr
    have stat : ∀ {H' : Hp}, (∀ b ∈ fp, H' b = none) → ∀ b ∈ fp, FpOk X [] H' b := fun {H'} hn b hb => by
      obtain ⟨h1, h2, h3, h4, h5⟩ := hex b hb
      exact ⟨hn b hb, h2, h3, .inl h1, h4, fun p hp => h5 p (by simpa using hp)⟩
    have I0 : Inv X [] σ0 H s := I.weak (by rw [← hσ, wipe_length]) fun i v e => by rw [← hσ] at e; exact (wipe_some e).1
    show Seg _ A _ _ _ s₀ _ ((compTurn (.GeneratorExp elt [⟨tg, iter, [], 0⟩] scope pos) 0 (.ref it) .none X.env).onRaise (leaving X.env)) [] s
    rw [compTurn_gen, Sem.onRaise_eq_wrap]
    refine seg_bind_wrap (wpAny_standAt ?_)
    rcases turn i m H w0 with ⟨stop, qt⟩ | ⟨hgo, Nx, hN, step⟩
    · refine seg_bind_wrap ?_
      rw [hA]
      refine thn (T.done X rfl rfl rfl hc i [] s σ0 H _ I0 (stat fr) st stop) fun r s1 ⟨hr, I1⟩ => ?_
      subst hr
      exact seg_end (.ok .next) ⟨rfl, σ0, H, I1, qt⟩
    · refine seg_bind_wrap ?_
      rw [hA]
      refine thn (T.item X rfl rfl rfl hc i [] s σ0 H _ I0 (stat fr) st hgo) fun r s1 ⟨u, hr, h1⟩ => ?_
      subst hr
      refine seg_bind_wrap ?_
      rw [hA]
      refine thn h1 fun _ s2 ⟨x, H2, I2, r2, y2, st2, fr2⟩ => ?_
      have I2' := I2.pinned (stat fr2) (T.obj _ _ st2)
      refine seg_bind_wrap ?_
      rw [hA]
      have h3 := hg.run _ s2 σ0 H2 x u _ I2' r2 (step x H2 y2)
      rw [hx] at h3
      refine thnF h3 fun _ s3 ⟨σ3, H3, I3, w3, q3⟩ => ?_
      refine seg_bind_wrap ?_
      rw [List.forIn_nil]
      refine wpAny_pure ?_
      simp only [if_true]
      have hy : ∀ v, yieldOut X.env v = yieldValue v := fun v => by simp only [yieldOut, hco, Bool.false_eq_true, if_false]
      simp only [hy]
      rw [Sem.bind_eq_wrap', Sem.bind_eq_wrap', Sem.wrap_wrap, Sem.wrap_wrap]
      refine seg_wrap ?_
      rw [hA]
      have h4 := he.run _ s3 σ3 H3 _ I3 q3
      rw [hx] at h4
      refine thnF h4 fun v s4 ⟨y, H4, I4, r4, b, ey, q4⟩ => ?_
      subst ey
      obtain rfl : v = Value.bool b := r4
      have fr4 : ∀ b ∈ fp, H4 b = none := fun b hb => by
        obtain ⟨o, e, d⟩ := T.obj _ _ st2 b hb
        exact (I4.pin (b, o) (List.mem_append_right _ (List.mem_append_right _ (mem_pinsAt hb e)))).2.1
      have kp4 : ∀ b ∈ fp, ∀ o, s2.heap.get? b = some o → s4.heap.get? b = some o := fun b hb o e => (I4.pin (b, o) (List.mem_append_right _ (List.mem_append_right _ (mem_pinsAt hb e)))).1
      have I4' := I4.unpinned
      refine seg_at (seg_yield rfl rfl rfl ⟨b, σ3, H4, rfl, I4', fun hb => ?_, fun hb s'' k hos hbr => ?_⟩)
      · rw [if_neg (by rw [hb]; cases go <;> decide)] at q4
        exact q4
      · rw [if_pos hb] at q4
        obtain ⟨m', hm', w4⟩ := hN H4 q4
        refine seg_again rfl (ih m' (i + 1) σ3 H4 s'' s'' (by omega) w4 (inv_later I4' k hos hbr) w3 (T.keep _ _ _ st2 fun b hb o e => k b o (kp4 b hb o e)) fr4)
/-- .. begun -/
theorem seg_begin {A : Around} {fp : List Addr} {tn : Nat → Heap → Prop} {J : It} {g : TG} {te : TE} {go : Bool} {σ0 : L2.St} {vs : List Nat} {QT QF : Hp → Prop} {W : Nat → Nat → Hp → Prop}
    (hA : A.over (genC tg elt iter scope pos it X.env) [] = X.A) (hc : X.calm = true) (hx : X.xe = fun _ _ => False) (hco : X.env.scope.isCoroutine = false) (hex : ∀ b ∈ fp, b ∈ X.ex ∧ b ≠ X.env.locals ∧ b ∉ X.fs ∧ (∀ x c, X.env.cells.lookup x = some c → c ≠ b) ∧ ∀ p ∈ X.pn, p.1 ≠ b)
    (T : Turn X.prog X.w X.K tg J fp it tn) (hg : PG X tg g) (he : PE X elt te) (hw : ∀ σ : L2.St, wipe (wipe σ vs) vs = wipe σ vs) (turn : GWalk go J g te σ0 vs QT QF W)
    (n m : Nat) (σc : L2.St) (H : Hp) (s₀ s : Shared) (hm : m < n) (w0 : W 0 m H) (I : Inv X [] σc H s) (hσ : wipe σc vs = σ0) (st : tn 0 s.heap) (fr : ∀ b ∈ fp, H b = none) :
      Seg (model X.prog X.w) A (fun n s₀ r s₁ => r = .ok .next ∧ RG X QT n s₀ s₁) (YG X go QF) n s₀ (genS tg elt iter scope pos it X.env) ((model X.prog X.w).den (genS tg elt iter scope pos it X.env)) [] s := by
  have loop := seg_turns (scope := scope) (pos := pos) (iter := iter) hA hc hx hco hex T hg he hw turn n m 0 σc H s₀ s hm w0 I hσ st fr
  show Seg _ A _ _ _ s₀ _ ((compStart (.GeneratorExp elt [⟨tg, iter, [], 0⟩] scope pos) 0 (.ref it) .none X.env).onRaise (leaving X.env)) [] s
  unfold compStart
  rw [Sem.onRaise_eq_wrap]
  show Seg _ A _ _ _ s₀ _ ((ask >>= _).wrap _ _ _ _) [] s
  refine seg_bind_wrap (wpAny_askSetting ?_)
  split
  · exact seg_again rfl loop
  · refine seg_bind_wrap (wpAny_rule ?_)
    show Seg _ A _ _ _ s₀ _ ((standAt iter.pos >>= _).wrap _ _ _ _) [] s
    exact seg_bind_wrap (wpAny_standAt (seg_bind_wrap (T.self _ 0 s _ _ st (seg_again rfl loop))))
end
end Sw
set_option Elab.async false
set_option maxRecDepth 100000
set_option maxHeartbeats 4000000
namespace Sw
open PySem L2 PySem.Spec PyProof.Rows GenW
/-! ### all, any: the consumer -/
section
variable {X : Cx} {A : Around} {a : Addr} {g : Nat} {go : Bool} {QT QF : Hp → Prop} {R : Result → Shared → Prop}
/-- the generator sleeps or has not begun; it may be asked so often -/
def GSt (X : Cx) (A : Around) (g : Nat) (go : Bool) (QT QF : Hp → Prop) (n : Nat) (s : Shared) : Prop :=
  (∃ σc H, Inv X [] σc H s) ∧ ∃ gs, s.gens[g]? = some gs ∧ gs.Goes (model X.prog X.w) A.in1.in1 (fun n s₀ r s₁ => r = .ok .next ∧ RG X QT n s₀ s₁) (YG X go QF) n (.send .none) (s.setGen g .running)
theorem gen_next {E : Value → Shared → Prop} {n : Nat} {s : Shared} {Q : Option Value → Shared → Prop} (hh : A.handled = none) (hroom : A.depth < recursionLimit) (hpn : ∀ s' : Shared, (∀ p ∈ X.pn, s'.heap.get? p.1 = some p.2) → s'.heap.IsGen a g) (st : GSt X A g go QT QF n s)
    (hE : ∀ σc H s', Inv X [] σc H s' → QT H → Q none s') (hF : ∀ σc H s', Inv X [] σc H s' → QF H → Q (some (.bool (!go))) s') (hG : ∀ m s', n = m + 1 → GSt X A g go QT QF m s' → Q (some (.bool go)) s') :
    wpAny (model X.prog X.w) A.in1 (pyNext (.ref a)) Q E s := by
  obtain ⟨⟨σc, H, I⟩, gs, hgs, hgo⟩ := st
  have isg : ∀ {σc : L2.St} {H : Hp} {s' : Shared}, Inv X [] σc H s' → s'.heap.IsGen a g := fun I => hpn _ fun p hp => (I.pin p (List.mem_append_left _ hp)).1
  have hlt : g < s.gens.size := by
    rcases Nat.lt_or_ge g s.gens.size with h | h
    · exact h
    · rw [Array.getElem?_eq_none h] at hgs; cases hgs
  refine wpAny_gsz (n := s.gens.size) (Nat.le_refl _) ?_
  refine wpAny_pyNext_genexpQ (A := A.in1) (Y := YG X go QF) (P := RG X QT) hh I.nolimit hroom (isg I) hgs hgo (fun v s₁ gs' hb hv hsz => ?_) (fun s₁ hp h' hk hsz => ?_)
  · obtain ⟨b, σ1, H1, rfl, I1, q0, q1⟩ := hv
    have hsz : s.gens.size ≤ s₁.gens.size := by rw [← setGen_size s₁ g gs']; exact hsz
    have I2 : Inv X [] σ1 H1 (s₁.setGen g gs') := inv_later I1 (fun _ _ e => e) rfl (allBare_setGen I1.bare hb)
    by_cases e : b = go
    · have k := q1 e ((s₁.setGen g gs').setGen g .running) (fun _ _ e => e) rfl (allBare_setGen (allBare_setGen I1.bare hb) rfl)
      cases n with
      | zero => exact k.elim
      | succ m =>
        rw [e]
        exact hG m _ rfl ⟨⟨σ1, H1, I2⟩, gs', setGen_at (Nat.lt_of_lt_of_le hlt hsz), k⟩
    · have e2 : b = !go := by cases b <;> cases go <;> simp_all
      rw [e2]
      exact hF σ1 H1 _ I2 (q0 e2)
  · obtain ⟨σ1, H1, I1, qt⟩ := hp
    exact hE σ1 H1 _ (inv_later (s := s₁) I1 hk rfl (allBare_setGen I1.bare rfl)) qt
theorem all_loop (hh : A.handled = none) (hroom : A.depth < recursionLimit) (hpn : ∀ s' : Shared, (∀ p ∈ X.pn, s'.heap.get? p.1 = some p.2) → s'.heap.IsGen a g)
    (hT : ∀ σc H s', Inv X [] σc H s' → QT H → R (.ok (.ret (.bool true))) s') (hF : ∀ σc H s', Inv X [] σc H s' → QF H → R (.ok (.ret (.bool false))) s') :
    ∀ (n : Nat) (s : Shared), GSt X A g true QT QF n s → codeAny (model X.prog X.w) A (.builtin "all.loop" ⟨[.ref a], []⟩) R s := by
  intro n
  induction n with
  | zero =>
    intro s st
    refine codeAny_builtin F.entry_all_loop ?_
    rw [Around.under_plainId F.plain_all_loop _]
    show wpAny _ A.in1 (pyNext (.ref a) >>= _) _ _ s
    refine wpAny_bind (gen_next hh hroom hpn st (fun σc H s' I q => ?_) (fun σc H s' I q => ?_) (fun m s' e => by cases e))
    · exact wpAny_bind (wpAny_rule (wpAny_pure (hT σc H s' I q)))
    · refine wpAny_bind (wpAny_holding (wpAny_truthy_bool ?_))
      refine wpAny_bind (wpAny_letGo ?_)
      simp only [Bool.not_true, Bool.false_eq_true, if_false]
      exact wpAny_bind (wpAny_rule (wpAny_pure (hF σc H s' I q)))
  | succ n ih =>
    intro s st
    refine codeAny_builtin F.entry_all_loop ?_
    rw [Around.under_plainId F.plain_all_loop _]
    show wpAny _ A.in1 (pyNext (.ref a) >>= _) _ _ s
    refine wpAny_bind (gen_next hh hroom hpn st (fun σc H s' I q => ?_) (fun σc H s' I q => ?_) (fun m s' e st' => ?_))
    · exact wpAny_bind (wpAny_rule (wpAny_pure (hT σc H s' I q)))
    · refine wpAny_bind (wpAny_holding (wpAny_truthy_bool ?_))
      refine wpAny_bind (wpAny_letGo ?_)
      simp only [Bool.not_true, Bool.false_eq_true, if_false]
      exact wpAny_bind (wpAny_rule (wpAny_pure (hF σc H s' I q)))
    · cases e
      refine wpAny_bind (wpAny_holding (wpAny_truthy_bool ?_))
      refine wpAny_bind (wpAny_letGo ?_)
      simp only [if_true]
      exact wpAny_pure ⟨plainId_quiet F.plain_all_loop _, ih s' st'⟩
theorem any_loop (hh : A.handled = none) (hroom : A.depth < recursionLimit) (hpn : ∀ s' : Shared, (∀ p ∈ X.pn, s'.heap.get? p.1 = some p.2) → s'.heap.IsGen a g)
    (hT : ∀ σc H s', Inv X [] σc H s' → QT H → R (.ok (.ret (.bool false))) s') (hF : ∀ σc H s', Inv X [] σc H s' → QF H → R (.ok (.ret (.bool true))) s') :
    ∀ (n : Nat) (s : Shared), GSt X A g false QT QF n s → codeAny (model X.prog X.w) A (.builtin "any.loop" ⟨[.ref a], []⟩) R s := by
  intro n
  induction n with
  | zero =>
    intro s st
    refine codeAny_builtin F.entry_any_loop ?_
    rw [Around.under_plainId F.plain_any_loop _]
    show wpAny _ A.in1 (pyNext (.ref a) >>= _) _ _ s
    refine wpAny_bind (gen_next hh hroom hpn st (fun σc H s' I q => ?_) (fun σc H s' I q => ?_) (fun m s' e => by cases e))
    · exact wpAny_bind (wpAny_rule (wpAny_pure (hT σc H s' I q)))
    · refine wpAny_bind (wpAny_holding (wpAny_truthy_bool ?_))
      refine wpAny_bind (wpAny_letGo ?_)
      simp only [Bool.not_false, if_true]
      exact wpAny_bind (wpAny_rule (wpAny_pure (hF σc H s' I q)))
  | succ n ih =>
    intro s st
    refine codeAny_builtin F.entry_any_loop ?_
    rw [Around.under_plainId F.plain_any_loop _]
    show wpAny _ A.in1 (pyNext (.ref a) >>= _) _ _ s
    refine wpAny_bind (gen_next hh hroom hpn st (fun σc H s' I q => ?_) (fun σc H s' I q => ?_) (fun m s' e st' => ?_))
    · exact wpAny_bind (wpAny_rule (wpAny_pure (hT σc H s' I q)))
    · refine wpAny_bind (wpAny_holding (wpAny_truthy_bool ?_))
      refine wpAny_bind (wpAny_letGo ?_)
      simp only [Bool.not_false, if_true]
      exact wpAny_bind (wpAny_rule (wpAny_pure (hF σc H s' I q)))
    · cases e
      refine wpAny_bind (wpAny_holding (wpAny_truthy_bool ?_))
      refine wpAny_bind (wpAny_letGo ?_)
      simp only [Bool.false_eq_true, if_false]
      exact wpAny_pure ⟨plainId_quiet F.plain_any_loop _, ih s' st'⟩
end
/-! ### the generator made -/
section
variable {X : Cx} {tg elt iter : Expr} {scope : Scope} {own : List (Str × Nat)} {c P : Addr} {k : Nat} {wi : TI} {g : TG} {te : TE} {go : Bool} {gpos : Pos}
def tGen (P : Addr) (wi : TI) (g : TG) (te : TE) (vs : List Nat) (go : Bool) : TE := fun σ H Q => wi σ H fun J H1 => H1 P = some (TabE P) ∧ ∃ W : Nat → Nat → Hp → Prop, (∃ m, W 0 m H1) ∧
  GWalk go J g te (wipe σ vs) vs (fun H => Q (.bl go) H) (fun H => Q (.bl (!go)) H) W
abbrev genAr (X : Cx) (G : Expr) (it : Addr) (env : Env) : Around := X.A.in1.in1.over (.compLoop G 0 (.ref it) .none env) []
theorem wipe2 (σ : L2.St) (vs : List Nat) : wipe (wipe σ vs) vs = wipe σ vs := by
  refine List.ext_getElem? fun i => ?_
  by_cases h : i ∈ vs
  · by_cases hi : i < σ.length
    · have q : ∀ τ : L2.St, i < τ.length → (wipe τ vs)[i]? = some none := fun τ ht => by
        cases e : (wipe τ vs)[i]? with
        | none => rw [List.getElem?_eq_none_iff, wipe_length] at e; omega
        | some o =>
          cases o with
          | none => rfl
          | some v => exact absurd h (wipe_some e).2
      rw [q _ (by rw [wipe_length]; exact hi), q _ hi]
    · rw [List.getElem?_eq_none (by rw [wipe_length, wipe_length]; omega), List.getElem?_eq_none (by rw [wipe_length]; omega)]
  · rw [wipe_out h]
theorem room_gen {e : Expr} {it : Addr} {env : Env} {A : Around} (hr : Room (k + 1) A) {sc : Scope} {gs : List Comprehension} {ps : Pos} : Room k (A.in1.in1.over (.compLoop (.GeneratorExp e gs sc ps) 0 (.ref it) .none env) []) := by
  refine ⟨hr.hd, ?_, ?_⟩
  · have := hr.dp
    show A.depth + 0 + (1 + 0 + 0 + 0) + 3 * k + 5 < _
    omega
  · have := hr.un
    show A.units + 1 + 1 + 0 + 3 * 1 + 16 * k + 200 < _
    omega
theorem gen_made {pins : List (Addr × Obj)} {s : Shared} {σ : L2.St} {H : Hp} {Q : VK} {Q' : Value → Shared → Prop} (hr : Room (k + 1) X.A) (hN : X.N.Nodup) (TB : GxR.TabB X.base X.mg c P) (hcode : X.env.code = .ref c) (ok : BlkOk X.N X.env.scope scope own) (G : GenSc scope) (hi : PI X tg iter wi)
    (hg : ∀ (s : Shared) (H : Hp) (C : Addr) (code : Value) (A' : Around) (fp : List Addr) (pn : List (Addr × Obj)), Room k A' → PG (X.gen s H scope C code A' fp pn) tg g)
    (he : ∀ (s : Shared) (H : Hp) (C : Addr) (code : Value) (A' : Around) (fp : List Addr) (pn : List (Addr × Obj)), Room k A' → PE (X.gen s H scope C code A' fp pn) elt te)
    (hs : ∀ v, genFold iter X.env v = pure v) (I : Inv X pins σ H s) (h : tGen P wi g te (own.map (·.2)) go σ H Q)
    (hQ : ∀ (X' : Cx) (a : Addr) (gn n : Nat) (s' : Shared), X'.prog = X.prog → X'.w = X.w → (∀ s' : Shared, (∀ p ∈ X'.pn, s'.heap.get? p.1 = some p.2) → s'.heap.IsGen a gn) → GSt X' X.A gn go (fun H => Q (.bl go) H) (fun H => Q (.bl (!go)) H) n s' →
      (∀ σc H s', Inv X' [] σc H s' → Inv X pins σ H s') → s'.heap.IsGen a gn → Q' (.ref a) s') :
    wpAny (model X.prog X.w) X.A (eval (.GeneratorExp elt [⟨tg, iter, [], 0⟩] scope gpos) X.env) Q' X.xe s := by
  have hCap : ∀ y ∈ scope.names, y.2 = .free → ∃ c, X.env.cells.lookup y.1 = some c := fun y hy e => by
    rcases ok.free y hy e with k | k
    · exact I.ok.has _ (.inl k)
    · exact I.ok.has _ (.inr k)
  refine wpAny_GeneratorExp_make G.co (closure_ok hCap) G.cell G.dot ok.kind (by have := hr.dp; omega) ?_ hs
  refine thn (hi.run pins s σ H _ I h) fun xv s1 hx => thn hx fun itv s2 h2 => ?_
  obtain ⟨it, fp, tn, J, H2, e, I2, T, st2, f2, hP, W, ⟨m0, w0⟩, turn⟩ := h2
  subst e
  refine ⟨I2.nolimit, gen_code I2 TB hcode hP fun code h3 tk3 I3 k3 hsz3 => ?_⟩
  obtain ⟨bm, ob, e1, e2, e3, e4, e5, e6, e7, e8⟩ := TB.bm
  refine wpAny_builtinsFor (m := X.mg) (by rw [I3.ok.glob]; exact I3.mod.glob.keeps I3.bk) e1 e2 (I3.bk _ _ e5) e6 e7 e8 ?_
  generalize hs3 : ({ s2 with heap := h3, toks := tk3 } : Shared) = s3 at I3
  have eh3 : h3 = s3.heap := by rw [← hs3]
  subst eh3
  intro h' hn' hsb
  have es3 : s2.gens = s3.gens := by rw [← hs3]
  have st3 : tn 0 s3.heap := T.keep _ _ _ st2 fun b hb o e => k3 b o (fun z => by
    have := (f2 b hb).1
    rw [z, hP] at this
    cases this) e
  have sz3 : ∀ b ∈ fp, b < s3.heap.objs.size := fun b hb => by
    obtain ⟨o, e, _⟩ := T.obj _ _ st3 b hb
    exact Heap.lt_size e
  have hsz : h'.objs.size = s3.heap.objs.size + 1 := by rw [hsb.1, Heap.size_push]
  have keep' : ∀ b o, s3.heap.get? b = some o → h'.get? b = some o := fun b o e => hsb.extBut b o (Nat.ne_of_lt (Heap.lt_size e)) (Heap.get?_push_of_some _ e)
  generalize hgo : ({ cls := .type "generator", data := .fields #[.int s3.gens.size 0, .str "<genexpr>" (s3.toks + 1), .str (X.env.qual ++ "<genexpr>") (s3.toks + 1 + 1)] } : Obj) = gobj
  have keep5 : ∀ b o, s3.heap.get? b = some o → (h'.push gobj).get? b = some o := fun b o e => Heap.get?_push_of_some _ (keep' b o e)
  generalize hGE : (Expr.GeneratorExp elt [⟨tg, iter, [], 0⟩] scope gpos) = GE
  have hX : ∃ X', X' = X.gen s3 H2 scope s3.heap.objs.size code (genAr X GE it (genv X scope s3.heap.objs.size code)) fp [(h'.objs.size, gobj)] := ⟨_, rfl⟩
  obtain ⟨X', eX⟩ := hX
  have isg : ∀ s' : Shared, (∀ p ∈ X'.pn, s'.heap.get? p.1 = some p.2) → s'.heap.IsGen h'.objs.size s3.gens.size := fun s' hp => by
    have q := hp (h'.objs.size, gobj) (by rw [eX]; exact List.mem_singleton.mpr rfl)
    exact ⟨_, _, _, q, by rw [← hgo], by rw [← hgo], by rw [← hgo]⟩
  have hroom : Room k X'.A := by
    rw [eX, ← hGE]
    exact room_gen hr
  have hgc : gobj.data = .fields #[.int s3.gens.size 0, .str "<genexpr>" (s3.toks + 1), .str (X.env.qual ++ "<genexpr>") (s3.toks + 1 + 1)] := by rw [← hgo]
  have start : ∀ s' : Shared, s'.os = s3.os → AllBare s'.gens → (∀ b o, (h'.push gobj).get? b = some o → s'.heap.get? b = some o) → Inv X' [] (wipe σ (own.map (·.2))) H2 s' := fun s' ho hb kk => by
    rw [eX]
    refine gen_start (m := _) I3 ok G hN (fun b hb => ⟨f2 b hb, sz3 b hb⟩) (Nat.le_refl _) hr.hd ?_ ho hb (fun b o e => kk b o (keep5 b o e)) (Heap.Ns.keeps (hn'.push _) kk) fun p hp => ?_
    · have hfr := I3.ok.frames
      rw [← hGE]
      have hfr2 : X.A.in1.in1.frames = some X.stack := hfr
      unfold genAr Around.over
      rw [hfr2]
      rfl
    · rw [List.mem_singleton.mp hp]
      refine ⟨kk _ _ (Heap.get?_push_size _ (by rw [← hgo]; rfl)), by show s3.heap.objs.size ≤ h'.objs.size; omega, by show h'.objs.size ≠ s3.heap.objs.size; omega, fun v z => ?_⟩
      rw [hgc] at z
      cases z
  have back : ∀ σc H s', Inv X' [] σc H s' → Inv X pins σ H s' := fun σc H s' I' => by
    rw [eX] at I'
    exact I3.call' (ch := fp) I'.os I'.base I'.hok I'.bare fun b hb => ⟨(f2 b hb).2.2.2.1, (f2 b hb).2.1, (f2 b hb).2.2.2.2.1, (f2 b hb).2.2.2.2.2⟩
  have hbare : ∀ {c : Code}, AllBare (s3.gens.push (.fresh c)) := fun {c} => I3.bare.push rfl
  refine hQ X' h'.objs.size s3.gens.size (m0 + 1) _ (by rw [eX]) (by rw [eX]) isg ⟨⟨_, _, start _ (by rw [← hs3]) ?_ fun _ _ e => e⟩, _, Array.getElem?_push_size .., rfl, ?_⟩ back ?_
  · exact hbare
  · have I0 := start (({ heap := h'.push gobj, gens := s3.gens.push (.fresh (.compStart GE 0 (.ref it) .none (genv X scope s3.heap.objs.size code))), drawn := s3.drawn, toks := s3.toks + 1 + 1 + 1, os := s3.os } : Shared).setGen s3.gens.size .running) rfl (allBare_setGen (g := s3.gens.size) (x := .running) (s := { heap := h'.push gobj, gens := s3.gens.push (.fresh (.compStart GE 0 (.ref it) .none (genv X scope s3.heap.objs.size code))), drawn := s3.drawn, toks := s3.toks + 1 + 1 + 1, os := s3.os }) hbare rfl) fun _ _ e => e
    have hf : ∀ b ∈ fp, H2 b = none := fun b hb => (f2 b hb).1
    have st5 : tn 0 (h'.push gobj) := T.keep _ _ _ st3 fun b hb o e => keep5 b o e
    have hA : X.A.in1.in1.over (genC tg elt iter scope gpos it X'.env) [] = X'.A := by rw [eX, ← hGE]
    have key := seg_begin (X := X') (scope := scope) (pos := gpos) (iter := iter) (tg := tg) (elt := elt) (it := it) (A := X.A.in1.in1) (fp := fp) (tn := tn) (J := J) (g := g) (te := te) (go := go) (σ0 := wipe σ (own.map (·.2))) (vs := own.map (·.2))
      (QT := fun H => Q (.bl go) H) (QF := fun H => Q (.bl (!go)) H) (W := W) hA (by rw [eX]) (by rw [eX]) (by rw [eX]; exact G.co) (fun b hb => ?_) (by rw [eX]; exact T) (by rw [eX]; exact hg _ _ _ _ _ _ _ (by rw [eX] at hroom; exact hroom)) (by rw [eX]; exact he _ _ _ _ _ _ _ (by rw [eX] at hroom; exact hroom))
      (fun σ => wipe2 σ _) turn (m0 + 1) m0 _ H2 (({ heap := h'.push gobj, gens := s3.gens.push (.fresh (.compStart GE 0 (.ref it) .none (genv X scope s3.heap.objs.size code))), drawn := s3.drawn, toks := s3.toks + 1 + 1 + 1, os := s3.os } : Shared).setGen s3.gens.size .running) (({ heap := h'.push gobj, gens := s3.gens.push (.fresh (.compStart GE 0 (.ref it) .none (genv X scope s3.heap.objs.size code))), drawn := s3.drawn, toks := s3.toks + 1 + 1 + 1, os := s3.os } : Shared).setGen s3.gens.size .running) (Nat.lt_succ_self _) w0 I0 (wipe2 σ _) st5 hf
    · have eC : (genS tg elt iter scope gpos it X'.env) = .compStart GE 0 (.ref it) .none (genv X scope s3.heap.objs.size code) := by rw [eX, ← hGE]
      rw [eC] at key
      exact key
    · rw [eX]
      refine ⟨hb, Nat.ne_of_lt (sz3 b hb), fun z => ?_, fun x c e z => ?_, fun p hp => ?_⟩
      · rcases List.mem_cons.mp (I3.stkSub b z) with z | z
        · exact (f2 b hb).2.1 z
        · exact (f2 b hb).2.2.1 z
      · exact (f2 b hb).2.2.2.2.1 x c (NdefX.clo_cm hCap e) z
      · rw [List.mem_singleton.mp hp]
        have q1 : b < s3.heap.objs.size := sz3 b hb
        show h'.objs.size ≠ b
        rw [hsz]
        exact Nat.ne_of_gt (Nat.lt_succ_of_lt q1)
  · exact ⟨_, _, _, Heap.get?_push_size _ (by rw [← hgo]; rfl), by rw [← hgo], by rw [← hgo], by rw [← hgo]⟩
theorem pe_allG {x : Str} {p pos : Pos} (hx : x = "all") (hr : Room (k + 1) X.A) (hgl : Gl X x) (hm : X.mg x = none) (hN : X.N.Nodup) (TB : GxR.TabB X.base X.mg c P) (hcode : X.env.code = .ref c) (ok : BlkOk X.N X.env.scope scope own) (G : GenSc scope) (hi : PI X tg iter wi)
    (hg : ∀ (s : Shared) (H : Hp) (C : Addr) (code : Value) (A' : Around) (fp : List Addr) (pn : List (Addr × Obj)), Room k A' → PG (X.gen s H scope C code A' fp pn) tg g)
    (he : ∀ (s : Shared) (H : Hp) (C : Addr) (code : Value) (A' : Around) (fp : List Addr) (pn : List (Addr × Obj)), Room k A' → PE (X.gen s H scope C code A' fp pn) elt te)
    (hs : ∀ v, genFold iter X.env v = pure v := by intro _; rfl)
    (hst : starEach [.GeneratorExp elt [⟨tg, iter, [], 0⟩] scope gpos] X.env = (false, eval (.GeneratorExp elt [⟨tg, iter, [], 0⟩] scope gpos) X.env) :: starEach [] X.env := by rfl) :
    PE X (.Call (.Name x p) [.GeneratorExp elt [⟨tg, iter, [], 0⟩] scope gpos] [] pos) (tGen P wi g te (own.map (·.2)) true) := by
  subst hx
  refine ⟨fun pins s σ H Q I h => ?_⟩
  refine wpAny_Call_Name_kw (ld_blt I hgl hm (show bootBuiltins "all" = some (.builtin "all") by decide +kernel) ?_)
  refine PyProof.Rows.callWith_builtin1 ?_ hst (by rfl)
  rw [hst]
  show wpAny _ _ (spliced ((false, eval (.GeneratorExp elt [⟨tg, iter, [], 0⟩] scope gpos) X.env) :: backTo pos (starEach [] X.env))) _ _ s
  refine Calls.spliced_cons (gen_made hr hN TB hcode ok G hi hg he hs I h fun X' a gn n s' ep ew isg st back hgen => ?_)
  refine Calls.spliced_nil ?_
  refine call_function_tree F.kind_all F.plain_all F.entry_all (F.args_all1 _) ?_
  unfold Builtin.«all»
  refine wpAny_bind (wpAny_of_eq (a := Value.ref a) (by rfl) ?_)
  refine wpAny_bind (wpAny_pyIter_gen hgen ?_)
  refine wpAny_pure ⟨plainId_quiet F.plain_all_loop _, ?_⟩
  rw [← ep, ← ew]
  refine all_loop hr.hd (by have := hr.dp; omega) isg (fun σc H' s'' I' q => ?_) (fun σc H' s'' I' q => ?_) n s' st
  · exact ⟨.bl true, H', back _ _ _ I', rfl, q⟩
  · exact ⟨.bl false, H', back _ _ _ I', rfl, q⟩
theorem pe_anyG {x : Str} {p pos : Pos} (hx : x = "any") (hr : Room (k + 1) X.A) (hgl : Gl X x) (hm : X.mg x = none) (hN : X.N.Nodup) (TB : GxR.TabB X.base X.mg c P) (hcode : X.env.code = .ref c) (ok : BlkOk X.N X.env.scope scope own) (G : GenSc scope) (hi : PI X tg iter wi)
    (hg : ∀ (s : Shared) (H : Hp) (C : Addr) (code : Value) (A' : Around) (fp : List Addr) (pn : List (Addr × Obj)), Room k A' → PG (X.gen s H scope C code A' fp pn) tg g)
    (he : ∀ (s : Shared) (H : Hp) (C : Addr) (code : Value) (A' : Around) (fp : List Addr) (pn : List (Addr × Obj)), Room k A' → PE (X.gen s H scope C code A' fp pn) elt te)
    (hs : ∀ v, genFold iter X.env v = pure v := by intro _; rfl)
    (hst : starEach [.GeneratorExp elt [⟨tg, iter, [], 0⟩] scope gpos] X.env = (false, eval (.GeneratorExp elt [⟨tg, iter, [], 0⟩] scope gpos) X.env) :: starEach [] X.env := by rfl) :
    PE X (.Call (.Name x p) [.GeneratorExp elt [⟨tg, iter, [], 0⟩] scope gpos] [] pos) (tGen P wi g te (own.map (·.2)) false) := by
  subst hx
  refine ⟨fun pins s σ H Q I h => ?_⟩
  refine wpAny_Call_Name_kw (ld_blt I hgl hm boot_any ?_)
  refine PyProof.Rows.callWith_builtin1 ?_ hst (by rfl)
  rw [hst]
  show wpAny _ _ (spliced ((false, eval (.GeneratorExp elt [⟨tg, iter, [], 0⟩] scope gpos) X.env) :: backTo pos (starEach [] X.env))) _ _ s
  refine Calls.spliced_cons (gen_made hr hN TB hcode ok G hi hg he hs I h fun X' a gn n s' ep ew isg st back hgen => ?_)
  refine Calls.spliced_nil ?_
  refine call_function_tree F.kind_any F.plain_any F.entry_any (F.args_any1 _) ?_
  unfold Builtin.«any»
  refine wpAny_bind (wpAny_of_eq (a := Value.ref a) (by rfl) ?_)
  refine wpAny_bind (wpAny_pyIter_gen hgen ?_)
  refine wpAny_pure ⟨plainId_quiet F.plain_any_loop _, ?_⟩
  rw [← ep, ← ew]
  refine any_loop hr.hd (by have := hr.dp; omega) isg (fun σc H' s'' I' q => ?_) (fun σc H' s'' I' q => ?_) n s' st
  · exact ⟨.bl false, H', back _ _ _ I', rfl, q⟩
  · exact ⟨.bl true, H', back _ _ _ I', rfl, q⟩
end
/-! ### what the walks ask, by lists -/
theorem gw_tup {K : PySem.W.Frag} {a : Addr} {xs : List V} {go : Bool} {g : TG} {te : TE} {σ0 : L2.St} {vs : List Nat} {QT QF : Hp → Prop} {H : Hp} (Pv : Nat → Hp → Prop) (h0 : Pv 0 H) (hl : ∀ i H, i ≤ xs.length → Pv i H → SqT K H a xs)
    (hs : ∀ i x H, xs[i]? = some x → Pv i H → g x σ0 H fun σ2 H2 => wipe σ2 vs = σ0 ∧ te σ2 H2 fun y H3 => ∃ b, y = .bl b ∧ if b = go then Pv (i + 1) H3 else QF H3) (hd : ∀ H, Pv xs.length H → QT H) :
    ∃ W : Nat → Nat → Hp → Prop, (∃ m, W 0 m H) ∧ GWalk go (Itt K a) g te σ0 vs QT QF W := by
  refine ⟨fun i m H => i ≤ xs.length ∧ m = xs.length - i ∧ Pv i H, ⟨xs.length, Nat.zero_le _, by simp, h0⟩, ?_⟩
  rintro i m H ⟨hi, rfl, hp⟩
  have hL := hl i H hi hp
  by_cases e : i = xs.length
  · exact .inl ⟨⟨xs, hL, by omega⟩, hd H (by rw [← e]; exact hp)⟩
  · have hlt : i < xs.length := by omega
    refine .inr ⟨⟨xs, xs[i], hL, List.getElem?_eq_getElem hlt⟩, Pv (i + 1), fun H' hq => ⟨_, by omega, hlt, rfl, hq⟩, fun x H' hy => ?_⟩
    obtain ⟨rfl, hx⟩ := hy
    exact hs i x _ (hx xs hL) hp
theorem gw_list {K : PySem.W.Frag} {a : Addr} {xs : List V} {go : Bool} {g : TG} {te : TE} {σ0 : L2.St} {vs : List Nat} {QT QF : Hp → Prop} {H : Hp} (Pv : Nat → Hp → Prop) (h0 : Pv 0 H) (hl : ∀ i H, i ≤ xs.length → Pv i H → SqL K H a xs)
    (hs : ∀ i x H, xs[i]? = some x → Pv i H → g x σ0 H fun σ2 H2 => wipe σ2 vs = σ0 ∧ te σ2 H2 fun y H3 => ∃ b, y = .bl b ∧ if b = go then Pv (i + 1) H3 else QF H3) (hd : ∀ H, Pv xs.length H → QT H) :
    ∃ W : Nat → Nat → Hp → Prop, (∃ m, W 0 m H) ∧ GWalk go (Itl K a) g te σ0 vs QT QF W := by
  refine ⟨fun i m H => i ≤ xs.length ∧ m = xs.length - i ∧ Pv i H, ⟨xs.length, Nat.zero_le _, by simp, h0⟩, ?_⟩
  rintro i m H ⟨hi, rfl, hp⟩
  have hL := hl i H hi hp
  by_cases e : i = xs.length
  · exact .inl ⟨⟨xs, hL, by omega⟩, hd H (by rw [← e]; exact hp)⟩
  · have hlt : i < xs.length := by omega
    refine .inr ⟨⟨xs, xs[i], hL, List.getElem?_eq_getElem hlt⟩, Pv (i + 1), fun H' hq => ⟨_, by omega, hlt, rfl, hq⟩, fun x H' hy => ?_⟩
    obtain ⟨rfl, hx⟩ := hy
    exact hs i x _ (hx xs hL) hp
end Sw
set_option Elab.async false
set_option maxRecDepth 100000
set_option maxHeartbeats 4000000
namespace Sw
open PySem L2 PySem.Spec PyProof.Rows GenW
/-! ### the end of a law over defs with generator expressions: their tables are tracked as things that may grow -/
abbrev Tabs (ts : List (Addr × Addr)) (H : Hp) : Prop := ∀ p ∈ ts, H p.2 = some (TabE p.2)
theorem Tabs.same {ts : List (Addr × Addr)} {H H' : Hp} (h : Tabs ts H) (s : Same H H') : Tabs ts H' := fun p hp => s _ _ (h p hp)
theorem law_callE {P : Program} {w : World} {K : PySem.W.Frag} {mg mb : Str → Option Value} {k : Nat} {fa a : Addr} {cs : List (Addr × Addr)} {fd : FuncData} {x : Str} {sp : Sp} {s₁ : Shared} {vs : List Value} {ns : List Int}
    (KX : K.In s₁.heap) (hns : s₁.heap.Ns mainGlobals mg) (hb : s₁.heap.Ns builtinsNs mb) (hbb : ∀ x : Str, x ≠ "__name__" → mb x = bootBuiltins x) (hlim : s₁.heap.NoLimit) (hg : s₁.gens = #[])
    (hT : ∀ p ∈ cs, s₁.heap.get? p.2 = some { cls := .none, data := .fields #[] }) (nT : ∀ p ∈ cs, K.lookup p.2 = none) (C : ∀ p ∈ cs, PySem.W.CodeHd s₁.heap p.1 p.2)
    (hbm : ∃ (bm : Addr) (ob : Obj), mg "__builtins__" = some (.ref bm) ∧ bm ≠ builtinsNs ∧ s₁.heap.get? bm = some ob ∧ ob.cls = .type "module" ∧ ob.dict = some builtinsNs ∧ ob.data = .plain)
    (ha : s₁.heap.get? a = some { cls := .type "list", data := .seq vs.toArray }) (hi : IntsAre vs ns) (hl : ns.length ≤ sizeLine) (hr : Room k callerA)
    (F : ∀ base : Heap, K.In base → base.Ns mainGlobals mg → (∀ p ∈ cs, GxR.TabB base mg p.1 p.2) → FnOk P w K mg base CX0 k fa fd [x] sp) (hbind : ∀ (s : Shared) (u : Value), BindsTo s fd ⟨[u], []⟩ [(x, u)])
    (hsp : ∀ H : Hp, Tabs cs H → SqL K H a (ns.map V.int) → sp [.ref a] H (fun v H' => v = .bl true ∧ Tabs cs H') fun _ _ _ => False) :
    codeAny (model P w) callerA (.call (.ref fa) ⟨[.ref a], []⟩) (fun r s' => r = .ok (.ret (.bool true)) ∧ OldK s₁.heap s'.heap ∧ s'.os = s₁.os ∧ AllBare s'.gens) s₁ := by
  have rv := vals_ints hi
  have lenV := hi.length
  have isT : ∀ b : Addr, b ∈ cs.map (·.2) → s₁.heap.get? b = some { cls := .none, data := .fields #[] } := fun b hb => by
    obtain ⟨p, hp, e⟩ := List.mem_map.mp hb
    rw [← e]
    exact hT p hp
  have aT : a ∉ cs.map (·.2) := fun z => by
    have q := isT a z
    rw [ha] at q
    have z' : Data.seq vs.toArray _ = Data.fields #[] := congrArg Obj.data (Option.some.inj q)
    cases z'
  have memT : ∀ p ∈ cs, p.2 ∈ cs.map (·.2) := fun p hp => List.mem_map.mpr ⟨p, hp, rfl⟩
  have core : ∀ H : Hp, Tabs cs H → (∀ b, H b = none ∨ b ∈ cs.map (·.2) ∨ ∃ o xs, H b = some (.frz o (.lst xs))) → SqL K H a (ns.map V.int) → HOk P w H s₁.heap → (∀ b, H b ≠ none → b = a ∨ b ∈ cs.map (·.2)) → (H a ≠ none → K.lookup a = none) →
      codeAny (model P w) callerA (.call (.ref fa) ⟨[.ref a], []⟩) (fun r s' => r = .ok (.ret (.bool true)) ∧ OldK s₁.heap s'.heap ∧ s'.os = s₁.os ∧ AllBare s'.gens) s₁ := by
    intro H hH hO hS hok hA hK
    have base_of : ∀ {b : Addr} {o : Obj}, s₁.heap.get? b = some o → H b = none → (hidT s₁.heap H).get? b = some o := fun e n => hidT_get e n
    have noD : ∀ {b : Addr} {o : Obj}, s₁.heap.get? b = some o → (∀ vs n, o.data ≠ .seq vs n) → o.data ≠ .fields #[] → H b = none := fun {b o} e h1 h2 => by
      cases q : H b with
      | none => rfl
      | some u =>
        rcases hA b (by rw [q]; simp) with e' | e'
        · rw [e', ha] at e
          cases e
          exact (h1 _ _ rfl).elim
        · rw [isT b e'] at e
          cases e
          exact (h2 rfl).elim
    have noA : ∀ {b : Addr} {o : Obj} {es : Array DictEntry} {ep : Nat}, s₁.heap.get? b = some o → o.data = .dict es ep → H b = none := fun {b o es ep} e d => by
      refine noD e (fun vs n z => ?_) fun z => ?_
      · rw [d] at z
        cases z
      · rw [d] at z
        cases z
    have nsK : ∀ {b : Addr} {m : Str → Option Value}, s₁.heap.Ns b m → (hidT s₁.heap H).Ns b m := fun {b m} ⟨o, es, ep, e, d, r⟩ => ⟨o, es, ep, base_of e (noA e d), d, r⟩
    have hKb : K.In (hidT s₁.heap H) := fun b o e => base_of (KX b o e) (by
      cases q : H b with
      | none => rfl
      | some u =>
        rcases hA b (by rw [q]; simp) with e' | e'
        · rw [e'] at e q
          rw [hK (by rw [q]; simp)] at e
          cases e
        · obtain ⟨p, hp, ep⟩ := List.mem_map.mp e'
          rw [← ep, nT p hp] at e
          cases e)
    have hM : L2.Mod K mg (hidT s₁.heap H) := ⟨hKb, nsK hns, ⟨mb, nsK hb, hbb⟩, let ⟨mc, h1, h2⟩ := hlim; ⟨mc, nsK h1, h2⟩⟩
    have TB : ∀ p ∈ cs, GxR.TabB (hidT s₁.heap H) mg p.1 p.2 := fun p hp => by
      have hTp := hT p hp
      refine ⟨?_, ?_, fun z => ?_⟩
      · obtain ⟨o, us, file, tf, flags, tg, inF, text, tt, e1, r1, r2, r3, r4, r5, r6, r7, r8, hne⟩ := C p hp
        refine ⟨o, us, file, tf, flags, tg, inF, text, tt, base_of e1 (noD e1 (fun vs n z => ?_) fun z => ?_), r1, r2, r3, r4, r5, r6, r7, r8, hne⟩
        · rw [r2] at z
          cases z
        · rw [r2] at z
          cases z
          simp at r3
      · obtain ⟨bm, ob, b1, b2, b3, b4, b5, b6⟩ := hbm
        have nG : bm ≠ mainGlobals := fun q => by
          obtain ⟨o, es, ep, e, hd, _⟩ := hns
          rw [q, e] at b3
          cases b3
          rw [hd] at b6
          cases b6
        have nP : bm ≠ p.2 := fun q => by
          rw [q, hTp] at b3
          cases b3
          cases b6
        refine ⟨bm, ob, b1, b2, nG, nP, base_of b3 (noD b3 (fun vs n z => ?_) fun z => ?_), b4, b5, b6⟩
        · rw [b6] at z
          cases z
        · rw [b6] at z
          cases z
      · obtain ⟨o, es, ep, e, hd, _⟩ := hns
        rw [z, hTp] at e
        cases e
        cases hd
    have e0 : Env0 P w K mg (hidT s₁.heap H) callerA [] s₁ H := ⟨rfl, hM, fun b o e => of_hidT e, Nat.le_of_eq (hidT_size _ _), trivial, fun b hb => absurd (show b ∈ ([] : List Addr) from hb) (by simp), hok, .of_eq hg⟩
    refine codeAny_mono ((F _ hKb (nsK hns) TB).run callerA [] s₁ H ⟨[.ref a], []⟩ [.ref a] [.ref a] _ _ hr e0 (hbind s₁ (.ref a)) (.cons rfl .nil) (hsp H hH hS)) fun r s' h => ?_
    cases r with
    | error e => exact False.elim h
    | ok fl =>
      cases fl with
      | next => exact False.elim h
      | brk => exact False.elim h
      | cont => exact False.elim h
      | ret u =>
        obtain ⟨v, H', os, bare, un, hok', r', q⟩ := h
        obtain ⟨qv, qT⟩ := q
        subst qv
        obtain rfl : u = Value.bool true := r'
        have stays : ∀ b o, b ∉ cs.map (·.2) → s₁.heap.get? b = some o → s'.heap.get? b = some o := fun b o nb e => by
          cases q : H b with
          | none => exact un.keep b o e q (by intro z; exact absurd (show b ∈ ([] : List Addr) from z) (by simp)) (by simp)
          | some u =>
            rcases hO b with z | z | ⟨ob, xs, z⟩
            · rw [q] at z; cases z
            · exact absurd z nb
            · obtain ⟨e1, _⟩ := hok b _ z
              obtain ⟨e2, _⟩ := hok' b _ (un.frzs b ob _ z)
              rw [e] at e1; cases e1
              exact e2
        have grew : ∀ p ∈ cs, ∃ more : Array Value, s'.heap.get? p.2 = some { cls := .none, data := .fields more } := fun p hp => by
          obtain ⟨⟨ps, z, _⟩, _⟩ := hok' p.2 _ (qT p hp)
          exact ⟨ps, z⟩
        refine ⟨rfl, ⟨fun b o e => ?_, fun b o e => ?_⟩, os, bare⟩
        · by_cases hb : b ∈ cs.map (·.2)
          · obtain ⟨p, hp, ep⟩ := List.mem_map.mp hb
            obtain ⟨more, hm⟩ := grew p hp
            rw [← ep] at e ⊢
            rw [hT p hp] at e
            cases e
            exact .inr (.inl ⟨((C p hp).tab (hT p hp)).isCodeTable, rfl, #[], more, rfl, by rw [Array.empty_append]; exact hm⟩)
          · exact .inl (stays b o hb e)
        · by_cases hb : b ∈ cs.map (·.2)
          · obtain ⟨p, hp, ep⟩ := List.mem_map.mp hb
            obtain ⟨more, hm⟩ := grew p hp
            rw [← ep]
            exact ⟨_, hm⟩
          · exact ⟨o, stays b o hb e⟩
  have tOk : ∀ {H : Hp} {b : Addr}, b ∈ cs.map (·.2) → ObjOk P w H s₁.heap b (TabE b) := fun hb => tabE_ok (isT _ hb) (by trivial)
  cases hk : K.lookup a with
  | some o =>
    have e := KX a o hk
    rw [ha] at e
    cases e
    refine core (fun b => if b ∈ cs.map (·.2) then some (TabE b) else none) (fun p hp => if_pos (memT p hp)) (fun b => ?_) (.inr ⟨_, vs.toArray, _, hk, rfl, rfl, rfl, by rw [List.size_toArray, lenV]; exact hl, by simpa using rv⟩) (fun b u z => ?_) (fun b z => ?_) fun z => absurd (show (if a ∈ cs.map (·.2) then some (TabE a) else none) = none from if_neg aT) z
    · by_cases hb : b ∈ cs.map (·.2)
      · exact .inr (.inl hb)
      · exact .inl (if_neg hb)
    · by_cases hb : b ∈ cs.map (·.2)
      · have z' := (if_pos hb).symm.trans z
        cases z'
        exact tOk hb
      · have z' := (if_neg hb).symm.trans z
        cases z'
    · by_cases hb : b ∈ cs.map (·.2)
      · exact .inr hb
      · exact absurd (if_neg hb) z
  | none =>
    refine core (fun b => if b = a then some (.frz { cls := .type "list", data := .seq vs.toArray } (.lst (ns.map V.int))) else if b ∈ cs.map (·.2) then some (TabE b) else none) (fun p hp => (if_neg (show ¬ p.2 = a from fun z => aT (by rw [← z]; exact memT p hp))).trans (if_pos (memT p hp))) (fun b => ?_)
      (.inl (.inr ⟨{ cls := .type "list", data := .seq vs.toArray }, if_pos rfl⟩)) (fun b u z => ?_) (fun b z => ?_) fun _ => hk
    · by_cases hb : b = a
      · exact .inr (.inr ⟨_, _, if_pos hb⟩)
      · by_cases hb2 : b ∈ cs.map (·.2)
        · exact .inr (.inl hb2)
        · exact .inl ((if_neg hb).trans (if_neg hb2))
    · by_cases hb : b = a
      · have z' := (if_pos hb).symm.trans z
        cases z'
        rw [hb]
        exact ⟨ha, by rw [List.length_map]; exact hl, vs, _, rv, ha⟩
      · have z1 := (if_neg hb).symm.trans z
        by_cases hb2 : b ∈ cs.map (·.2)
        · have z' := (if_pos hb2).symm.trans z1
          cases z'
          exact tOk hb2
        · have z' := (if_neg hb2).symm.trans z1
          cases z'
    · by_cases hb : b = a
      · exact .inl hb
      · by_cases hb2 : b ∈ cs.map (·.2)
        · exact .inr hb2
        · exact absurd ((if_neg hb).trans (if_neg hb2)) z
/-- the tables of the defs that stand under these names: empty at the law's entry -/
def OwnT (K : PySem.W.Frag) (h : Heap) (x : Str) (c P : Addr) : Prop := ∀ (f : Addr) (o : Obj) (fd : FuncData) (e : Value) (dd : Option Addr) (vs : Array Value) (sl : Array (Option Value)), PySem.W.nsIn K mainGlobals x = some (some (.ref f)) → K.lookup f = some o → o.data = .func fd → fd.code = .ref c → K.lookup c = some ⟨e, dd, .fields vs, sl⟩ → vs[11]? = some (.ref P) →
  h.get? P = some { cls := .none, data := .fields #[] } ∧ PySem.W.CodeHd h c P
theorem walk_ofE {l : PySem.W.OpenLaw} {n k : Nat} {q : Program} {loose : List Str} {XP : (Str → Option Value) → Heap → Prop} {YP : World → Heap → Prop} {d : DefRec} {K : Params → PySem.W.Frag} {x : Str}
    (hn : l.most = some n) (hn2 : n ≤ sizeLine) (hdf : d.params.defaults = []) (hr : Room k callerA) (hY : ∀ (w : World) (h : Heap), YP w h → (K w.params).In h)
    (F : ∀ (w : World) (mg : Str → Option Value) (fa : Addr) (h : Heap), (K w.params).In h → h.Ns mainGlobals mg → mg d.name = some (.ref fa) → (∀ x c P, ((recsOf q).any fun e => e.name == x) = true → OwnT (K w.params) h x c P) →
      ∃ (fd : FuncData) (cs : List (Addr × Addr)) (sp : Sp), (∀ p ∈ cs, h.get? p.2 = some { cls := .none, data := .fields #[] }) ∧ (∀ p ∈ cs, (K w.params).lookup p.2 = none) ∧ (∀ p ∈ cs, PySem.W.CodeHd h p.1 p.2) ∧ (∀ (s : Shared) (u : Value), BindsTo s fd ⟨[u], []⟩ [(x, u)]) ∧
        (∀ (H : Hp) (a : Addr) (ns : List Int), ns.length ≤ n → (∀ z ∈ ns, Builtin.Int.intBits z ≤ 1048576) → Tabs cs H → SqL (K w.params) H a (ns.map V.int) → sp [.ref a] H (fun v H' => v = .bl true ∧ Tabs cs H') fun _ _ _ => False) ∧
        ∀ base : Heap, (K w.params).In base → base.Ns mainGlobals mg → (∀ p ∈ cs, GxR.TabB base mg p.1 p.2) → FnOk l.prog w (K w.params) mg base CX0 k fa fd [x] sp) :
    PySem.W.WalkO q loose XP YP l.row.toRowW d [] (fun f vs => PySem.call f vs) := by
  refine Att.attach_callB hn hdf fun w s₀ s₁ mg mb fa o pm cd doc a vs ns G Y ho hd hcd hmg hobj hints hlen hbits hg => ?_
  have KX := hY w _ Y
  obtain ⟨fd, cs, sp, hT, nT, C, hb, hsp, hF⟩ := F w mg fa _ KX G.T.g hmg fun x c P hrec f o1 fd1 e dd vs1 sl k0 k1 k2 k3 k4 k5 => by
    obtain ⟨dL, hm, hn1⟩ := List.any_eq_true.mp hrec
    have hn2 : dL.name = x := beq_iff_eq.mp hn1
    obtain ⟨a', o', fd', c', P', h1, h2, h3, h4, h5, h6⟩ := G.T.tab dL hm
    have q0 := PySem.W.mg_of KX G.T.g k0
    rw [hn2, q0] at h1
    cases h1
    have g1 := KX _ _ k1
    rw [g1] at h2
    cases h2
    rw [k2] at h3
    cases h3
    rw [k3] at h4
    cases h4
    have h6' := h6
    obtain ⟨⟨oc, vc, e1, _, e3, e4⟩, hP⟩ := h6
    have g2 := KX _ _ k4
    rw [g2] at e1
    cases e1
    cases e3
    rw [k5] at e4
    cases e4
    exact ⟨hP, PySem.W.CodeHd.of h5 h6'⟩
  exact law_callE KX G.T.g G.T.b G.T.builtins G.T.nolimit hg hT nT C G.T.bmain hobj hints (Nat.le_trans hlen hn2) hr hF hb (fun H hH hS => hsp H a ns hlen hbits hH hS)
end Sw
set_option Elab.async false
set_option maxRecDepth 100000
set_option maxHeartbeats 4000000
namespace Sw
open PySem L2 PySem.Spec PyProof.Rows
/-! ### sets of keys whose table may be walked -/
def Led (w : World) (t : SetTable) : Prop := Ris t.place.toList ∧ (w.params.followText "set-order" = true ∨ t.led = true)
def Sk (P : Program) (w : World) (h : Heap) (a : Addr) (S : Key → Bool) (n : Nat) : Prop :=
  ∃ o es ep t, h.get? a = some o ∧ o.ExactSet ∧ o.data = .set es ep t ∧ ElemsOf (mixKind P w) es.toList ∧ (∀ k, S k = true ↔ ∃ e ∈ es.toList, (mixKind P w).is k e.2 = true) ∧ es.size < scanBound ∧ t.fits es.size = true ∧ es.size = n ∧ Led w t
theorem Sk.of {P : Program} {w : World} {h : Heap} {a : Addr} {S : Key → Bool} {n : Nat} (x : Sk P w h a S n) : h.SetOf (mixKind P w) a S n := by
  obtain ⟨o, es, ep, t, h1, h2, h3, h4, h5, h6, h7, h8, _⟩ := x
  exact ⟨o, es, ep, t, h1, h2, h3, h4, h5, h6, h7, h8⟩
theorem Sk.keep {P : Program} {w : World} {h h' : Heap} {a : Addr} {S : Key → Bool} {n : Nat} (x : Sk P w h a S n) (k : ∀ o, h.get? a = some o → h'.get? a = some o) : Sk P w h' a S n := by
  obtain ⟨o, es, ep, t, h1, r⟩ := x
  exact ⟨o, es, ep, t, k o h1, r⟩
theorem Sk.fresh (P : Program) (w : World) (h : Heap) : Sk P w (h.push { cls := .type "set", dict := none, data := .set #[] 0 (.fresh 0 0 (!w.params.followText "set-order")) }) h.objs.size (fun _ => false) 0 := by
  refine ⟨_, #[], 0, _, Heap.get?_push_size _ rfl, ⟨rfl, rfl, rfl⟩, rfl, fun e he => by simp at he, fun k => by simp, by decide, by rfl, rfl, List.Pairwise.nil, ?_⟩
  show _ ∨ (!w.params.followText "set-order") = true
  cases w.params.followText "set-order" <;> simp
section
variable {P : Program} {w : World} {A : Around} {E : Value → Shared → Prop} {s : Shared} {a : Addr}
theorem quiet2 (b : Bool) {x : String} {s₁ : Shared} {Q : Unit → Shared → Prop} (q : Q () s₁) : wpAny (model P w) A (match b with | true => rule x | false => pure ()) Q E s₁ := by
  cases b
  · exact wpAny_pure q
  · exact wpAny_rule q
/-- what stands behind a new element -/
theorem sk_laid {g : Bool → Sem Unit} (hg : ∀ (b : Bool) (s₁ : Shared) (Q : Unit → Shared → Prop), Q () s₁ → wpAny (model P w) A (g b) Q E s₁) {o : Obj} {es es1 : Array (Int × Value)} {ep n : Nat} {t t2 : SetTable} {S : Key → Bool} {wasDummy : Bool} {R : Option Bool → Shared → Prop}
    (ho : s.heap.get? a = some o) (hex : o.ExactSet) (hd : o.data = .set es ep t) (hel : ElemsOf (mixKind P w) es1.toList) (hm : ∀ k, S k = true ↔ ∃ e ∈ es1.toList, (mixKind P w).is k e.2 = true) (hb : es1.size < scanBound) (hf : t2.fits es1.size = true) (hn : es1.size = n) (hL : Led w t2)
    (k : ∀ h', Heap.SameBut a s.heap h' → Sk P w h' a S n → R (some true) { s with heap := h' }) :
    wpAny (model P w) A (do
        storeSet a es1 t2
        if (!wasDummy && t2.tooFull) = true then do
            g (relayAll t2 es1 (SetTable.grown es1.size)).2.2
            storeSet a (relayAll t2 es1 (SetTable.grown es1.size)).1 (relayAll t2 es1 (SetTable.grown es1.size)).2.1
            pure (some true)
          else pure (some true)) R E s := by
  have at1 := store_at (es' := es1) (t' := t2) ho hd
  have b1 := Heap.SameBut.update s.heap a (Obj.putSet es1 t2)
  refine wpAny_bind (wpAny_storeSet_of ho hd ?_ (fits_of_scanBound hb))
  split
  · have p := relayAll_perm t2 es1 (SetTable.grown es1.size)
    have f := relayAll_fits t2 es1 (SetTable.grown es1.size)
    have r := relayAll_ris t2 es1 (SetTable.grown es1.size)
    have l := relayAll_led t2 es1 (SetTable.grown es1.size)
    cases e : relayAll t2 es1 (SetTable.grown es1.size) with
    | mk es2 z =>
      obtain ⟨t3, gave⟩ := z
      rw [e] at p f r l
      have sz : es2.size = es1.size := by
        have := p.length_eq
        rwa [Array.length_toList, Array.length_toList] at this
      refine wpAny_bind (hg _ _ _ (wpAny_bind (wpAny_storeSet_of at1 rfl ?_ (fits_of_scanBound (by show es2.size < _; rw [sz]; exact hb)))))
      refine wpAny_pure (k _ (b1.trans (Heap.SameBut.update _ a _)) ?_)
      refine ⟨_, es2, _, t3, store_at at1 rfl, hex, rfl, hel.perm p, fun x => (hm x).trans ?_, by rw [sz]; exact hb, f, by rw [sz]; exact hn, r, hL.2.imp id fun q => l.trans q⟩
      exact ⟨fun ⟨y, hy, q⟩ => ⟨y, p.mem_iff.mpr hy, q⟩, fun ⟨y, hy, q⟩ => ⟨y, p.mem_iff.mp hy, q⟩⟩
  · exact wpAny_pure (k _ b1 ⟨_, es1, _, t2, at1, hex, rfl, hel, hm, hb, hf, hn, hL⟩)
theorem sk_add_hashed {S : Key → Bool} {n : Nat} {k : Key} {u : Value} {Q : Bool → Shared → Prop} (hk : (mixKind P w).is k u = true) (hs : u.scannable = true) (x : Sk P w s.heap a S n) (room : n + 1 < scanBound)
    (q : ∀ h', Heap.SameBut a s.heap h' → Sk P w h' a (fun j => S j || decide (j = k)) (if S k = true then n else n + 1) → Q (!S k) { s with heap := h' }) :
    wpAny (model P w) A (setAddHashed a u ((mixKind P w).hash k)) Q E s := by
  obtain ⟨o, es, ep, t, ho, hex, hd, hel, hm, hb, hf, hn, hL⟩ := x
  unfold setAddHashed setAddHashedIn
  refine wpAny_holding (wpAny_bind (wpAny_setState_of ho hd hf ?_))
  dsimp only
  rw [byScan_of hs hb hel]
  simp only [↓reduceIte]
  unfold setAddByScan
  refine wpAny_bind (wpAny_bind (wpAny_rule (wpAny_bind (wpAny_setScan_of hk ho hd hf hel ?_))))
  cases hi : List.findIdx? (fun e => (mixKind P w).is k e.2) es.toList with
  | some j =>
    obtain ⟨hj, pj, _⟩ := List.findIdx?_eq_some_iff_getElem.mp hi
    have inS : S k = true := (hm k).mpr ⟨_, List.getElem_mem hj, pj⟩
    refine wpAny_pure (wpAny_pure ?_)
    have r := q s.heap (Heap.SameBut.refl a s.heap) ⟨o, es, ep, t, ho, hex, hd, hel, fun i => ?_, hb, hf, by rw [if_pos inS]; exact hn, hL⟩
    · rw [inS] at r
      exact r
    · show (S i || decide (i = k)) = true ↔ _
      rw [← hm i]
      by_cases e : i = k
      · rw [e, inS]; simp
      · rw [decide_eq_false e, Bool.or_false]
  | none =>
    have out : ∀ e ∈ es.toList, (mixKind P w).is k e.2 = false := fun e he => by
      have := List.findIdx?_eq_none_iff.mp hi e he
      simpa using this
    have notS : S k = false := by
      cases e : S k with
      | false => rfl
      | true =>
        obtain ⟨y, hy, q⟩ := (hm k).mp e
        rw [out y hy] at q
        cases q
    have p := layNew_perm t es ((mixKind P w).hash k) u
    have f := layNew_fits t es ((mixKind P w).hash k) u
    have r := layNew_ris t es ((mixKind P w).hash k) u hL.1
    have l := layNew_led t es ((mixKind P w).hash k) u
    dsimp only
    generalize layNew t es ((mixKind P w).hash k) u = Z at p f r l ⊢
    obtain ⟨es1, t1, wd, gave⟩ := Z
    dsimp only at p f r l ⊢
    rw [Array.toList_push] at p
    have hel1 : ElemsOf (mixKind P w) es1.toList := (hel.push hk hs).perm p
    have hn1 : es1.size = n + 1 := by
      have := p.length_eq
      rw [List.length_append, List.length_singleton, Array.length_toList, Array.length_toList] at this
      omega
    have hm1 : ∀ i, (S i || decide (i = k)) = true ↔ ∃ e ∈ es1.toList, (mixKind P w).is i e.2 = true := fun i => by
      rw [Bool.or_eq_true, hm i, decide_eq_true_eq]
      constructor
      · rintro (⟨y, hy, z⟩ | e)
        · exact ⟨y, p.mem_iff.mpr (List.mem_append_left _ hy), z⟩
        · rw [e]
          exact ⟨_, p.mem_iff.mpr (List.mem_append_right _ (List.mem_singleton.mpr rfl)), hk⟩
      · rintro ⟨y, hy, z⟩
        rcases List.mem_append.mp (p.mem_iff.mp hy) with hy | hy
        · exact .inl ⟨y, hy, z⟩
        · rw [List.mem_singleton.mp hy] at z
          exact .inr ((mixKind P w).inj _ _ _ z hk)
    have L1 : Led w t1 := ⟨r, hL.2.imp id fun z => l.trans z⟩
    have done : ∀ h', Heap.SameBut a s.heap h' → Sk P w h' a (fun j => S j || decide (j = k)) (n + 1) → Q true { s with heap := h' } := fun h' sb x => by
      have := q h' sb
      rw [notS] at this
      exact this x
    refine wpAny_bind (quiet2 _ ?_)
    split
    · refine wpAny_bind ?_
      rw [hashByValue_scannable 8 hs]
      refine wpAny_pure (sk_laid (fun b s₁ Q' z => by cases b <;> first | exact wpAny_pure z | exact wpAny_rule z) ho hex hd hel1 hm1 (by rw [hn1]; exact room) ?_ hn1 ?_ fun h' sb x => ?_)
      · first | (split <;> first | exact f | exact SetTable.fits_plain_off f) | exact f
      · first | (split <;> exact L1) | exact L1
      · dsimp only; exact wpAny_pure (done h' sb x)
    · refine wpAny_bind (wpAny_pure ?_)
      simp only [↓reduceIte]
      refine sk_laid (fun b s₁ Q' z => by cases b <;> first | exact wpAny_pure z | exact wpAny_rule z) ho hex hd hel1 hm1 (by rw [hn1]; exact room) f hn1 L1 fun h' sb x => ?_
      dsimp only
      exact wpAny_pure (done h' sb x)
end
end Sw
set_option Elab.async false
set_option maxRecDepth 100000
set_option maxHeartbeats 4000000
namespace Sw
open PySem L2 PySem.Spec PyProof.Rows
/-- a set of keys, as a thing of the heap -/
def SkO (P : Program) (w : World) (a : Addr) (S : Key → Bool) (n : Nat) : HO := .ext fun h => Sk P w h a S n
theorem sk_new {P : Program} {w : World} {H : Hp} {h : Heap} {a : Addr} {S : Key → Bool} {n : Nat} (x : Sk P w h a S n) : ObjOk P w H h a (SkO P w a S n) := by
  obtain ⟨o, _, _, _, ho, _⟩ := id x
  exact ⟨x, ⟨o, ho⟩, fun _ _ p k => p.keep k⟩
theorem sk_get {X : Cx} {pins : List (Addr × Obj)} {σ : L2.St} {H : Hp} {s : Shared} {a : Addr} {S : Key → Bool} {n : Nat} (I : Inv X pins σ H s) (ha : H a = some (SkO X.prog X.w a S n)) : Sk X.prog X.w s.heap a S n := (I.hok a _ ha).1
section
variable {X : Cx}
theorem call_add_sk {A : Around} {E : Value → Shared → Prop} {P : Program} {w : World} {s : Shared} {a : Addr} {S : Key → Bool} {n : Nat} {k : Key} {u : Value} {Q : Value → Shared → Prop} (hk : (mixKind P w).is k u = true) (hs : u.scannable = true) (x : Sk P w s.heap a S n) (room : n + 1 < scanBound)
    (q : ∀ h', Heap.SameBut a s.heap h' → Sk P w h' a (fun j => S j || decide (j = k)) (if S k = true then n else n + 1) → Q .none { s with heap := h', toks := s.toks + 1 }) :
    wpAny (model P w) A (call (.builtin "set.add") [.ref a, u]) Q E s := by
  refine wpAny_call_entry F.slot_set_add x.of.typeIs F.entry_set_add ?_ (F.args_set_add_2 _ _)
  unfold Builtin.«set.add» Builtin.Frozenset.oneOther
  simp only [List.isEmpty_nil, bind_assoc]
  unfold Builtin.Frozenset.addrOf setAdd
  refine wpAny_bind (wpAny_pure ?_)
  try dsimp only
  refine wpAny_bind (wpAny_pure ?_)
  try dsimp only
  refine wpAny_bind (wpAny_holding (wpAny_bind ((mixKind P w).pyHash hk ?_)))
  refine sk_add_hashed (s := { s with toks := s.toks + 1 }) hk hs x room fun h' sb y => ?_
  show wpAny _ _ (ret Value.none) _ _ _
  exact wpAny_pure ⟨_, rfl, q h' sb y⟩
def rAddSk (P : Program) (w : World) : V → List V → Hp → VK → Prop := fun x xs H Q => ∃ (a : Addr) (k : Key) (S : Key → Bool) (n : Nat), x = V.ref a ∧ xs = [kV k] ∧ H a = some (SkO P w a S n) ∧ n + 1 < scanBound ∧ Q .non (upd H a (SkO P w a (fun j => S j || decide (j = k)) (if S k = true then n else n + 1)))
theorem mt_addSk : MtR X "set.add" (rAddSk X.prog X.w) := by
  intro pins s σ H x xs v us Q I rx rxs h
  obtain ⟨a, k, S, n, rfl, rfl, ha, room, q⟩ := h
  cases rx
  obtain ⟨u, hu⟩ : ∃ u, us = [u] := by
    cases rxs with
    | cons r t => cases t; exact ⟨_, rfl⟩
  subst hu
  have ru : RelV (kV k) u := by
    cases rxs with
    | cons r t => exact r
  refine call_add_sk (kV_is ru) (key_scan ru) (sk_get I ha) room fun h' sb y => ?_
  obtain ⟨o, _, _, _, ho, _⟩ := id y
  exact ⟨.non, _, I.write (e := a) (t' := s.toks + 1) (by rw [ha]; trivial) (.inl rfl) (fun b u hb hu => (sb.2 b hb).trans hu) ⟨o, ho⟩ (sk_new y), rfl, q⟩
/-! ### len -/
def rLenSk (P : Program) (w : World) : List V → Hp → VK → Prop := fun xs H Q => ∃ (D : Addr) (S : Key → Bool) (n : Nat), xs = [V.ref D] ∧ H D = some (SkO P w D S n) ∧ n ≤ 4095 ∧ Q (.int (n : Int)) H
theorem cr_lenSk : CallR X (.builtin "len") (rLenSk X.prog X.w) := by
  intro pins s σ H xs us Q I r h
  obtain ⟨D, S, n, rfl, hD, hn, q⟩ := h
  cases r with
  | cons r t =>
    cases t
    cases r
    obtain ⟨o, es, ep, t, ho, hex, hd, _, _, _, hf, hz⟩ := (sk_get I hD).of
    exact call_len_set ho hex hd hf (by rw [hz]; omega) ⟨.int (n : Int), H, I.tok _, ⟨_, by rw [hz]⟩, q⟩
end
end Sw
set_option Elab.async false
set_option maxRecDepth 100000
set_option maxHeartbeats 4000000
namespace Sw
open PySem L2 PySem.Spec PyProof.Rows
/-! ### set comprehensions of texts, of one clause and of two -/
/-- a comprehension's turn: M what a kept item does -/
def turnOf (p : Pos) (it : Value) (tg : Expr) (ifs : List Expr) (env : Env) (M : Sem PySem.Fin) (code : Code) : Sem PySem.Fin := do
  standAt p
  match ← pyNext it with
  | none => pure (.done .next)
  | some v =>
    letOwnedTupleGo tg it v
    assign tg env v
    let mut ok := true
    for c in ifs do
      if ok then ok ← isTrue c env (eval c env)
    if ok then M else again code
theorem turn1 (elt tg iter : Expr) (ifs : List Expr) (scope : Scope) (pos : Pos) (it acc : Value) (env : Env) :
    compTurn (.SetComp elt [⟨tg, iter, ifs, 0⟩] scope pos) 0 it acc env = turnOf iter.pos it tg ifs env (do (do let v ← eval elt env; standAt elt.pos; let _ ← call (.builtin "set.add") [acc, v]); again (.compLoop (.SetComp elt [⟨tg, iter, ifs, 0⟩] scope pos) 0 it acc env)) (.compLoop (.SetComp elt [⟨tg, iter, ifs, 0⟩] scope pos) 0 it acc env) := by rfl
theorem turn2o (elt tg iter tg1 iter1 : Expr) (ifs ifs1 : List Expr) (scope : Scope) (pos : Pos) (it acc : Value) (env : Env) :
    compTurn (.SetComp elt [⟨tg, iter, ifs, 0⟩, ⟨tg1, iter1, ifs1, 0⟩] scope pos) 0 it acc env = turnOf iter.pos it tg ifs env (do
      let x ← eval iter1 env
      standAt iter1.pos
      let x ← foldedSetIterable iter1 env x
      let _ ← runOwn (.compStart (.SetComp elt [⟨tg, iter, ifs, 0⟩, ⟨tg1, iter1, ifs1, 0⟩] scope pos) 1 (← holding [x] (pyIter x)) acc env) env
      again (.compLoop (.SetComp elt [⟨tg, iter, ifs, 0⟩, ⟨tg1, iter1, ifs1, 0⟩] scope pos) 0 it acc env)) (.compLoop (.SetComp elt [⟨tg, iter, ifs, 0⟩, ⟨tg1, iter1, ifs1, 0⟩] scope pos) 0 it acc env) := by rfl
theorem turn2i (elt tg iter tg1 iter1 : Expr) (ifs ifs1 : List Expr) (scope : Scope) (pos : Pos) (it acc : Value) (env : Env) :
    compTurn (.SetComp elt [⟨tg, iter, ifs, 0⟩, ⟨tg1, iter1, ifs1, 0⟩] scope pos) 1 it acc env = turnOf iter1.pos it tg1 ifs1 env (do (do let v ← eval elt env; standAt elt.pos; let _ ← call (.builtin "set.add") [acc, v]); again (.compLoop (.SetComp elt [⟨tg, iter, ifs, 0⟩, ⟨tg1, iter1, ifs1, 0⟩] scope pos) 1 it acc env))
      (.compLoop (.SetComp elt [⟨tg, iter, ifs, 0⟩, ⟨tg1, iter1, ifs1, 0⟩] scope pos) 1 it acc env) := by rfl
/-- a walk with a thing done each turn, told by heaps; the block's slots are σ0 at each turn's begin -/
def CWalk (J : It) (g : TG) (tt : TT) (body : L2.St → Hp → (Hp → Prop) → Prop) (σ0 : L2.St) (vs : List Nat) (QT : Hp → Prop) (W : Nat → Nat → Hp → Prop) : Prop := ∀ i m H, W i m H →
  (J.stop i H ∧ QT H) ∨ (J.go i H ∧ ∃ Nx : Hp → Prop, (∀ H', Nx H' → ∃ m', m' < m ∧ W (i + 1) m' H') ∧ ∀ x H', J.yld i H x H' → g x σ0 H' fun σ2 H2 => wipe σ2 vs = σ0 ∧ tt σ2 H2 fun b H3 => if b = true then body σ2 H3 Nx else Nx H3)
/-- what M does in a block: from σ2, H to the wish, the slots those that were known -/
def Does (Y : Cx) (M : Sem PySem.Fin) (code : Code) (body : L2.St → Hp → (Hp → Prop) → Prop) (vs : List Nat) : Prop := ∀ (pins : List (Addr × Obj)) (s : Shared) (σ2 : L2.St) (H : Hp) (Nx : Hp → Prop), Inv Y pins σ2 H s → body σ2 H Nx →
  wpAny (model Y.prog Y.w) Y.A M (fun fin s' => fin = .again code ∧ ∃ σ3 H', Inv Y pins σ3 H' s' ∧ (∀ (j : Nat) v, (wipe σ2 vs)[j]? = some (some v) → σ3[j]? = some (some v)) ∧ Nx H') (fun _ _ => False) s
theorem loop_turns {Y : Cx} {e : Expr} {d : Nat} {it : Addr} {acc : Value} {p : Pos} {tg : Expr} {ifs : List Expr} {M : Sem PySem.Fin} {fp : List Addr} {tn : Nat → Heap → Prop} {J : It} {g : TG} {tt : TT} {body : L2.St → Hp → (Hp → Prop) → Prop} {σ0 : L2.St} {vs : List Nat} {QT : Hp → Prop} {W : Nat → Nat → Hp → Prop} {pins : List (Addr × Obj)} {R : Result → Shared → Prop}
    (hq : (Code.compLoop e d (.ref it) acc Y.env).quiet = true) (hU : Y.A.under (.compLoop e d (.ref it) acc Y.env) = Y.A) (hden : (model Y.prog Y.w).den (.compLoop e d (.ref it) acc Y.env) = (compTurn e d (.ref it) acc Y.env).onRaise (fun x => do noteFrame x Y.env; theTreesLotGoes x))
    (ht : compTurn e d (.ref it) acc Y.env = turnOf p (.ref it) tg ifs Y.env M (.compLoop e d (.ref it) acc Y.env))
    (hc : Y.calm = true) (hx : Y.xe = fun _ _ => False) (hfp : ∀ b ∈ fp, b ≠ Y.env.locals ∧ b ∉ Y.fs ∧ (b ∈ Y.ex ∨ Y.s_0.heap.objs.size ≤ b) ∧ (∀ x c, Y.env.cells.lookup x = some c → c ≠ b) ∧ ∀ p ∈ Y.pn ++ pins, p.1 ≠ b)
    (T : Turn Y.prog Y.w Y.K tg J fp it tn) (hg : PG Y tg g) (htt : PTs Y ifs tt) (hM : Does Y M (.compLoop e d (.ref it) acc Y.env) body vs) (h0 : wipe σ0 vs = σ0) (walk : CWalk J g tt body σ0 vs QT W)
    (hR : ∀ H s', Inv Y pins σ0 H s' → QT H → R (.ok .next) s') :
    ∀ (m : Nat) (s : Shared), (∃ i H, Inv Y pins σ0 H s ∧ tn i s.heap ∧ (∀ b ∈ fp, H b = none) ∧ W i m H) → codeAny (model Y.prog Y.w) Y.A (.compLoop e d (.ref it) acc Y.env) R s := by
  intro m s hI
  refine codeAny_loop hq (fun m s => ∃ i H, Inv Y pins σ0 H s ∧ tn i s.heap ∧ (∀ b ∈ fp, H b = none) ∧ W i m H) (fun n s hI => ?_) m hI
  obtain ⟨i, H, I, st, fr, w0⟩ := hI
  rw [hU, hden]
  refine wpAny_noted ?_
  rw [ht]
  unfold turnOf
  have stat : ∀ {H' : Hp}, (∀ b ∈ fp, H' b = none) → ∀ b ∈ fp, FpOk Y pins H' b := fun {H'} hn b hb => ⟨hn b hb, hfp b hb⟩
  refine wpAny_bind (wpAny_standAt ?_)
  rcases walk i n H w0 with ⟨stop, qt⟩ | ⟨hgo, Nx, hN, step⟩
  · refine wpAny_bind (thnF (T.done Y rfl rfl rfl hc i pins s σ0 H (fun _ _ => False) I (stat fr) st stop) fun r s1 ⟨hr, I1⟩ => ?_)
    subst hr
    exact wpAny_pure (hR H s1 I1 qt)
  · refine wpAny_bind (thnF (T.item Y rfl rfl rfl hc i pins s σ0 H (fun _ _ => False) I (stat fr) st hgo) fun r s1 ⟨u, hr, h1⟩ => ?_)
    subst hr
    refine wpAny_bind (thnF h1 fun _ s2 ⟨x, H2, I2, r2, y2, st2, fr2⟩ => ?_)
    have I2' := I2.pinned (stat fr2) (T.obj _ _ st2)
    have h3 := hg.run _ s2 σ0 H2 x u _ I2' r2 (step x H2 y2)
    rw [hx] at h3
    refine wpAny_bind (thnF h3 fun _ s3 ⟨σ3, H3, I3, w3, q3⟩ => ?_)
    have h4 := htt.run _ s3 σ3 H3 _ I3 q3
    rw [hx] at h4
    refine wpAny_bind (thnF h4 fun ok s4 ⟨H4, I4, q4⟩ => ?_)
    have hl : σ0.length = σ3.length := by rw [← w3, wipe_length]
    have fin : ∀ {s' : Shared} {H' : Hp} {σ' : L2.St}, Inv Y (pins ++ pinsAt fp s2.heap) σ' H' s' → (∀ (j : Nat) v, σ0[j]? = some (some v) → σ'[j]? = some (some v)) → Nx H' → ∃ m', m' < n ∧ ∃ i H, Inv Y pins σ0 H s' ∧ tn i s'.heap ∧ (∀ b ∈ fp, H b = none) ∧ W i m' H := fun {s' H' σ'} I' hs nx => by
      obtain ⟨m', hm, w'⟩ := hN H' nx
      have pin' : ∀ b ∈ fp, ∀ o, s2.heap.get? b = some o → s'.heap.get? b = some o ∧ H' b = none := fun b hb o e =>
        let z := I'.pin (b, o) (List.mem_append_right _ (List.mem_append_right _ (mem_pinsAt hb e)))
        ⟨z.1, z.2.1⟩
      refine ⟨m', hm, i + 1, H', I'.unpinned.weak (by rw [hl, I3.len, I'.len]) hs, T.keep _ _ _ st2 fun b hb o e => (pin' b hb o e).1, fun b hb => ?_, w'⟩
      obtain ⟨o, e, _⟩ := T.obj _ _ st2 b hb
      exact (pin' b hb o e).2
    cases ok with
    | false =>
      rw [if_neg Bool.false_ne_true] at q4
      refine wpAny_pure ⟨rfl, fin I4 (fun j v e => ?_) q4⟩
      rw [← w3] at e
      exact (wipe_some e).1
    | true =>
      rw [if_pos rfl] at q4
      refine thnF (hM _ s4 σ3 H4 Nx I4 q4) fun f s5 ⟨ef, σ5, H5, I5, k5, n5⟩ => ?_
      subst ef
      refine ⟨rfl, fin I5 (fun j v e => ?_) n5⟩
      rw [← w3] at e
      exact k5 j v e
end Sw
set_option Elab.async false
set_option maxRecDepth 100000
set_option maxHeartbeats 4000000
namespace Sw
open PySem L2 PySem.Spec PyProof.Rows PpSet
/-! ### the frame of a set comprehension -/
def tSetAdd (P : Program) (w : World) (D : Addr) (te : TE) : L2.St → Hp → (Hp → Prop) → Prop := fun σ2 H Nx => te σ2 H fun y H4 => ∃ (k : Key) (S : Key → Bool) (n : Nat), y = kV k ∧ H4 D = some (SkO P w D S n) ∧ n + 1 < scanBound ∧ Nx (upd H4 D (SkO P w D (fun j => S j || decide (j = k)) (if S k = true then n else n + 1)))
theorem does_add {Y : Cx} {elt : Expr} {te : TE} {D : Addr} {code : Code} {vs : List Nat} (he : PE Y elt te) (hx : Y.xe = fun _ _ => False) :
    Does Y (do (do let v ← eval elt Y.env; standAt elt.pos; let _ ← call (.builtin "set.add") [.ref D, v]); again code) code (tSetAdd Y.prog Y.w D te) vs := by
  intro pins s σ2 H Nx I q
  have h1 := he.run _ s σ2 H _ I q
  rw [hx] at h1
  refine wpAny_bind (wpAny_bind (thnF h1 fun v s1 ⟨y, H1, I1, r1, k, S, n, ey, hD, hn, nx⟩ => ?_))
  subst ey
  refine wpAny_bind (wpAny_standAt (wpAny_bind ?_))
  have h2 := mt_addSk (X := Y) pins s1 σ2 H1 (.ref D) [kV k] (.ref D) [v] (fun _ H' => Nx H') I1 rfl (.cons r1 .nil) ⟨D, k, S, n, rfl, rfl, hD, hn, nx⟩
  rw [hx] at h2
  refine thnF h2 fun _ s2 ⟨_, H2, I2, _, n2⟩ => ?_
  exact wpAny_pure (wpAny_pure ⟨rfl, σ2, H2, I2, fun j v e => (wipe_some e).1, n2⟩)
section
variable {X : Cx} {tg elt iter : Expr} {ifs : List Expr} {rest : List Comprehension} {scope : Scope} {own : List (Str × Nat)} {pos : Pos} {wi : TI}
/-- the block in which the walk runs, told to who proves the loop -/
structure SBlk (X : Cx) (σ : L2.St) (vs : List Nat) (scope : Scope) (D it : Addr) (fp : List Addr) (Y : Cx) : Prop where
  isB : ∃ s3 H3 C cl, Y = X.blk s3 H3 scope (compEnvC scope cl C X.env) fp
theorem set_frame {pins : List (Addr × Obj)} {s : Shared} {σ : L2.St} {H : Hp} {Q : VK} (hc : X.calm = true) (hN : X.N.Nodup) (I : Inv X pins σ H s) (hi : PI X tg iter wi) (ok : BlkOk X.N X.env.scope scope own) (hs : ∀ x, foldedSetIterable iter X.env x = pure x)
    {R0 : It → Addr → Hp → Prop} (h : wi σ H fun J H1 => ∀ D, H1 D = none → R0 J D (upd H1 D (SkO X.prog X.w D (fun _ => false) 0)))
    (loop : ∀ (Y : Cx) (D it : Addr) (J : It) (fp : List Addr) (tn : Nat → Heap → Prop) (H3 : Hp) (s4 : Shared) (R : Result → Shared → Prop), SBlk X σ (own.map (·.2)) scope D it fp Y → Inv Y [] (wipe σ (own.map (·.2))) H3 s4 → Turn Y.prog Y.w Y.K tg J fp it tn → tn 0 s4.heap → (∀ b ∈ fp, H3 b = none) → R0 J D H3 →
      (∀ b ∈ fp, b ≠ Y.env.locals ∧ b ∉ Y.fs ∧ (b ∈ Y.ex ∨ Y.s_0.heap.objs.size ≤ b) ∧ (∀ x c, Y.env.cells.lookup x = some c → c ≠ b) ∧ ∀ p ∈ Y.pn ++ [], p.1 ≠ b) →
      (∀ H s', Inv Y [] (wipe σ (own.map (·.2))) H s' → Q (.ref D) H → R (.ok .next) s') → codeAny (model Y.prog Y.w) Y.A (.compLoop (.SetComp elt (⟨tg, iter, ifs, 0⟩ :: rest) scope pos) 0 (.ref it) (.ref D) Y.env) R s4) :
    wpAny (model X.prog X.w) X.A (eval (.SetComp elt (⟨tg, iter, ifs, 0⟩ :: rest) scope pos) X.env) (EP X pins σ Q) X.xe s := by
  have hCap : ∀ y ∈ scope.names, y.2 = .free → ∃ c, X.env.cells.lookup y.1 = some c := fun y hy e => by
    rcases ok.free y hy e with k | k
    · exact I.ok.has _ (.inl k)
    · exact I.ok.has _ (.inr k)
  rw [eval_SetComp]
  show wpAny _ _ (comprehension (.SetComp elt (⟨tg, iter, ifs, 0⟩ :: rest) scope pos) scope X.env _ (newSet (.type "set")) false (eval iter X.env)) _ _ s
  refine wpAny_comprehension_free (g := ⟨tg, iter, ifs, 0⟩) (gs := rest) (use := none) rfl hs (closure_ok hCap) ok.kind (fun y hy e => by rw [ok.uniq y hy, e]) (thn (hi.run pins s σ H _ I h) fun xv s1 hx => thn hx fun itv s2 h2 => ?_)
  obtain ⟨it, fp, tn, J, H2, e, I2, T, st2, f2, q⟩ := h2
  subst e
  refine newSet_ok (newEnv_comp ?_)
  generalize hD : s2.heap.objs.size = D
  have hDn : H2 D = none := I2.hok.fresh (Nat.le_of_eq hD)
  have q0 := q D hDn
  generalize hs3 : ({ s2 with heap := s2.heap.push { cls := .type "set", dict := none, data := .set #[] 0 (.fresh 0 0 (!X.w.params.followText "set-order")) } } : Shared) = s3
  have I3 : Inv X pins σ (upd H2 D (SkO X.prog X.w D (fun _ => false) 0)) s3 := by
    rw [← hs3]
    refine I2.laid (t' := s2.toks) (fun b o e => Heap.get?_push_of_some _ e) (Nat.le_of_eq hD) ?_
    rw [← hD]
    exact sk_new (Sk.fresh X.prog X.w s2.heap)
  have h3 : s3.heap = s2.heap.push { cls := .type "set", dict := none, data := .set #[] 0 (.fresh 0 0 (!X.w.params.followText "set-order")) } := by rw [← hs3]
  have sz : ∀ b ∈ fp, b < s2.heap.objs.size := fun b hb => by
    obtain ⟨o, e, _⟩ := T.obj _ _ st2 b hb
    exact Heap.lt_size e
  generalize hH3 : upd H2 D (SkO X.prog X.w D (fun _ => false) 0) = H3 at I3 q0
  have f3 : ∀ b ∈ fp, FpOk X pins H3 b ∧ b < s3.heap.objs.size := fun b hb => by
    have hlt := sz b hb
    refine ⟨⟨?_, (f2 b hb).2⟩, by rw [h3, Heap.size_push]; exact Nat.lt_succ_of_lt hlt⟩
    rw [← hH3, upd_ne (by rw [← hD]; exact Nat.ne_of_lt hlt)]
    exact (f2 b hb).1
  have st3 : tn 0 s3.heap := T.keep _ _ _ st2 fun b _ o e => by rw [h3]; exact Heap.get?_push_of_some _ e
  have I4 := block_start I3 ok hN f3
  have kp4 : ∀ b o, s3.heap.get? b = some o → (pushCells (s3.heap.push { cls := .type "dict", data := .dict #[] }) scope.names).get? b = some o := fun b o e => pushCells_keeps _ _ _ _ (Heap.get?_push_of_some _ e)
  have st4 : tn 0 (pushCells (s3.heap.push { cls := .type "dict", data := .dict #[] }) scope.names) := T.keep _ _ _ st3 fun b _ o e => kp4 b o e
  show codeAny _ _ (.compStart (.SetComp elt (⟨tg, iter, ifs, 0⟩ :: rest) scope pos) 0 (.ref it) (.ref D) (compEnvC scope (cellsFrom (s3.heap.objs.size + 1) scope.names (cloFrom X.env.cells scope.names [])) s3.heap.objs.size X.env)) (compPost (model X.prog X.w) X.A X.xe none (EP X pins σ Q) (.ref D) s3.heap.objs.size) { s3 with heap := pushCells (s3.heap.push { cls := .type "dict", data := .dict #[] }) scope.names }
  have lp := loop _ D it J fp tn H3 _ (compPost (model X.prog X.w) X.A X.xe none (EP X pins σ Q) (.ref D) s3.heap.objs.size) ⟨s3, H3, _, _, rfl⟩ I4 T st4 (fun b hb => (f3 b hb).1.1) q0
    (fun b hb => ⟨(I4.ok.exf b hb).1, I4.ok.exfs b hb, .inl hb, fun x c e => (I4.ok.exf b hb).2 x c e, fun p hp => absurd (show p ∈ ([] : List (Addr × Obj)) ++ [] from hp) (by simp)⟩)
    (fun H' s' I6 qq => by
      have I7 : Inv X pins σ H' s' := I3.call' (ch := fp) I6.os I6.base I6.hok I6.bare fun b hb => ⟨(f3 b hb).1.2.2.2.1, (f3 b hb).1.2.1, (f3 b hb).1.2.2.2.2.1, (f3 b hb).1.2.2.2.2.2⟩
      obtain ⟨m, hn, _⟩ := I6.loc
      refine ⟨m, hn, fun h'' sb => ?_⟩
      obtain ⟨f0, f1, f2, f4, f5, f6⟩ := I3.fpOk (b := s3.heap.objs.size) (Nat.le_refl _) (show H' s3.heap.objs.size = none from I6.free)
      exact ⟨.ref D, H', I7.turned (t' := s'.toks) (fun b o hb e => (sb.2 b hb).trans e) f0 f1 f4 f5 f6, rfl, qq⟩)
  exact codeAny_compStart_set lp (T.self X.A 0 _ _ _ st4 lp)
/-- {elt for tg in iter if ..}, elt a text or a whole number -/
def tSet1 (P : Program) (w : World) (wi : TI) (g : TG) (tt : TT) (te : TE) (vs : List Nat) : TE := fun σ H Q => wi σ H fun J H1 => ∀ D, H1 D = none → ∃ W : Nat → Nat → Hp → Prop, (∃ m, W 0 m (upd H1 D (SkO P w D (fun _ => false) 0))) ∧
  CWalk J g tt (tSetAdd P w D te) (wipe σ vs) vs (fun H => Q (.ref D) H) W
theorem wipeSame (σ : L2.St) (vs : List Nat) : wipe (wipe σ vs) vs = wipe σ vs := wipe2 σ vs
theorem pe_set1 {g : TG} {tt : TT} {te : TE} (hc : X.calm = true) (hN : X.N.Nodup) (hi : PI X tg iter wi) (ok : BlkOk X.N X.env.scope scope own)
    (hg : ∀ (s : Shared) (H : Hp) (C : Addr) (cl : List (Str × Addr)) (fp : List Addr), PG (X.blk s H scope (compEnvC scope cl C X.env) fp) tg g) (ht : ∀ (s : Shared) (H : Hp) (C : Addr) (cl : List (Str × Addr)) (fp : List Addr), PTs (X.blk s H scope (compEnvC scope cl C X.env) fp) ifs tt)
    (he : ∀ (s : Shared) (H : Hp) (C : Addr) (cl : List (Str × Addr)) (fp : List Addr), PE (X.blk s H scope (compEnvC scope cl C X.env) fp) elt te) (hs : ∀ x, foldedSetIterable iter X.env x = pure x := by intro _; rfl) :
    PE X (.SetComp elt [⟨tg, iter, ifs, 0⟩] scope pos) (tSet1 X.prog X.w wi g tt te (own.map (·.2))) := by
  refine ⟨fun pins s σ H Q I h => ?_⟩
  refine set_frame hc hN I hi ok hs (R0 := fun J D H3 => ∃ W : Nat → Nat → Hp → Prop, (∃ m, W 0 m H3) ∧ CWalk J g tt (tSetAdd X.prog X.w D te) (wipe σ (own.map Prod.snd)) (own.map Prod.snd) (fun H => Q (.ref D) H) W) h fun Y D it J fp tn H3 s4 R B I4 T st4 fr q0 hfp hR => ?_
  obtain ⟨s3, H3', C, cl, rfl⟩ := B.isB
  obtain ⟨W, ⟨m0, w0⟩, walk⟩ := q0
  exact loop_turns (Y := X.blk s3 H3' scope (compEnvC scope cl C X.env) fp) rfl rfl rfl (turn1 ..) hc rfl hfp T (hg _ _ _ _ _) (ht _ _ _ _ _) (does_add (he _ _ _ _ _) rfl) (wipe2 σ _) walk hR m0 s4 ⟨0, H3, I4, st4, fr, w0⟩
/-! two clauses -/
variable {tg1 iter1 : Expr} {ifs1 : List Expr}
theorem start1 {prog : Program} {w : World} {A : Around} {R : Result → Shared → Prop} {s : Shared} {it acc : Value} {env : Env} (h0 : codeAny (model prog w) A (.compLoop (.SetComp elt [⟨tg, iter, ifs, 0⟩, ⟨tg1, iter1, ifs1, 0⟩] scope pos) 1 it acc env) R s)
    (h : wpAny (model prog w) A (pyIter it) (fun it' s' => codeAny (model prog w) A (.compLoop (.SetComp elt [⟨tg, iter, ifs, 0⟩, ⟨tg1, iter1, ifs1, 0⟩] scope pos) 1 it' acc env) R s') (notedBy (model prog w) A env fun x s' => R (.error x) s') s) :
    codeAny (model prog w) A (.compStart (.SetComp elt [⟨tg, iter, ifs, 0⟩, ⟨tg1, iter1, ifs1, 0⟩] scope pos) 1 it acc env) R s := by
  refine codeAny_of_tree ?_
  show wpAny _ _ ((compStart (.SetComp elt [⟨tg, iter, ifs, 0⟩, ⟨tg1, iter1, ifs1, 0⟩] scope pos) 1 it acc env).onRaise _) _ _ s
  refine wpAny_notedAt ?_
  unfold compStart
  show wpAny _ _ (ask >>= _) _ _ s
  refine wpAny_bind (wpAny_askSetting (wpAny_ite ?_))
  split
  · first
      | exact wpAny_bind (wpAny_pure (wpAny_pure ⟨rfl, h0⟩))
      | exact wpAny_pure ⟨rfl, h0⟩
  · first
      | exact wpAny_bind (wpAny_rule (wpAny_bind (wpAny_standAt (wpAny_bind (wpAny_mono h (fun it' s' h' => wpAny_pure ⟨rfl, h'⟩) fun _ _ x => x)))))
      | (refine wpAny_bind (wpAny_rule ?_); show wpAny _ _ (standAt iter1.pos >>= _) _ _ s; exact wpAny_bind (wpAny_standAt (wpAny_bind (wpAny_mono h (fun it' s' h' => wpAny_pure ⟨rfl, h'⟩) fun _ _ x => x))))
def tInner (wi1 : TI) (g1 : TG) (tt1 : TT) (add : L2.St → Hp → (Hp → Prop) → Prop) (vs1 : List Nat) : L2.St → Hp → (Hp → Prop) → Prop := fun σ2 H Nx => wi1 σ2 H fun J1 H1 => ∃ W1 : Nat → Nat → Hp → Prop, (∃ m, W1 0 m H1) ∧ CWalk J1 g1 tt1 add (wipe σ2 vs1) vs1 Nx W1
theorem does_inner {Y : Cx} {wi1 : TI} {g1 : TG} {tt1 : TT} {te : TE} {D it : Addr} {vs vs1 : List Nat} (hc : Y.calm = true) (hx : Y.xe = fun _ _ => False) (hv : ∀ i ∈ vs1, i ∈ vs) (hi1 : PI Y tg1 iter1 wi1) (hg1 : PG Y tg1 g1) (ht1 : PTs Y ifs1 tt1) (he : PE Y elt te) (hs1 : ∀ x, foldedSetIterable iter1 Y.env x = pure x) :
    Does Y (do
      let x ← eval iter1 Y.env
      standAt iter1.pos
      let x ← foldedSetIterable iter1 Y.env x
      let _ ← runOwn (.compStart (.SetComp elt [⟨tg, iter, ifs, 0⟩, ⟨tg1, iter1, ifs1, 0⟩] scope pos) 1 (← holding [x] (pyIter x)) (.ref D) Y.env) Y.env
      again (.compLoop (.SetComp elt [⟨tg, iter, ifs, 0⟩, ⟨tg1, iter1, ifs1, 0⟩] scope pos) 0 (.ref it) (.ref D) Y.env))
      (.compLoop (.SetComp elt [⟨tg, iter, ifs, 0⟩, ⟨tg1, iter1, ifs1, 0⟩] scope pos) 0 (.ref it) (.ref D) Y.env) (tInner wi1 g1 tt1 (tSetAdd Y.prog Y.w D te) vs1) vs := by
  intro pins s σ2 H Nx I q
  have h1 := hi1.run pins s σ2 H _ I q
  rw [hx] at h1
  refine wpAny_bind (thnF h1 fun xv s1 hxv => wpAny_bind (wpAny_standAt (wpAny_bind (wpAny_of_eq (hs1 xv) (wpAny_bind (wpAny_holding (thnF hxv fun itv s2 h2 => ?_)))))))
  obtain ⟨it1, fp1, tn1, J1, H1, e1, I1, T1, st1, f1, W1, ⟨m1, w1⟩, walk1⟩ := h2
  subst e1
  refine wpAny_bind (wpAny_runOwn ?_)
  rw [Around.mark_none]
  have lp : codeAny (model Y.prog Y.w) Y.A (.compLoop (.SetComp elt [⟨tg, iter, ifs, 0⟩, ⟨tg1, iter1, ifs1, 0⟩] scope pos) 1 (.ref it1) (.ref D) Y.env)
      (fun r s' => match r with
        | .ok _ => ∃ H', Inv Y pins (wipe σ2 vs1) H' s' ∧ Nx H'
        | .error _ => False) s2 :=
    loop_turns (Y := Y) (pins := pins) rfl rfl rfl (turn2i ..) hc hx (fun b hb => (f1 b hb).2) T1 hg1 ht1 (does_add he hx) (wipe2 σ2 vs1) walk1 (fun H' s' I' nx => ⟨H', I', nx⟩) m1 s2
      ⟨0, H1, I1.weak (wipe_length _ _) (fun i v e => (wipe_some e).1), st1, fun b hb => (f1 b hb).1, w1⟩
  refine codeAny_mono (start1 lp (T1.self Y.A 0 _ _ _ st1 lp)) fun r s' hr => ?_
  cases r with
  | error e => exact hr.elim
  | ok f =>
    obtain ⟨H', I', nx⟩ := hr
    refine wpAny_pure ⟨rfl, wipe σ2 vs1, H', I', fun j v e => ?_, nx⟩
    obtain ⟨e1, e2⟩ := wipe_some e
    rw [wipe_out fun z => e2 (hv j z)]
    exact e1
/-- {elt for tg in iter if .. for tg1 in iter1 if ..} -/
def tSet2 (P : Program) (w : World) (wi : TI) (g : TG) (tt : TT) (wi1 : TI) (g1 : TG) (tt1 : TT) (te : TE) (vs vs1 : List Nat) : TE := fun σ H Q => wi σ H fun J H1 => ∀ D, H1 D = none → ∃ W : Nat → Nat → Hp → Prop, (∃ m, W 0 m (upd H1 D (SkO P w D (fun _ => false) 0))) ∧
  CWalk J g tt (tInner wi1 g1 tt1 (tSetAdd P w D te) vs1) (wipe σ vs) vs (fun H => Q (.ref D) H) W
theorem pe_set2 {wi1 : TI} {g g1 : TG} {tt tt1 : TT} {te : TE} {vs1 : List Nat} (hc : X.calm = true) (hN : X.N.Nodup) (hi : PI X tg iter wi) (ok : BlkOk X.N X.env.scope scope own) (hv : ∀ i ∈ vs1, i ∈ own.map (·.2))
    (hg : ∀ (s : Shared) (H : Hp) (C : Addr) (cl : List (Str × Addr)) (fp : List Addr), PG (X.blk s H scope (compEnvC scope cl C X.env) fp) tg g) (ht : ∀ (s : Shared) (H : Hp) (C : Addr) (cl : List (Str × Addr)) (fp : List Addr), PTs (X.blk s H scope (compEnvC scope cl C X.env) fp) ifs tt)
    (hi1 : ∀ (s : Shared) (H : Hp) (C : Addr) (cl : List (Str × Addr)) (fp : List Addr), PI (X.blk s H scope (compEnvC scope cl C X.env) fp) tg1 iter1 wi1)
    (hg1 : ∀ (s : Shared) (H : Hp) (C : Addr) (cl : List (Str × Addr)) (fp : List Addr), PG (X.blk s H scope (compEnvC scope cl C X.env) fp) tg1 g1) (ht1 : ∀ (s : Shared) (H : Hp) (C : Addr) (cl : List (Str × Addr)) (fp : List Addr), PTs (X.blk s H scope (compEnvC scope cl C X.env) fp) ifs1 tt1)
    (he : ∀ (s : Shared) (H : Hp) (C : Addr) (cl : List (Str × Addr)) (fp : List Addr), PE (X.blk s H scope (compEnvC scope cl C X.env) fp) elt te) (hs : ∀ x, foldedSetIterable iter X.env x = pure x := by intro _; rfl) (hs1 : ∀ env x, foldedSetIterable iter1 env x = pure x := by intro _ _; rfl) :
    PE X (.SetComp elt [⟨tg, iter, ifs, 0⟩, ⟨tg1, iter1, ifs1, 0⟩] scope pos) (tSet2 X.prog X.w wi g tt wi1 g1 tt1 te (own.map (·.2)) vs1) := by
  refine ⟨fun pins s σ H Q I h => ?_⟩
  refine set_frame hc hN I hi ok hs (R0 := fun J D H3 => ∃ W : Nat → Nat → Hp → Prop, (∃ m, W 0 m H3) ∧ CWalk J g tt (tInner wi1 g1 tt1 (tSetAdd X.prog X.w D te) vs1) (wipe σ (own.map Prod.snd)) (own.map Prod.snd) (fun H => Q (.ref D) H) W) h fun Y D it J fp tn H3 s4 R B I4 T st4 fr q0 hfp hR => ?_
  obtain ⟨s3, H3', C, cl, rfl⟩ := B.isB
  obtain ⟨W, ⟨m0, w0⟩, walk⟩ := q0
  exact loop_turns (Y := X.blk s3 H3' scope (compEnvC scope cl C X.env) fp) rfl rfl rfl (turn2o ..) hc rfl hfp T (hg _ _ _ _ _) (ht _ _ _ _ _) (does_inner hc rfl hv (hi1 _ _ _ _ _) (hg1 _ _ _ _ _) (ht1 _ _ _ _ _) (he _ _ _ _ _) (hs1 _)) (wipe2 σ _) walk hR m0 s4 ⟨0, H3, I4, st4, fr, w0⟩
/-- walks over tuples, lists -/
theorem cw_tup {K : PySem.W.Frag} {a : Addr} {xs : List V} {g : TG} {tt : TT} {body : L2.St → Hp → (Hp → Prop) → Prop} {σ0 : L2.St} {vs : List Nat} {QT : Hp → Prop} {H : Hp} (Pv : Nat → Hp → Prop) (h0 : Pv 0 H) (hl : ∀ i H, i ≤ xs.length → Pv i H → SqT K H a xs)
    (hs : ∀ i x H, xs[i]? = some x → Pv i H → g x σ0 H fun σ2 H2 => wipe σ2 vs = σ0 ∧ tt σ2 H2 fun b H3 => if b = true then body σ2 H3 (Pv (i + 1)) else Pv (i + 1) H3) (hd : ∀ H, Pv xs.length H → QT H) :
    ∃ W : Nat → Nat → Hp → Prop, (∃ m, W 0 m H) ∧ CWalk (Itt K a) g tt body σ0 vs QT W := by
  refine ⟨fun i m H => i ≤ xs.length ∧ m = xs.length - i ∧ Pv i H, ⟨xs.length, Nat.zero_le _, by simp, h0⟩, ?_⟩
  rintro i m H ⟨hi, rfl, hp⟩
  have hL := hl i H hi hp
  by_cases e : i = xs.length
  · exact .inl ⟨⟨xs, hL, by omega⟩, hd H (by rw [← e]; exact hp)⟩
  · have hlt : i < xs.length := by omega
    refine .inr ⟨⟨xs, xs[i], hL, List.getElem?_eq_getElem hlt⟩, Pv (i + 1), fun H' hq => ⟨_, by omega, hlt, rfl, hq⟩, fun x H' hy => ?_⟩
    obtain ⟨rfl, hx⟩ := hy
    exact hs i x _ (hx xs hL) hp
theorem cw_list {K : PySem.W.Frag} {a : Addr} {xs : List V} {g : TG} {tt : TT} {body : L2.St → Hp → (Hp → Prop) → Prop} {σ0 : L2.St} {vs : List Nat} {QT : Hp → Prop} {H : Hp} (Pv : Nat → Hp → Prop) (h0 : Pv 0 H) (hl : ∀ i H, i ≤ xs.length → Pv i H → SqL K H a xs)
    (hs : ∀ i x H, xs[i]? = some x → Pv i H → g x σ0 H fun σ2 H2 => wipe σ2 vs = σ0 ∧ tt σ2 H2 fun b H3 => if b = true then body σ2 H3 (Pv (i + 1)) else Pv (i + 1) H3) (hd : ∀ H, Pv xs.length H → QT H) :
    ∃ W : Nat → Nat → Hp → Prop, (∃ m, W 0 m H) ∧ CWalk (Itl K a) g tt body σ0 vs QT W := by
  refine ⟨fun i m H => i ≤ xs.length ∧ m = xs.length - i ∧ Pv i H, ⟨xs.length, Nat.zero_le _, by simp, h0⟩, ?_⟩
  rintro i m H ⟨hi, rfl, hp⟩
  have hL := hl i H hi hp
  by_cases e : i = xs.length
  · exact .inl ⟨⟨xs, hL, by omega⟩, hd H (by rw [← e]; exact hp)⟩
  · have hlt : i < xs.length := by omega
    refine .inr ⟨⟨xs, xs[i], hL, List.getElem?_eq_getElem hlt⟩, Pv (i + 1), fun H' hq => ⟨_, by omega, hlt, rfl, hq⟩, fun x H' hy => ?_⟩
    obtain ⟨rfl, hx⟩ := hy
    exact hs i x _ (hx xs hL) hp
end
end Sw
set_option Elab.async false
set_option maxRecDepth 100000
set_option maxHeartbeats 4000000
namespace Sw
open PySem L2 PySem.Spec PyProof.Rows
section
variable {α : Type} [DecidableEq α]
def addNew (O : List α) (k : α) : List α := if k ∈ O then O else O ++ [k]
def nubL (ks : List α) : List α := ks.foldl addNew []
theorem nubL_snoc (ks : List α) (k : α) : nubL (ks ++ [k]) = addNew (nubL ks) k := by unfold nubL; rw [List.foldl_append]; rfl
theorem addNew_nd {O : List α} {k : α} (h : O.Nodup) : (addNew O k).Nodup := by
  unfold addNew
  by_cases e : k ∈ O
  · rw [if_pos e]; exact h
  · rw [if_neg e, (List.perm_append_singleton k O).nodup_iff, List.nodup_cons]; exact ⟨e, h⟩
theorem addNew_mem {O : List α} {k x : α} : x ∈ addNew O k ↔ x ∈ O ∨ x = k := by
  unfold addNew
  by_cases e : k ∈ O
  · rw [if_pos e]
    exact ⟨.inl, fun h => h.elim id fun q => q ▸ e⟩
  · rw [if_neg e, List.mem_append, List.mem_singleton]
theorem fold_nd : ∀ {ks O : List α}, O.Nodup → (ks.foldl addNew O).Nodup
  | [], _, h => h
  | k :: ks, _, h => by rw [List.foldl_cons]; exact fold_nd (addNew_nd h)
theorem nubL_nd (ks : List α) : (nubL ks).Nodup := fold_nd List.nodup_nil
theorem fold_mem {x : α} : ∀ {ks O : List α}, x ∈ ks.foldl addNew O ↔ x ∈ O ∨ x ∈ ks
  | [], _ => by simp
  | k :: ks, O => by
    rw [List.foldl_cons, fold_mem, addNew_mem, List.mem_cons]
    exact ⟨fun h => h.elim (fun h => h.elim .inl fun h => .inr (.inl h)) fun h => .inr (.inr h), fun h => h.elim (fun h => .inl (.inl h)) fun h => h.elim (fun h => .inl (.inr h)) .inr⟩
theorem nubL_mem {ks : List α} {x : α} : x ∈ nubL ks ↔ x ∈ ks := by unfold nubL; rw [fold_mem]; simp
theorem fold_pre : ∀ {ks O : List α}, ∃ B, ks.foldl addNew O = O ++ B
  | [], O => ⟨[], by simp⟩
  | k :: ks, O => by
    rw [List.foldl_cons]
    obtain ⟨B, hB⟩ := fold_pre (ks := ks) (O := addNew O k)
    rw [hB]
    unfold addNew
    by_cases e : k ∈ O
    · rw [if_pos e]; exact ⟨B, rfl⟩
    · rw [if_neg e]; exact ⟨k :: B, by simp⟩
theorem nd_le : ∀ {l L : List α}, l.Nodup → (∀ x, x ∈ l → x ∈ L) → l.length ≤ L.length
  | [], _, _, _ => Nat.zero_le _
  | x :: l, L, nd, h => by
    rw [List.nodup_cons] at nd
    have hx := h x List.mem_cons_self
    have := nd_le (l := l) (L := L.erase x) nd.2 fun y hy => (List.mem_erase_of_ne (fun e => nd.1 (by rw [← e]; exact hy))).mpr (h y (List.mem_cons_of_mem _ hy))
    rw [List.length_erase_of_mem hx] at this
    have := List.length_pos_of_mem hx
    rw [List.length_cons]
    omega
theorem nub_len_le (ks : List α) : (nubL ks).length ≤ ks.length := nd_le (nubL_nd ks) fun x hx => nubL_mem.mp hx
theorem cover_nd : ∀ {l L : List α}, l.Nodup → (∀ x, x ∈ l → x ∈ L) → L.length ≤ l.length → L.Nodup
  | l, [], _, _, _ => List.nodup_nil
  | l, y :: L, nd, h, hl => by
    rw [List.nodup_cons]
    by_cases hy : y ∈ L
    · exfalso
      have := nd_le (l := l) (L := L) nd fun x hx => by
        rcases List.mem_cons.mp (h x hx) with e | e
        · rw [e]; exact hy
        · exact e
      rw [List.length_cons] at hl
      omega
    · refine ⟨hy, cover_nd (l := l.erase y) (nd.sublist List.erase_sublist) (fun x hx => ?_) ?_⟩
      · have hx' := (nd.mem_erase_iff).mp hx
        rcases List.mem_cons.mp (h x hx'.2) with e | e
        · exact absurd e hx'.1
        · exact e
      · by_cases hy2 : y ∈ l
        · rw [List.length_erase_of_mem hy2]
          rw [List.length_cons] at hl
          omega
        · have := nd_le (l := l) (L := L) nd fun x hx => by
            rcases List.mem_cons.mp (h x hx) with e | e
            · exact absurd (e ▸ hx) hy2
            · exact e
          rw [List.length_cons] at hl
          rw [List.erase_of_not_mem hy2]
          omega
end
theorem nub_add (L : List Str) (t : Str) : (nubL (L ++ [t])).length = if t ∈ L then (nubL L).length else (nubL L).length + 1 := by
  rw [nubL_snoc]
  unfold addNew
  by_cases e : t ∈ L
  · rw [if_pos e, if_pos (nubL_mem.mpr e)]
  · rw [if_neg e, if_neg (fun q => e (nubL_mem.mp q)), List.length_append]
    rfl
/-- the texts of a set -/
def TxK (P : Program) (w : World) (H : Hp) (D : Addr) (L : List Str) : Prop := ∃ S, H D = some (SkO P w D S (nubL L).length) ∧ ∀ k, S k = true ↔ ∃ t, t ∈ L ∧ k = Sum.inr t
theorem TxK.same {P : Program} {w : World} {H H' : Hp} {D : Addr} {L : List Str} (h : TxK P w H D L) (s : Same H H') : TxK P w H' D L := by
  obtain ⟨S, h1, h2⟩ := h
  exact ⟨S, s _ _ h1, h2⟩
theorem TxK.nil {P : Program} {w : World} {H : Hp} {D : Addr} : TxK P w (upd H D (SkO P w D (fun _ => false) 0)) D [] := ⟨_, upd_same, fun k => ⟨fun h => (by cases h), fun ⟨t, ht, _⟩ => (by cases ht)⟩⟩
theorem TxK.add {P : Program} {w : World} {H : Hp} {D : Addr} {L : List Str} (t : Str) (S : Key → Bool) (h : ∀ k, S k = true ↔ ∃ t, t ∈ L ∧ k = Sum.inr t) :
    TxK P w (upd H D (SkO P w D (fun j => S j || decide (j = Sum.inr t)) (if S (Sum.inr t) = true then (nubL L).length else (nubL L).length + 1))) D (L ++ [t]) := by
  have e : (if S (Sum.inr t) = true then (nubL L).length else (nubL L).length + 1) = (nubL (L ++ [t])).length := by
    rw [nub_add]
    by_cases q : t ∈ L
    · rw [if_pos q, if_pos ((h _).mpr ⟨t, q, rfl⟩)]
    · rw [if_neg q, if_neg (fun z => by
        obtain ⟨u, hu, e⟩ := (h _).mp z
        cases e
        exact q hu)]
  rw [e]
  refine ⟨_, upd_same, fun k => ?_⟩
  rw [Bool.or_eq_true, h k]
  constructor
  · rintro (⟨u, hu, e⟩ | e)
    · exact ⟨u, List.mem_append_left _ hu, e⟩
    · exact ⟨t, by simp, of_decide_eq_true e⟩
  · rintro ⟨u, hu, e⟩
    rcases List.mem_append.mp hu with hu | hu
    · exact .inl ⟨u, hu, e⟩
    · rw [List.mem_singleton.mp hu] at e
      exact .inr (decide_eq_true e)
/-! ### sorted of a set of texts -/
theorem strs_of {P : Program} {w : World} {S : Key → Bool} {L : List Str} (hS : ∀ k, S k = true ↔ ∃ t, t ∈ L ∧ k = Sum.inr t) : ∀ vs : List Value, (∀ v ∈ vs, ∃ k, (mixKind P w).is k v = true ∧ S k = true) → ∃ ts : List Str, StrsAre vs ts ∧ ∀ t, t ∈ ts → t ∈ L
  | [], _ => ⟨[], .nil, fun t h => by cases h⟩
  | v :: vs, h => by
    obtain ⟨k, h1, h2⟩ := h v (by simp)
    obtain ⟨t, ht, rfl⟩ := (hS k).mp h2
    obtain ⟨ts, h3, h4⟩ := strs_of hS vs fun u hu => h u (List.mem_cons_of_mem _ hu)
    rw [mixKind_is] at h1
    rcases keyIs_shape h1 with ⟨i, u, e, _⟩ | ⟨x, u, e, rfl⟩
    · cases e
    · have ex : t = x := Sum.inr.inj e
      subst ex
      exact ⟨t :: ts, .cons t u h3, fun y hy => by
        rcases List.mem_cons.mp hy with rfl | hy
        · exact ht
        · exact h4 y hy⟩
theorem strs_has {vs : List Value} {ts : List Str} (h : StrsAre vs ts) {t : Str} {u : Tok} (hm : Value.str t u ∈ vs) : t ∈ ts := by
  induction h with
  | nil => cases hm
  | cons y z _ ih =>
    rcases List.mem_cons.mp hm with e | hm
    · cases e; simp
    · exact List.mem_cons_of_mem _ (ih hm)
theorem sorted_sk {P : Program} {w : World} {A : Around} {E : Value → Shared → Prop} {s : Shared} {a : Addr} {S : Key → Bool} {L : List Str} {Q : Value → Shared → Prop} (x : Sk P w s.heap a S (nubL L).length) (hS : ∀ k, S k = true ↔ ∃ t, t ∈ L ∧ k = Sum.inr t) (hh : A.handled = none) (h64 : (nubL L).length < 64)
    (q : ∀ s' p (out : Array Value) (c : Nat) (ys : List Str), (∀ b o, s.heap.get? b = some o → s'.heap.get? b = some o) → s'.gens = s.gens → s'.os = s.os → s.heap.objs.size ≤ p → s'.heap.get? p = some (seqObj "list" out c) → StrsAre out.toList ys → ys.Perm (nubL L) → sortedS ys = true → Q (.ref p) s') :
    wpAny (model P w) A (call (.builtin "sorted") [.ref a]) Q E s := by
  obtain ⟨o, es, ep, t, ho, hex, hd, hel, hm, hb, hf, hn, hr, hl⟩ := x
  refine Calls.call_function_entry kind_sorted plain_sorted entry_sorted (args_sorted1 _) ?_
  unfold Builtin.«sorted»
  refine wpAny_bind (m := checkCount "sorted" 1 1 _) (wpAny_pure ?_)
  refine wpAny_bind (collect_set (A := A.in1) hh ⟨o, ho, hex.1, hd⟩ hf hb hr hl fun s1 vs k1 hz g1 o1 pm => ?_)
  have hvl : vs.length = (nubL L).length := by rw [pm.length_eq, List.length_map, Array.length_toList]; exact hn
  obtain ⟨ts, hts, htL⟩ := strs_of (P := P) (w := w) hS vs fun v hv => by
    obtain ⟨e, he, ev⟩ := List.mem_map.mp (pm.mem_iff.mp hv)
    obtain ⟨⟨k, h1, _⟩, _⟩ := hel e he
    rw [← ev]
    exact ⟨k, h1, (hm k).mpr ⟨e, he, h1⟩⟩
  have htl : ts.length = vs.length := (StrsAre.len_eq hts).symm
  have hLt : ∀ t, t ∈ nubL L → t ∈ ts := fun t ht => by
    obtain ⟨e, he, h1⟩ := (hm (Sum.inr t)).mp ((hS _).mpr ⟨t, nubL_mem.mp ht, rfl⟩)
    have hv : e.2 ∈ vs := pm.mem_iff.mpr (List.mem_map_of_mem he)
    rw [mixKind_is] at h1
    rcases keyIs_shape h1 with ⟨i, u, e', _⟩ | ⟨y, u, e', ev⟩
    · cases e'
    · rw [Sum.inr.inj e']
      rw [ev] at hv
      exact strs_has hts hv
  have hnd : ts.Nodup := cover_nd (nubL_nd L) hLt (by omega)
  have hperm : ts.Perm (nubL L) := (List.perm_ext_iff_of_nodup hnd (nubL_nd L)).mpr fun t => ⟨fun h => nubL_mem.mpr (htL t h), hLt t⟩
  refine wpAny_bind (wpAny_newList ?_ (by rw [hvl, sizeLine_eq]; omega))
  have hoL : (s1.heap.push (seqObj "list" vs.toArray 0)).get? s1.heap.objs.size = some (seqObj "list" vs.toArray 0) := Heap.get?_push_size _ rfl
  refine wpAny_bind (wpAny_holding (wpAny_call_entry slot_list_sort ⟨_, hoL, rfl⟩ entry_list_sort (list_sort_treeK strKind_oneLt hoL hts.keysOf (fun v₁ v₂ rest e => keyKind_strs (by rw [← e]; exact hts)) (by rw [hvl]; exact h64) fun st' hp hs => ?_) (args_list_sort _)))
  obtain ⟨ys, y1, y2, y3⟩ := sorted_out_str hts hp hs
  obtain ⟨c, hc⟩ := sortedHeap_at (vs := vs) (out := (arrOf st').map (·.2)) hoL
  refine ⟨_, rfl, wpAny_pure ⟨_, rfl, q _ s1.heap.objs.size _ c ys (fun b u e => ?_) g1 o1 hz hc y1 (y2.trans hperm) y3⟩⟩
  have r := k1 b u e
  have hlt := Heap.lt_size r
  show (sortedHeap (s1.heap.push (seqObj "list" vs.toArray 0)) s1.heap.objs.size vs _).get? b = some u
  rw [sortedHeap_old (Nat.ne_of_lt hlt) (by rw [size_push']; exact Nat.lt_succ_of_lt hlt)]
  exact Heap.get?_push_of_some _ r
def rSortSk (P : Program) (w : World) : List V → Hp → VK → Prop := fun xs H Q => ∃ (a : Addr) (L : List Str), xs = [V.ref a] ∧ TxK P w H a L ∧ (nubL L).length < 64 ∧ ∀ (ys : List Str) (p : Addr), ys.Perm (nubL L) → sortedS ys = true → H p = none → Q (.ref p) (upd H p (.lst (ys.map V.str)))
theorem cr_sortSk {X : Cx} (hc : X.calm = true) : CallR X (.builtin "sorted") (rSortSk X.prog X.w) := by
  intro pins s σ H vs us Q I r h
  obtain ⟨a, L, rfl, ⟨S, ha, hS⟩, h64, q⟩ := h
  rw [Vals.ref1 r]
  refine sorted_sk (sk_get I ha) hS (I.ok.hd hc) h64 fun s' p out c ys k g o hp hg hi hpm hs => ?_
  have hlen : (ys.map V.str).length ≤ sizeLine := by rw [List.length_map, hpm.length_eq, sizeLine_eq]; omega
  have hn : H p = none := I.hok.fresh hp
  have J : Inv X pins σ (upd H p (.lst (ys.map V.str))) { s with heap := s'.heap, gens := s'.gens, drawn := s'.drawn, toks := s'.toks } :=
    I.call (ch := []) (Un.laid k hp hn) (I.hok.laid k hp ⟨hlen, out.toList, c, vals_of_strs hi, hg⟩) (by rw [g]; exact I.bare) (fun _ z => nomatch z)
  have e : s' = { s with heap := s'.heap, gens := s'.gens, drawn := s'.drawn, toks := s'.toks } := by
    cases s'
    cases s
    cases o
    rfl
  rw [e]
  exact ⟨.ref p, _, J, rfl, q ys p hpm hs hn⟩
end Sw
set_option Elab.async false
set_option maxRecDepth 100000
set_option maxHeartbeats 4000000
namespace Sw
open PySem L2 PySem.Spec PyProof.Rows
/-! ### set(l) of a list of texts -/
def TxSk (P : Program) (w : World) (h : Heap) (a : Addr) (L : List Str) : Prop := ∃ S, Sk P w h a S (nubL L).length ∧ ∀ k, S k = true ↔ ∃ t, t ∈ L ∧ k = Sum.inr t
theorem TxSk.keep {P : Program} {w : World} {h h' : Heap} {a : Addr} {L : List Str} (x : TxSk P w h a L) (k : ∀ o, h.get? a = some o → h'.get? a = some o) : TxSk P w h' a L := by
  obtain ⟨S, h1, h2⟩ := x
  exact ⟨S, h1.keep k, h2⟩
theorem TxSk.more {P : Program} {w : World} {h : Heap} {a : Addr} {L : List Str} {S : Key → Bool} (t : Str) (hS : ∀ k, S k = true ↔ ∃ t, t ∈ L ∧ k = Sum.inr t) (x : Sk P w h a (fun j => S j || decide (j = Sum.inr t)) (if S (Sum.inr t) = true then (nubL L).length else (nubL L).length + 1)) : TxSk P w h a (L ++ [t]) := by
  have e : (if S (Sum.inr t) = true then (nubL L).length else (nubL L).length + 1) = (nubL (L ++ [t])).length := by
    rw [nub_add]
    by_cases q : t ∈ L
    · rw [if_pos q, if_pos ((hS _).mpr ⟨t, q, rfl⟩)]
    · rw [if_neg q, if_neg (fun z => by
        obtain ⟨u, hu, e⟩ := (hS _).mp z
        cases e
        exact q hu)]
  rw [e] at x
  refine ⟨_, x, fun k => ?_⟩
  rw [Bool.or_eq_true, hS k]
  constructor
  · rintro (⟨u, hu, e⟩ | e)
    · exact ⟨u, List.mem_append_left _ hu, e⟩
    · exact ⟨t, by simp, of_decide_eq_true e⟩
  · rintro ⟨u, hu, e⟩
    rcases List.mem_append.mp hu with hu | hu
    · exact .inl ⟨u, hu, e⟩
    · rw [List.mem_singleton.mp hu] at e
      exact .inr (decide_eq_true e)
section
variable {P : Program} {w : World} {A : Around} {E : Value → Shared → Prop} {s : Shared}
theorem set_grows {I : Addr} {fp wr : List Addr} {G : Array GenState → Array GenState → Prop} {n : Nat} {Pv : Nat → Value → Prop} {St : Nat → Shared → Prop} {R : Result → Shared → Prop} (W : WalksS P w A.in1 I fp wr G n Pv St) (D : Addr) (nD : D ∉ fp) (xs : List Str) (hn : n = xs.length) (hb : xs.length + 1 < scanBound) (hv : ∀ i v, Pv i v → ∃ t u, xs[i]? = some t ∧ v = .str t u) :
    ∀ (m i : Nat) (s : Shared), m = n - i → i ≤ n → St i s → TxSk P w s.heap D (xs.take i) → (∀ s', Moved (D :: wr) G s s' → TxSk P w s'.heap D xs → R (.ok (.ret .none)) s') → codeAny (model P w) A (.builtin "set.update.loop" ⟨[.ref D, .ref I], []⟩) R s := by
  have nW : D ∉ wr := fun z => nD (W.sub _ z)
  have wider : ∀ b ∈ wr, b ∈ D :: wr := fun b z => List.mem_cons_of_mem _ z
  intro m
  induction m with
  | zero =>
    intro i s hm hi st x k
    have ei : i = n := by omega
    subst ei
    refine codeAny_builtin F.entry_set_update_loop ?_
    rw [Around.under_plainId F.plain_set_update_loop _]
    show wpAny _ A.in1 (pyNext (.ref I) >>= _) _ _ s
    refine wpAny_bind (W.done s _ _ st fun s' mv => ?_)
    rw [List.take_of_length_le (by omega)] at x
    exact wpAny_pure (k s' (mv.mono wider) (x.keep fun o e => mv.heap D o nW e))
  | succ m ih =>
    intro i s hm hi st ⟨S, x, hS⟩ k
    refine codeAny_builtin F.entry_set_update_loop ?_
    rw [Around.under_plainId F.plain_set_update_loop _]
    show wpAny _ A.in1 (pyNext (.ref I) >>= _) _ _ s
    refine wpAny_bind (W.item i s _ _ (by omega) st fun v s' pv st' mv => ?_)
    obtain ⟨t, u, ht, rfl⟩ := hv i v pv
    have x' := x.keep (h' := s'.heap) fun o e => mv.heap D o nW e
    show wpAny _ A.in1 (holding [Value.str t u] (setAdd D (.str t u)) >>= _) _ _ s'
    refine wpAny_bind (wpAny_holding ?_)
    unfold setAdd
    have ik : (mixKind P w).is (Sum.inr t) (.str t u) = true := by rw [mixKind_is]; exact keyIs_str t u
    have hle : (nubL (xs.take i)).length ≤ xs.length := Nat.le_trans (nub_len_le _) (by rw [List.length_take]; omega)
    refine wpAny_holding (wpAny_bind ((mixKind P w).pyHash ik ?_))
    refine sk_add_hashed (s := { s' with toks := s'.toks + 1 }) ik rfl x' (by omega) fun h' sb y => ?_
    have y' : TxSk P w h' D (xs.take (i + 1)) := by
      rw [List.take_add_one, ht]
      exact TxSk.more t hS y
    refine wpAny_pure ⟨plainId_quiet F.plain_set_update_loop _, ih (i + 1) _ (by omega) (by omega) (W.frame _ s' _ _ st' (Nat.le_succ _) fun b hb o e => ?_) y' fun s'' mv2 z => ?_⟩
    · exact (sb.2 b fun q => nD (q ▸ hb)).trans e
    · exact k s'' (Moved.trans W.gtrans ((mv.mono wider).then_heap (Nat.le_succ _) fun b o hb e => (sb.2 b fun q => hb (by rw [q]; exact List.mem_cons_self)).trans e) mv2) z
abbrev newSet (w : World) : Obj := { cls := .type "set", dict := none, data := .set #[] 0 (.fresh 0 0 (!w.params.followText "set-order")) }
set_option maxRecDepth 100000 in
set_option maxHeartbeats 3200000 in
theorem call_set_tx {l : Addr} {items : Array Value} (xs : List Str) {Q : Value → Shared → Prop} (hh : A.handled = none) (hl : s.heap.IsList l items) (hx : StrsAre items.toList xs) (hb : xs.length + 1 < scanBound)
    (k : ∀ (h' : Heap) (tk : Nat), TxSk P w h' s.heap.objs.size xs → (∀ b o, s.heap.get? b = some o → h'.get? b = some o) → Q (.ref s.heap.objs.size) { s with heap := h', toks := tk }) :
    wpAny (model P w) A (call (.type "set") [.ref l]) Q E s := by
  have sz : items.size = xs.length := by
    have := StrsAre.len_eq hx
    rwa [Array.length_toList] at this
  obtain ⟨c, tl, hmro⟩ := F.called_set.mro
  have g1 := F.called_set.made
  have g2 := F.called_set.sub
  refine wpAny_call (codeAny_of_tree ?_)
  show wpAny _ _ (callAny (.type "set") _) _ _ _
  refine wpAny_pure ⟨Code.quiet_builtin _ (by decide +kernel), codeAny_builtin F.entry_type_call ?_⟩
  rw [Around.under_plain (weight_type_call_type "set" [.ref l] []) rfl]
  have g3 := F.called_set.notType
  have g4 := F.called_set.canCreate
  have g5 := F.typeCall_set_1 (.ref l)
  repeat (any_goals (first | assumption | wp_step))
  refine codeAny_mono (code_set_led1 (.ref l) (E := E) (Q₁ := fun obj s₁ => obj = .ref s.heap.objs.size ∧ s₁ = { s with heap := s.heap.push (newSet w) }) ⟨rfl, rfl⟩) fun r s₁ hr => ?_
  cases r with
  | error e => exact hr
  | ok fl =>
    cases fl with
    | ret obj =>
      obtain ⟨rfl, rfl⟩ := hr
      have aS : (s.heap.push (newSet w)).get? s.heap.objs.size = some (newSet w) := Heap.get?_push_size _ rfl
      have tS : Shared.TypeIs { s with heap := s.heap.push (newSet w) } (.ref s.heap.objs.size) "set" := ⟨_, aS, rfl⟩
      have g6 := F.called_set.init.lookup
      have g7 := F.called_set.init.bind (.ref s.heap.objs.size)
      repeat (any_goals (first | assumption | wp_step))
      refine codeAny_mono (codeAny_call_builtin (R := wants (fun r s₂ => r = .none ∧ ∃ h' tk, s₂ = { s with heap := h', toks := tk } ∧ TxSk P w h' s.heap.objs.size xs ∧ (∀ b o, s.heap.get? b = some o → h'.get? b = some o)) E) F.called_set.init.plain F.entry_set_init (check_set_init_1 tS ?_)) fun r₂ s₂ hr₂ => ?_
      · obtain ⟨ol, hol, hcl, nl, hdl⟩ := hl
        obtain ⟨ocls, odict, odata, oslots⟩ := ol
        simp only at hcl hdl
        subst hcl
        subst hdl
        have al : (s.heap.push (newSet w)).get? l = some { cls := .type "list", dict := odict, data := .seq items nl, slots := oslots } := Heap.get?_push_of_some _ hol
        have g8 := PySem.F.sub_list_set
        have g9 := PySem.F.sub_list_frozenset
        have g10 : (Value.type "list" == Value.type "dict") = false := by decide
        have isl : (s.heap.push (newSet w)).IsList l items := ⟨_, al, rfl, nl, rfl⟩
        unfold Builtin.«set.__init__» noKeywords Builtin.Frozenset.updateFrom
        generalize hPI : pyIter = PI
        wp_walk
        subst hPI
        refine wpAny_pyIter_list isl ?_
        refine wpAny_bind (wpAny_runValue ?_)
        have lS : l < s.heap.objs.size := Heap.lt_size hol
        have hz : (s.heap.push (newSet w)).objs.size = s.heap.objs.size + 1 := Heap.size_push ..
        have hd3 : A.in1.in1.in1.handled = none := by simp [hh]
        have nI : l ≠ (s.heap.push (newSet w)).objs.size := by rw [hz]; exact Nat.ne_of_lt (Nat.lt_succ_of_lt lS)
        have nF : s.heap.objs.size ∉ [(s.heap.push (newSet w)).objs.size, l] := by
          rw [hz]
          simp only [List.mem_cons, List.not_mem_nil, or_false, not_or]
          exact ⟨Nat.ne_of_lt (Nat.lt_succ_self _), Nat.ne_of_gt lS⟩
        have hval : ∀ (i : Nat) (v : Value), items[i]? = some v → ∃ t u, xs[i]? = some t ∧ v = .str t u := fun i v hv => by
          have hi : i < xs.length := by rw [← sz]; exact (Array.getElem?_eq_some_iff.mp hv).1
          obtain ⟨u, e⟩ := SS.strs_at hx i v (by rw [Array.getElem?_toList]; exact hv)
          refine ⟨xs[i], u, List.getElem?_eq_getElem hi, ?_⟩
          rw [e, List.getD_eq_getElem?_getD, List.getElem?_eq_getElem hi]
          rfl
        refine set_grows ((Walks.list hd3 _ l nI items).toS) s.heap.objs.size nF xs sz hb hval (items.size - 0) 0 _ (by omega) (Nat.zero_le _) ⟨⟨_, Heap.get?_push_size _ rfl, rfl, rfl⟩, (isl.push _)⟩ ?hS0 ?hR
        case hS0 =>
          have f0 := Sk.fresh P w s.heap
          exact ⟨_, f0.keep fun o e => Heap.get?_push_of_some _ e, fun k => ⟨fun z => (by cases z), fun ⟨t, ht, _⟩ => (by simp at ht)⟩⟩
        case hR =>
          intro s' mv y
          obtain ⟨h', g2', d', tk', os'⟩ := s'
          have eg : g2' = s.gens := mv.gens
          have ed : d' = s.drawn := mv.drawn
          have eo : os' = s.os := mv.os
          subst eg
          subst ed
          subst eo
          show wpAny _ _ _ _ _ _
          refine wpAny_pure ?_
          show wpAny _ _ (ret Value.none) _ _ _
          refine wpAny_pure ⟨rfl, h', tk', rfl, y, fun b o e => ?_⟩
          have b0 : b < s.heap.objs.size := Heap.lt_size e
          refine mv.heap b o ?_ (Heap.get?_push_of_some _ (Heap.get?_push_of_some _ e))
          rw [hz]
          simp only [List.mem_cons, List.not_mem_nil, or_false, not_or]
          exact ⟨Nat.ne_of_lt b0, Nat.ne_of_lt (Nat.lt_succ_of_lt b0)⟩
      · cases r₂ with
        | error e => exact hr₂
        | ok fl₂ =>
          cases fl₂ with
          | ret r =>
            obtain ⟨rfl, h', tk, rfl, y, kk⟩ := hr₂
            repeat (any_goals (first | assumption | wp_step))
            exact k _ _ y kk
          | _ => exact hr₂.elim
    | _ => exact hr.elim
end
def rSetTx (P : Program) (w : World) (K : PySem.W.Frag) : List V → Hp → VK → Prop := fun vs H Q => ∃ (a : Addr) (xs : List Str), vs = [V.ref a] ∧ SqL K H a (xs.map V.str) ∧ xs.length ≤ 4000 ∧ ∀ (H' : Hp) (p : Addr), Same H H' → H p = none → TxK P w H' p xs → Q (.ref p) H'
theorem cr_setTx {X : Cx} (hc : X.calm = true) : CallR X (.type "set") (rSetTx X.prog X.w X.K) := by
  intro pins s σ H vs us Q I r h
  obtain ⟨a, xs, rfl, hs, hl, q⟩ := h
  obtain ⟨its, rv, pl, _⟩ := I.list hs
  rw [Vals.ref1 r]
  refine call_set_tx xs (I.ok.hd hc) pl.isList (by simpa using rv.strs) (by unfold scanBound; omega) fun h' tk ⟨S, y, hS⟩ kk => ?_
  have np : H s.heap.objs.size = none := I.hok.fresh (Nat.le_refl _)
  exact ⟨.ref _, upd H s.heap.objs.size (SkO X.prog X.w s.heap.objs.size S (nubL xs).length), I.laid (t' := tk) kk (Nat.le_refl _) (sk_new y), rfl, q _ _ (.new np) np ⟨S, upd_same, hS⟩⟩
end Sw
set_option Elab.async false
set_option maxRecDepth 100000
set_option maxHeartbeats 4000000
namespace Sw
open PySem L2 PySem.Spec PyProof.Rows
theorem szb {n : Nat} (h : n ≤ 16000000) : n < sizeLine := by rw [sizeLine_eq]; omega
theorem szl {n : Nat} (h : n ≤ 16000000) : n ≤ sizeLine := by rw [sizeLine_eq]; omega
/-! ### a thing's type, by its data -/
def tyN : PyData → String
  | .none => "NoneType"
  | .bool _ => "bool"
  | .int _ => "int"
  | .str _ => "str"
  | .list _ => "list"
  | .tuple _ => "tuple"
  | .dict _ => "dict"
theorem tyX {K : PySem.W.Frag} {H : Hp} {v : V} {d : PyData} (h : Dp K H v d) : TyX K H v (.type (tyN d)) := by
  cases h with
  | non => exact .base .non
  | bl b => exact .base (.bl b)
  | int i => exact .base (.int i)
  | str x => exact .base (.str x)
  | lst h1 h2 =>
    rcases h1 with (h1 | ⟨o, h1⟩) | ⟨o, its, n, e, c, _⟩
    · exact .base (.lst h1)
    · exact .base (.frz h1)
    · exact .kList e c
  | tup h1 h2 =>
    rcases h1 with (h1 | ⟨o, h1⟩) | ⟨o, its, n, e, c, _⟩
    · exact .base (.tup h1)
    · exact .fTuple h1
    · exact .kTuple e c
/-- the answer of isinstance for the built-in class T -/
theorem isD (K : PySem.W.Frag) (T : String) (f : PyData → Bool) (h1 : kitB "NoneType" T = some (f .none)) (h2 : ∀ b, kitB "bool" T = some (f (.bool b))) (h3 : ∀ i, kitB "int" T = some (f (.int i))) (h4 : ∀ t, kitB "str" T = some (f (.str t)))
    (h5 : ∀ l, kitB "list" T = some (f (.list l))) (h6 : ∀ l, kitB "tuple" T = some (f (.tuple l))) {H : Hp} {v : V} {d : PyData} (h : Dp K H v d) : PySem.W.kitOne K (.type (tyN d)) (.type T) = some (f d) := by
  cases h with
  | non => exact kit_ty h1
  | bl b => exact kit_ty (h2 b)
  | int i => exact kit_ty (h3 i)
  | str x => exact kit_ty (h4 x)
  | lst _ _ => exact kit_ty (h5 _)
  | tup _ _ => exact kit_ty (h6 _)
def isStrD : PyData → Bool
  | .str _ => true
  | _ => false
def isTupD : PyData → Bool
  | .tuple _ => true
  | _ => false
def isLstD : PyData → Bool
  | .list _ => true
  | _ => false
def isBoolD : PyData → Bool
  | .bool _ => true
  | _ => false
def isIntD : PyData → Bool
  | .int _ => true
  | .bool _ => true
  | _ => false
theorem isStr {K : PySem.W.Frag} {H : Hp} {v : V} {d : PyData} (h : Dp K H v d) : PySem.W.kitOne K (.type (tyN d)) (.type "str") = some (isStrD d) :=
  isD K "str" isStrD (by decide +kernel) (fun _ => (by decide +kernel : kitB "bool" "str" = some false)) (fun _ => (by decide +kernel : kitB "int" "str" = some false)) (fun _ => (by decide +kernel : kitB "str" "str" = some true)) (fun _ => (by decide +kernel : kitB "list" "str" = some false)) (fun _ => (by decide +kernel : kitB "tuple" "str" = some false)) h
theorem isTup {K : PySem.W.Frag} {H : Hp} {v : V} {d : PyData} (h : Dp K H v d) : PySem.W.kitOne K (.type (tyN d)) (.type "tuple") = some (isTupD d) :=
  isD K "tuple" isTupD (by decide +kernel) (fun _ => (by decide +kernel : kitB "bool" "tuple" = some false)) (fun _ => (by decide +kernel : kitB "int" "tuple" = some false)) (fun _ => (by decide +kernel : kitB "str" "tuple" = some false)) (fun _ => (by decide +kernel : kitB "list" "tuple" = some false)) (fun _ => (by decide +kernel : kitB "tuple" "tuple" = some true)) h
theorem isLst {K : PySem.W.Frag} {H : Hp} {v : V} {d : PyData} (h : Dp K H v d) : PySem.W.kitOne K (.type (tyN d)) (.type "list") = some (isLstD d) :=
  isD K "list" isLstD (by decide +kernel) (fun _ => (by decide +kernel : kitB "bool" "list" = some false)) (fun _ => (by decide +kernel : kitB "int" "list" = some false)) (fun _ => (by decide +kernel : kitB "str" "list" = some false)) (fun _ => (by decide +kernel : kitB "list" "list" = some true)) (fun _ => (by decide +kernel : kitB "tuple" "list" = some false)) h
theorem isBool {K : PySem.W.Frag} {H : Hp} {v : V} {d : PyData} (h : Dp K H v d) : PySem.W.kitOne K (.type (tyN d)) (.type "bool") = some (isBoolD d) :=
  isD K "bool" isBoolD (by decide +kernel) (fun _ => (by decide +kernel : kitB "bool" "bool" = some true)) (fun _ => (by decide +kernel : kitB "int" "bool" = some false)) (fun _ => (by decide +kernel : kitB "str" "bool" = some false)) (fun _ => (by decide +kernel : kitB "list" "bool" = some false)) (fun _ => (by decide +kernel : kitB "tuple" "bool" = some false)) h
theorem isInt {K : PySem.W.Frag} {H : Hp} {v : V} {d : PyData} (h : Dp K H v d) : PySem.W.kitOne K (.type (tyN d)) (.type "int") = some (isIntD d) :=
  isD K "int" isIntD (by decide +kernel) (fun _ => (by decide +kernel : kitB "bool" "int" = some true)) (fun _ => (by decide +kernel : kitB "int" "int" = some true)) (fun _ => (by decide +kernel : kitB "str" "int" = some false)) (fun _ => (by decide +kernel : kitB "list" "int" = some false)) (fun _ => (by decide +kernel : kitB "tuple" "int" = some false)) h
/-! ### is, is not of truths -/
section
variable {X : Cx}
def rIsB (n : Bool) : R2 := fun x y H Q => ∃ a b, x = .bl a ∧ y = .bl b ∧ Q (.bl (if n then !decide (a = b) else decide (a = b))) H
theorem bool_beq (a b : Bool) : (Value.bool a == Value.bool b) = decide (a = b) := by cases a <;> cases b <;> rfl
theorem op_isB : OpR X (compareOp .Is) (rIsB false) := by
  intro pins s σ H x y v u Q I rx ry h
  obtain ⟨a, b, rfl, rfl, q⟩ := h
  cases (show v = Value.bool a from rx)
  cases (show u = Value.bool b from ry)
  exact wpAny_is_plain rfl (fin_bl I q (bool_beq a b).symm)
theorem op_notB : OpR X (compareOp .IsNot) (rIsB true) := by
  intro pins s σ H x y v u Q I rx ry h
  obtain ⟨a, b, rfl, rfl, q⟩ := h
  cases (show v = Value.bool a from rx)
  cases (show u = Value.bool b from ry)
  exact wpAny_isNot_plain rfl (fin_bl I q (congrArg not (bool_beq a b).symm))
end
/-! ### walks over a text's signs -/
theorem gw_str {x : Str} {go : Bool} {g : TG} {te : TE} {σ0 : L2.St} {vs : List Nat} {QT QF : Hp → Prop} {H : Hp} (Pv : Nat → Hp → Prop) (h0 : Pv 0 H)
    (hs : ∀ i c H, x.cps.toList[i]? = some c → Pv i H → g (.str ⟨#[c]⟩) σ0 H fun σ2 H2 => wipe σ2 vs = σ0 ∧ te σ2 H2 fun y H3 => ∃ b, y = .bl b ∧ if b = go then Pv (i + 1) H3 else QF H3) (hd : ∀ H, Pv x.cps.toList.length H → QT H) :
    ∃ W : Nat → Nat → Hp → Prop, (∃ m, W 0 m H) ∧ GWalk go (Its x) g te σ0 vs QT QF W := by
  have hl : x.cps.toList.length = x.cps.size := by simp
  refine ⟨fun i m H => i ≤ x.cps.size ∧ m = x.cps.size - i ∧ Pv i H, ⟨_, Nat.zero_le _, rfl, h0⟩, ?_⟩
  rintro i m H ⟨hi, rfl, hp⟩
  by_cases e : i = x.cps.size
  · exact .inl ⟨by show x.cps.size ≤ i; omega, hd H (by rw [hl, ← e]; exact hp)⟩
  · refine .inr ⟨by show i < x.cps.size; omega, Pv (i + 1), fun H' hq => ⟨_, by omega, by omega, rfl, hq⟩, fun v H' hy => ?_⟩
    obtain ⟨rfl, c, hc, rfl⟩ := hy
    exact hs i c _ (by rw [Array.getElem?_toList]; exact hc) hp
theorem lc_str {x : Str} {g : TG} {tt : TT} {te : TE} {vs : List Nat} {σ : L2.St} {H1 : Hp} {D : Addr} {Qd : Hp → Prop} (Pv : Nat → Hp → Prop) (h0 : Pv 0 (upd H1 D (.lst [])))
    (hs : ∀ i c H, x.cps.toList[i]? = some c → Pv i H → g (.str ⟨#[c]⟩) (wipe σ vs) H fun σ2 H2 => wipe σ2 vs = wipe σ vs ∧ tt σ2 H2 fun b H3 => if b = true then te σ2 H3 fun y H4 => ∃ acc, H4 D = some (.lst acc) ∧ acc.length < sizeLine ∧ Pv (i + 1) (upd H4 D (.lst (acc ++ [y]))) else Pv (i + 1) H3)
    (hd : ∀ H, Pv x.cps.toList.length H → Qd H) : ∃ W : Nat → Nat → Hp → Prop, (∃ m, W 0 m (upd H1 D (.lst []))) ∧ ∀ i m H, W i m H →
      ((Its x).stop i H ∧ Qd H) ∨ ((Its x).go i H ∧ ∃ Nx : Hp → Prop, (∀ H', Nx H' → ∃ m', m' < m ∧ W (i + 1) m' H') ∧ ∀ v H', (Its x).yld i H v H' → g v (wipe σ vs) H' fun σ2 H2 => wipe σ2 vs = wipe σ vs ∧ tt σ2 H2 fun b H3 =>
        if b = true then te σ2 H3 fun y H4 => ∃ acc, H4 D = some (.lst acc) ∧ acc.length < sizeLine ∧ Nx (upd H4 D (.lst (acc ++ [y]))) else Nx H3) := by
  have hl : x.cps.toList.length = x.cps.size := by simp
  refine ⟨fun i m H => i ≤ x.cps.size ∧ m = x.cps.size - i ∧ Pv i H, ⟨_, Nat.zero_le _, rfl, h0⟩, ?_⟩
  rintro i m H ⟨hi, rfl, hp⟩
  by_cases e : i = x.cps.size
  · exact .inl ⟨by show x.cps.size ≤ i; omega, hd H (by rw [hl, ← e]; exact hp)⟩
  · refine .inr ⟨by show i < x.cps.size; omega, Pv (i + 1), fun H' hq => ⟨_, by omega, by omega, rfl, hq⟩, fun v H' hy => ?_⟩
    obtain ⟨rfl, c, hc, rfl⟩ := hy
    exact hs i c _ (by rw [Array.getElem?_toList]; exact hc) hp
/-! ### t * k of a tuple, of any tuple -/
theorem tuple_mulOne (l : Addr) (items : Array Value) (n : Nat) (dd : Option Addr) (sl : Array (Option Value)) (x : Int) (u : Tok) (c0 : (decide (x < -(2 ^ 63)) || decide (x ≥ 2 ^ 63)) = false) (c1 : (items.isEmpty || x == 1) = true) :
    Meets (Builtin.«tuple.__mul__» ⟨[.ref l, .int x u], []⟩) (fun _ R s => s.heap.get? l = some { cls := .type "tuple", dict := dd, data := .seq items n, slots := sl } ∧ R (.ok (.ret (Value.ref l))) s) :=
  .of_wp fun prog w A R s h => by
    obtain ⟨hp, g, d, tk, os⟩ := s
    obtain ⟨hl, h⟩ := h
    have f1 := AutoSeq1.idx_int
    wp_walk using wpAny_loadPart' hl
    repeat (first
      | (refine wpAny_ite_false (decide_eq_false (by rw [c0]; exact Bool.false_ne_true)) ?_; wp_walk using wpAny_loadPart' hl)
      | (refine wpAny_ite_true (decide_eq_true c1) ?_; wp_walk using wpAny_loadPart' hl))
    exact ⟨_, rfl, h⟩
def rRepA (K : PySem.W.Frag) : R2 := fun x y H Q => ∃ l k xs, x = .ref l ∧ y = .int k ∧ SqT K H l xs ∧ 1 ≤ k ∧ k ≤ 1000 ∧ xs.length ≤ 1000 ∧ ((xs = [] ∨ k = 1) → Q (.ref l) H) ∧ (∀ p, H p = none → Q (.ref p) (upd H p (.tup (List.replicate k.toNat xs).flatten)))
section
variable {X : Cx}
theorem op_repA : OpR X (binaryOp .Mult) (rRepA X.K) := by
  intro pins s σ H x y v u Q I rx ry h
  obtain ⟨l, k, xs, rfl, rfl, hT, h1, h2, hz, q1, q2⟩ := h
  by_cases hc : xs = [] ∨ k = 1
  · cases rx
    obtain ⟨t, rfl⟩ := ry
    obtain ⟨its, r, ⟨⟨cls, dd, data, sl⟩, ho, hcl, n, hd⟩, hs⟩ := I.tuple hT
    simp only at hcl hd
    subst hcl hd
    have hle : its.length = xs.length := r.length.symm
    have c0 : (decide (k < -(2 ^ 63)) || decide (k ≥ 2 ^ 63)) = false := by
      rw [decide_eq_false (by omega), decide_eq_false (by omega)] <;> rfl
    have c1 : (its.toArray.isEmpty || k == 1) = true := by
      rcases hc with hc | hc
      · rw [hc] at hle
        have e := List.eq_nil_of_length_eq_zero hle
        rw [e]
        rfl
      · rw [hc, Bool.or_eq_true]
        exact .inr rfl
    refine wpAny_binaryOp_repeat_ref (T := "tuple") (U := "int") (by decide) ⟨_, ho, rfl⟩ (fun s' => typeIs_int s' k t) noFill_tuple_mul F.fills_int_mul F.slot_int_rmul repeat_tuple F.slot_int_index.lookup
      (call_meets F.slot_int_rmul (typeIs_int s k t) F.entry_int_rmul (F.args_int_rmul_2 _ _) (int_rmul_tuple k t l its.toArray n dd sl)
        ⟨ho, rfl, ⟨_, ho, rfl⟩, call_meets F.slot_tuple_mul ⟨_, ho, rfl⟩ F.entry_tuple_mul (F.args_tuple_mul_2 _ _) (tuple_mulOne l its.toArray n dd sl k t c0 c1) ⟨ho, ?_⟩⟩)
    exact ⟨.ref l, H, I, rfl, q1 hc⟩
  · exact op_repT pins s σ H _ _ v u Q I rx ry ⟨l, k, xs, rfl, rfl, hT, fun e => hc (.inl e), by omega, h2, hz, q2⟩
end
/-! ### a def that holds generator expressions -/
section
variable {P : Program} {w : World} {K : PySem.W.Frag} {mg : Str → Option Value} {base : Heap}
structure DefTab (K : PySem.W.Frag) (mg : Str → Option Value) (base : Heap) (x : Str) (st : Stmt) (ps : List Str) (T : Addr) : Prop where
  ex : ∃ (f : Addr) (oc : Value) (od : Option Addr) (kV doc pm : Value) (an : Option Addr) (c : Addr) (ct : Value) (osl : Array (Option Value)),
    K.lookup f = some ⟨oc, od, .func (PySem.W.fnOf x x (defArgs st) (defBody st) (defScope st) .none kV doc pm an (.ref c) ct), osl⟩ ∧ PySem.W.codeIn K (.ref c) x = true ∧ PySem.W.keepIn K (.ref f) = true ∧ mg x = some (.ref f) ∧
      Binds K (PySem.W.fnOf x x (defArgs st) (defBody st) (defScope st) .none kV doc pm an (.ref c) ct) ps [] ∧ GxR.TabB base mg c T
theorem DefTab.ok {x : Str} {st : Stmt} {N ps : List Str} {k : Nat} {sp : Sp} {T : Addr} (F : DefTab K mg base x st ps T) (S : FnScope N ps (defScope st)) (len : ∀ vs H Q E, sp vs H Q E → vs.length = ps.length)
    (hbody : ∀ (f c : Addr) (A : Around) (outer : List Env) (s : Shared) (H : Hp) (vs : List V) (Q : VK) (E : XK), GxR.TabB base mg c T → Room k (A.deeper (envOfC x (defScope st) s.heap.objs.size f (.ref c))) → sp vs H Q E →
      ∃ t, PSs (cxOf CX0 P w K mg base N x (defScope st) f (.ref c) A outer s H E).nox (defBody st) t ∧ t { nx := fun _ H' => Q .non H', rt := Q } (start N vs) H) : DefOk P w K mg base x (k + 1) ps sp := by
  obtain ⟨f, oc, od, kV, doc, pm, an, c, ct, osl, lk, hcd, kp, hm, hb, TB⟩ := F.ex
  refine ⟨f, _, fn_of lk hcd S len fun A outer s H vs Q E hr hsp => ?_, hm, kp, hb⟩
  obtain ⟨t, h, q⟩ := hbody f c A outer s H vs Q E TB hr hsp
  exact ⟨t, h.nox, q⟩
end
end Sw
set_option Elab.async false
set_option maxRecDepth 100000
set_option maxHeartbeats 4000000
namespace Sw
open PySem L2 PySem.Spec PyProof.Rows HT
/-! ### t[::-1] of a tuple -/
theorem adjust_rev (n : Nat) : Builtin.Slice.sliceAdjust none none (-1) (n : Int) = ((n : Int) - 1, -1) := by
  have h1 : ((-1 : Int) < 0) := by omega
  unfold Builtin.Slice.sliceAdjust
  simp only [h1, if_true]
theorem places_rev (n : Nat) : Builtin.Slice.slicePlaces ((n : Int) - 1) (-1) (-1) = n := by
  unfold Builtin.Slice.slicePlaces
  have h1 : ¬ ((-1 : Int) > 0) := by omega
  simp only [h1, if_false]
  split
  · have e : ((n : Int) - 1 - -1 - 1) / (- -1) + 1 = n := by
      have : (- -1 : Int) = 1 := by omega
      rw [this, Int.ediv_one]
      omega
    rw [e]
    omega
  · omega
theorem fm_congr {α β : Type} {f g : α → Option β} : ∀ {l : List α}, (∀ x, x ∈ l → f x = g x) → l.filterMap f = l.filterMap g
  | [], _ => rfl
  | a :: l, h => by
    rw [List.filterMap_cons, List.filterMap_cons, h a List.mem_cons_self, fm_congr (l := l) fun x hx => h x (List.mem_cons_of_mem _ hx)]
theorem pick_rev (xs : Array Value) : ((List.range xs.size).filterMap fun (k : Nat) => xs[(((xs.size : Int) - 1) + (k : Int) * (-1)).toNat]?).toArray = xs.toList.reverse.toArray := by
  have e1 : ((List.range xs.size).filterMap fun (k : Nat) => xs[(((xs.size : Int) - 1) + (k : Int) * (-1)).toNat]?) = ((List.range xs.size).map (fun k => xs.size - 1 - k)).filterMap (xs[·]?) := by
    rw [List.filterMap_map]
    refine fm_congr fun k hk => ?_
    have hk' : k < xs.size := List.mem_range.mp hk
    have : ((((xs.size : Int) - 1) + (k : Int) * (-1)).toNat) = xs.size - 1 - k := by omega
    rw [this]
    rfl
  rw [e1, PySem.W.krv_range, List.filterMap_reverse, PySem.W.krv_all]
section
variable {prog : Program} {w : World} {A : Around} {E : Value → Shared → Prop} {s : Shared}
theorem slicePart_neg {v : Value} {o : Option Int} {Q : Option Int → Shared → Prop} (p : IsPart v o) (h : Q o s) : wpAny (model prog w) A (Builtin.Slice.slicePartIndex v) Q E s := slicePart_ p h
theorem sliceApplied_rev {sl : Addr} {vs : Value} {n : Nat} {Q : Int × Int × Nat → Shared → Prop} (hs : s.heap.IsSliceOf sl .none .none vs) (ps : IsPart vs (some (-1)))
    (h : Q (((n : Int) - 1), -1, n) s) : wpAny (model prog w) A (Builtin.Slice.sliceApplied (.ref sl) (pure (n : Int))) Q E s := by
  obtain ⟨os, hos, hcs, hds⟩ := id hs
  unfold Builtin.Slice.sliceApplied Builtin.Slice.sliceFields
  refine wpAny_bind (wpAny_bind (wpAny_field hos hds (x := .none) rfl (wpAny_bind (wpAny_field hos hds (x := .none) rfl (wpAny_bind (wpAny_field hos hds (x := vs) rfl (wpAny_pure ?_)))))))
  refine wpAny_bind (slicePart_ ps ?_)
  show wpAny _ _ (if ((-1 : Int) == 0) = true then _ else _) _ _ s
  rw [if_neg (by decide)]
  refine wpAny_bind (slicePart_ .none (wpAny_bind (slicePart_ .none (wpAny_bind (wpAny_pure ?_)))))
  show wpAny _ _ (match Builtin.Slice.sliceAdjust none none (-1) (n : Int) with | (lo, hi) => pure (lo, (-1 : Int), Builtin.Slice.slicePlaces lo hi (-1))) _ _ s
  rw [adjust_rev n]
  show wpAny _ _ (pure ((n : Int) - 1, (-1 : Int), Builtin.Slice.slicePlaces ((n : Int) - 1) (-1) (-1))) _ _ s
  rw [places_rev]
  exact wpAny_pure h
theorem getItem_tuple_rev {t sl : Addr} {items : Array Value} {vs : Value} {Q : Value → Shared → Prop} (ht : IsTup s.heap t items) (hs : s.heap.IsSliceOf sl .none .none vs) (ps : IsPart vs (some (-1)))
    (h : Q (.ref s.heap.objs.size) { s with heap := s.heap.push { cls := .type "tuple", data := .seq items.toList.reverse.toArray } })
    (hsz : items.size ≤ sizeLine) : wpAny (model prog w) A (getItem (.ref t) (.ref sl)) Q E s := by
  have htake : sizeOk (.seq items.toList.reverse.toArray) := by
    show items.toList.reverse.toArray.size ≤ sizeLine
    rw [List.size_toArray, List.length_reverse, Array.length_toList]
    exact hsz
  obtain ⟨os, hos, hcs, hds⟩ := id hs
  have hTs : s.TypeIs (.ref sl) "slice" := ⟨os, hos, hcs⟩
  unfold getItem
  try with_reducible refine wpAny_holding ?_
  first | refine wpAny_bind (wpAny_pure ?_) | skip
  refine wpAny_bind (wpAny_sequenceKey ht.typeIs (by decide) ?_)
  refine wpAny_bind (wpAny_callSpecial?_slot (name := Str.ofString "__getitem__") ht.typeIs PyProof.Rows.slot_tuple_getitem
    (wpAny_call_entry PyProof.Rows.slot_tuple_getitem ht.typeIs entry_tuple_getitem ?_ (args_tuple_getitem _ _)))
  show wpAny _ _ (Builtin.Tuple.tupleItemsOf (.ref t) >>= _) _ _ s
  refine wpAny_bind (tupleItemsOf_ ht ?_)
  refine wpAny_bind (wpAny_typeOf hTs ?_)
  rw [if_pos (by decide)]
  refine wpAny_bind (sliceApplied_rev hs ps ?_)
  have hno : ¬ ((((items.size : Int) - 1) == 0 && (-1 : Int) == 1 && items.size == items.size) = true) := by
    intro q
    rw [Bool.and_eq_true, Bool.and_eq_true] at q
    exact absurd q.1.2 (by decide)
  show wpAny _ _ (if ((((items.size : Int) - 1) == 0 && (-1 : Int) == 1 && items.size == items.size) = true) then _ else _) _ _ s
  rw [if_neg hno, pick_rev]
  first
    | exact wpAny_bind (m := Builtin.Tuple.tupleExact _) (wpAny_newObj_type (wpAny_pure ⟨_, rfl, wpAny_pure h⟩) htake)
    | exact wpAny_bind (m := Builtin.Tuple.tupleExact _) (wpAny_newObj_type (wpAny_bind (wpAny_pure (wpAny_pure ⟨_, rfl, wpAny_pure h⟩))) htake)
    | exact wpAny_bind (wpAny_bind (m := Builtin.Tuple.tupleExact _) (wpAny_newObj_type (wpAny_pure (wpAny_pure ⟨_, rfl, wpAny_pure h⟩)) htake))
    | exact wpAny_bind (wpAny_bind (m := Builtin.Tuple.tupleExact _) (wpAny_newObj_type (wpAny_pure ⟨_, rfl, wpAny_pure h⟩) htake))
end
section
variable {X : Cx}
/-- t[::-1] of a tuple: a new tuple -/
def tRevT (K : PySem.W.Frag) (te : TE) : TE := fun σ H Q => te σ H fun x H1 => ∃ a xs, x = .ref a ∧ SqT K H1 a xs ∧ ∀ p, H1 p = none → Q (.ref p) (upd H1 p (.tup xs.reverse))
theorem pe_revT {e : Expr} {te : TE} {k : Nat} {p1 p2 p3 pos : Pos} (he : PE X e te) : PE X (.Subscript e (.Slice none none (some (.UnaryOp .USub (.Constant (.int 1) k p1) p2)) p3) pos) (tRevT X.K te) := by
  refine ⟨fun pins s σ H Q I h => ?_⟩
  refine Subscript_ (thn (he.run pins s σ H _ I h) fun v s1 ⟨x, H1, I1, r1, q1⟩ => ?_)
  obtain ⟨a, xs, ex, hx, q⟩ := q1
  subst ex
  cases r1
  have hst : PO X (some (.UnaryOp .USub (.Constant (.int 1) k p1) p2)) (tPart (tUn (rU fun i => .int (-i)) (tC (.int 1)))) := po_some (pe_un un_neg pe_int)
  refine wpAny_Slice (thn (po_none.run pins s1 σ H1 (fun o H2 => o = none ∧ H2 = H1) I1 ⟨rfl, rfl⟩) fun vl s2 ⟨l, H2, I2, pl, el, e2⟩ => ?_)
  subst el e2
  refine thn (po_none.run pins s2 σ H2 (fun o H3 => o = none ∧ H3 = H2) I2 ⟨rfl, rfl⟩) fun vu s3 ⟨u, H3, I3, pu, eu, e3⟩ => ?_
  subst eu e3
  refine thn (hst.run pins s3 σ H3 (fun o H4 => o = some (-1) ∧ H4 = H3) I3 ⟨1, rfl, -1, rfl, rfl, rfl⟩) fun vs s4 ⟨o, H4, I4, ps, eo, e4⟩ => ?_
  subst eo e4
  cases pl
  cases pu
  have I5 : Inv X pins σ H4 { s4 with heap := s4.heap.push { cls := .type "slice", data := .fields #[.none, .none, vs] } } := I4.kept (t' := s4.toks) fun b ob q => Heap.get?_push_of_some _ q
  obtain ⟨its, r, ht, hz⟩ := I5.tuple hx
  have hlen := r.length
  have hz2 : its.length ≤ sizeLine := by first | exact hz | omega
  show wpAny (model X.prog X.w) X.A (subscriptTail e (.Slice none none (some (.UnaryOp .USub (.Constant (.int 1) k p1) p2)) p3) (.ref a) (.ref s4.heap.objs.size)) (EP X pins σ Q) X.xe { s4 with heap := s4.heap.push { cls := .type "slice", data := .fields #[.none, .none, vs] } }
  refine tail_any (ops := [.ref a, .ref s4.heap.objs.size]) ht.typeIs (PyProof.Rows.slot_tuple_getitem.lookup) ?_ (by with_unfolding_all rfl)
  refine getItem_tuple_rev ht (Heap.IsSliceOf.new _ .none .none vs) ps ?_ (by rw [List.size_toArray]; exact hz2)
  refine ⟨.ref _, _, I5.laid (t' := s4.toks) (o := .tup xs.reverse) (fun b ob q => Heap.get?_push_of_some _ q) (Nat.le_refl _) ?_, rfl, q _ (I5.hok.fresh (Nat.le_refl _))⟩
  exact ⟨by rw [List.length_reverse]; omega, _, r.reverse, _, Heap.get?_push_size _ rfl, rfl, 0, rfl⟩
end
end Sw
set_option Elab.async false
set_option maxRecDepth 100000
set_option maxHeartbeats 4000000
namespace Sw
open PySem L2 PySem.Spec PyProof.Rows
/-! ### walks told by an invariant over the turn -/
theorem for_enum {K : PySem.W.Frag} {a : Addr} {xs : List V} {g : TG} {tb : TS} {D : Ends} {σ : L2.St} {H : Hp} (Pv : Nat → L2.St → Hp → Prop) (h0 : Pv 0 σ H) (hl : ∀ i σ H, i ≤ xs.length → Pv i σ H → SqL K H a xs)
    (hs : ∀ i x T σ H, xs[i]? = some x → Pv i σ H → H T = none → g (.ref T) σ (upd H T (.tup [.int (i : Nat), x])) fun σ2 H2 => tb { D with nx := Pv (i + 1), ct := Pv (i + 1), bk := D.nx } σ2 H2) (hd : ∀ σ H, Pv xs.length σ H → D.nx σ H) :
    ∃ W : Nat → Nat → L2.St → Hp → Prop, (∃ m, W 0 m σ H) ∧ ∀ i m σ H, W i m σ H →
      ((Ite K a).stop i H ∧ D.nx σ H) ∨ ((Ite K a).go i H ∧ ∃ N : L2.St → Hp → Prop, (∀ σ' H', N σ' H' → ∃ m', m' < m ∧ W (i + 1) m' σ' H') ∧ ∀ x H', (Ite K a).yld i H x H' → g x σ H' fun σ2 H2 => tb { D with nx := N, ct := N, bk := D.nx } σ2 H2) := by
  refine ⟨fun i m σ H => m = xs.length - i ∧ i ≤ xs.length ∧ Pv i σ H, ⟨xs.length, by simp, Nat.zero_le _, h0⟩, ?_⟩
  rintro i m σ H ⟨rfl, hi, hp⟩
  have hL := hl i σ H hi hp
  by_cases e : i = xs.length
  · exact .inl ⟨⟨xs, hL, by omega⟩, hd σ H (by rw [← e]; exact hp)⟩
  · have hlt : i < xs.length := by omega
    refine .inr ⟨⟨xs, xs[i], hL, List.getElem?_eq_getElem hlt⟩, Pv (i + 1), fun σ' H' hq => ⟨_, by omega, rfl, hlt, hq⟩, fun x H' hy => ?_⟩
    obtain ⟨T, y, rfl, hT, rfl, hx⟩ := hy
    exact hs i y T σ H (hx xs hL) hp hT
theorem lc_enum {K : PySem.W.Frag} {a : Addr} {xs : List V} {g : TG} {tt : TT} {te : TE} {vs : List Nat} {σ : L2.St} {H1 : Hp} {D : Addr} {Qd : Hp → Prop} (Pv : Nat → Hp → Prop) (h0 : Pv 0 (upd H1 D (.lst []))) (hl : ∀ i H, i ≤ xs.length → Pv i H → SqL K H a xs)
    (hs : ∀ i x T H, xs[i]? = some x → Pv i H → H T = none → g (.ref T) (wipe σ vs) (upd H T (.tup [.int (i : Nat), x])) fun σ2 H2 => wipe σ2 vs = wipe σ vs ∧ tt σ2 H2 fun b H3 => if b = true then te σ2 H3 fun y H4 => ∃ acc, H4 D = some (.lst acc) ∧ acc.length < sizeLine ∧ Pv (i + 1) (upd H4 D (.lst (acc ++ [y]))) else Pv (i + 1) H3)
    (hd : ∀ H, Pv xs.length H → Qd H) : ∃ W : Nat → Nat → Hp → Prop, (∃ m, W 0 m (upd H1 D (.lst []))) ∧ ∀ i m H, W i m H →
      ((Ite K a).stop i H ∧ Qd H) ∨ ((Ite K a).go i H ∧ ∃ Nx : Hp → Prop, (∀ H', Nx H' → ∃ m', m' < m ∧ W (i + 1) m' H') ∧ ∀ x H', (Ite K a).yld i H x H' → g x (wipe σ vs) H' fun σ2 H2 => wipe σ2 vs = wipe σ vs ∧ tt σ2 H2 fun b H3 =>
        if b = true then te σ2 H3 fun y H4 => ∃ acc, H4 D = some (.lst acc) ∧ acc.length < sizeLine ∧ Nx (upd H4 D (.lst (acc ++ [y]))) else Nx H3) := by
  refine ⟨fun i m H => m = xs.length - i ∧ i ≤ xs.length ∧ Pv i H, ⟨xs.length, by simp, Nat.zero_le _, h0⟩, ?_⟩
  rintro i m H ⟨rfl, hi, hp⟩
  have hL := hl i H hi hp
  by_cases e : i = xs.length
  · exact .inl ⟨⟨xs, hL, by omega⟩, hd H (by rw [← e]; exact hp)⟩
  · have hlt : i < xs.length := by omega
    refine .inr ⟨⟨xs, xs[i], hL, List.getElem?_eq_getElem hlt⟩, Pv (i + 1), fun H' hq => ⟨_, by omega, rfl, hlt, hq⟩, fun x H' hy => ?_⟩
    obtain ⟨T, y, rfl, hT, rfl, hx⟩ := hy
    exact hs i y T H (hx xs hL) hp hT
/-- a dict's entries, the dict locked meanwhile -/
theorem for_items {d : Addr} {od : Obj} {kvs : List (Key × V)} {g : TG} {tb : TS} {D : Ends} {σ : L2.St} {H : Hp} (Pv : Nat → L2.St → Hp → Prop) (h0 : Pv 0 σ H) (hl : ∀ i σ H, i ≤ kvs.length → Pv i σ H → H d = some (.frz od (.dK kvs)))
    (hs : ∀ i k v T σ H, kvs[i]? = some (k, v) → Pv i σ H → H T = none → g (.ref T) σ (upd H T (.tup [kV k, v])) fun σ2 H2 => tb { D with nx := Pv (i + 1), ct := Pv (i + 1), bk := D.nx } σ2 H2) (hd : ∀ σ H, Pv kvs.length σ H → D.nx σ H) :
    ∃ W : Nat → Nat → L2.St → Hp → Prop, (∃ m, W 0 m σ H) ∧ ∀ i m σ H, W i m σ H →
      ((Iti d od kvs).stop i H ∧ D.nx σ H) ∨ ((Iti d od kvs).go i H ∧ ∃ N : L2.St → Hp → Prop, (∀ σ' H', N σ' H' → ∃ m', m' < m ∧ W (i + 1) m' σ' H') ∧ ∀ x H', (Iti d od kvs).yld i H x H' → g x σ H' fun σ2 H2 => tb { D with nx := N, ct := N, bk := D.nx } σ2 H2) := by
  refine ⟨fun i m σ H => m = kvs.length - i ∧ i ≤ kvs.length ∧ Pv i σ H, ⟨kvs.length, by simp, Nat.zero_le _, h0⟩, ?_⟩
  rintro i m σ H ⟨rfl, hi, hp⟩
  have hL := hl i σ H hi hp
  by_cases e : i = kvs.length
  · exact .inl ⟨⟨hL, by omega⟩, hd σ H (by rw [← e]; exact hp)⟩
  · have hlt : i < kvs.length := by omega
    refine .inr ⟨⟨hL, hlt⟩, Pv (i + 1), fun σ' H' hq => ⟨_, by omega, rfl, hlt, hq⟩, fun x H' hy => ?_⟩
    obtain ⟨T, k, v, hk, rfl, hT, rfl⟩ := hy
    exact hs i k v T σ H hk hp hT
/-! ### max(xs, default=d) of whole numbers -/
def rMaxD (K : PySem.W.Frag) : List V → List V → Hp → VK → Prop := fun vs zs H Q => ∃ (a : Addr) (ns : List Int) (d m : Int), vs = [V.ref a] ∧ zs = [V.int d] ∧ SqL K H a (ns.map V.int) ∧ (ns = [] → m = d) ∧ (∀ n r, ns = n :: r → m = r.foldl max n) ∧ Q (.int m) H
theorem depthInts : ∀ ns : List Int, PyData.depthAll (ns.map PyData.int) = 0
  | [] => by simp [PyData.depthAll]
  | n :: r => by simp [PyData.depthAll, PyData.depth, depthInts r]
theorem dpInts {K : PySem.W.Frag} {H : Hp} : ∀ ns : List Int, DpAll K H (ns.map V.int) (ns.map PyData.int)
  | [] => .nil
  | n :: r => .cons (.int n) (dpInts r)
theorem cr_maxD {X : Cx} (hc : X.calm = true) (hu : X.A.units + 64 < cLine) : CallRK X (.builtin "max") [Str.ofString "default"] (rMaxD X.K) := by
  intro pins s σ H vs zs us ws Q I r1 r2 h
  obtain ⟨a, ns, d, m, rfl, rfl, hs, q0, q1, q⟩ := h
  obtain ⟨its, rv, hl, _⟩ := I.list hs
  cases r1 with
  | cons x1 x2 =>
    cases x1
    cases x2
    cases r2 with
    | cons y1 y2 =>
      obtain ⟨td, rfl⟩ := y1
      cases y2
      obtain ⟨as, hr⟩ := Dp.readsAll I (ns.map PyData.int) (ns.map V.int) its (dpInts ns) rv
      have hal : PySem.W.AlikeAll (ns.map PyData.int) := ⟨fun x hx y hy => by
        obtain ⟨i, _, rfl⟩ := List.mem_map.mp hx
        obtain ⟨j, _, rfl⟩ := List.mem_map.mp hy
        rfl, fun x hx => by
        obtain ⟨i, _, rfl⟩ := List.mem_map.mp hx
        intro z
        cases z⟩
      have hun : X.A.units + 1 + PyData.depthAll (ns.map PyData.int) < cLine := by
        rw [depthInts]
        omega
      refine PySem.W.max_list_default (vs := its.toArray) (I.ok.hd hc) hl.isList (by simpa using hr) hal hun (fun e h' tk hk => ?_) (fun y ys i v h' tk bs e hv hrd hk => ?_)
      · have : ns = [] := by simpa using e
        exact ⟨.int d, H, I.kept hk, ⟨_, rfl⟩, by rw [← q0 this]; exact q⟩
      · cases ns with
        | nil => cases e
        | cons n r =>
          rw [List.map_cons] at e
          injection e with e1 e2
          subst e1 e2
          rw [PySem.W.maxD_ints] at hrd
          cases hrd
          exact ⟨.int _, H, I.kept hk, ⟨_, rfl⟩, by rw [← q1 n r rfl]; exact q⟩
end Sw
set_option Elab.async false
set_option maxRecDepth 100000
set_option maxHeartbeats 4000000
namespace PySem
open Sem (wp)
open AutoSeq1 (wpAny_loadPart')
/-! ### enumerate of a tuple, at the library's level -/
theorem meets_enumerate_newT (l : Addr) (items : Array Value) (n : Nat) (dct : Option Addr) (sl : Array (Option Value)) :
    Meets (Builtin.«enumerate.__new__» ⟨[.type "enumerate", .ref l], []⟩) (fun _ R s => s.heap.get? l = some { cls := .type "tuple", dict := dct, data := .seq items n, slots := sl } ∧
      R (.ok (.ret (.ref (s.heap.push { cls := .type "tuple_iterator", data := .fields #[.ref l, .int 0 0] }).objs.size)))
        { s with heap := (s.heap.push { cls := .type "tuple_iterator", data := .fields #[.ref l, .int 0 0] }).push { cls := .type "enumerate", data := .fields #[.none, .bool false, .ref s.heap.objs.size, rawInt 0, .none, .none] } }) :=
  .of_wp fun prog w A R s h => by
    obtain ⟨hp, g, d, tk, os⟩ := s; obtain ⟨hl, h⟩ := h
    have hsub := sub_enumerate
    have hL : Heap.IsTuple (Shared.heap ⟨hp, g, d, tk, os⟩) l items := ⟨_, hl, rfl, n, rfl⟩
    wp_walk using wpAny_loadPart' hl
    refine wpAny_stack_any fun st => wpAny_pure ?_
    split
    · rename_i c _ _ _ _ _
      cases (c == Value.type "enumerate")
      · wp_walk using wpAny_loadPart' hl, wpAny_pyIter_tuple hL
        exact ⟨_, rfl, h⟩
      · wp_walk using wpAny_loadPart' hl, wpAny_pyIter_tuple hL
        exact ⟨_, rfl, h⟩
    · wp_walk using wpAny_loadPart' hl, wpAny_pyIter_tuple hL
      exact ⟨_, rfl, h⟩
section
variable {prog : Program} {w : World} {A : Around} {E : Value → Shared → Prop} {s : Shared}
theorem call_enumerate_tuple {l : Addr} {items : Array Value} {Q : Value → Shared → Prop} (hL : s.heap.IsTuple l items)
    (h : ∀ h', IsEnum h' (s.heap.objs.size + 1) s.heap.objs.size 0 .none → h'.IsTupleIter s.heap.objs.size l 0 → h'.objs.size = s.heap.objs.size + 2 →
      (∀ b o, s.heap.get? b = some o → h'.get? b = some o) → Q (.ref (s.heap.objs.size + 1)) { s with heap := h' }) :
    wpAny (model prog w) A (call (.type "enumerate") [.ref l]) Q E s := by
  obtain ⟨⟨c, dct, dt, sl⟩, hl, hc, n, hd⟩ := hL
  replace hc : c = .type "tuple" := hc
  replace hd : dt = .seq items n := hd
  subst hc hd
  refine callType_new F.called_enumerate (by decide) (F.typeCall_enumerate_1 _) (F.newCall_enumerate_1 _) (fun obj => F.args_object_init_2 obj _) F.entry_enumerate_new
    (meets_enumerate_newT l items n dct sl) ⟨hl, ?_⟩
  have hz : (s.heap.push { cls := .type "tuple_iterator", data := .fields #[.ref l, .int 0 0] }).objs.size = s.heap.objs.size + 1 := Heap.size_push ..
  show _ ∧ _
  rw [hz]
  have he : IsEnum ((s.heap.push { cls := .type "tuple_iterator", data := .fields #[.ref l, .int 0 0] }).push
      { cls := .type "enumerate", data := .fields #[.none, .bool false, .ref s.heap.objs.size, rawInt 0, .none, .none] }) (s.heap.objs.size + 1) s.heap.objs.size 0 .none := by
    have := Heap.get?_push_size (s.heap.push { cls := .type "tuple_iterator", data := .fields #[.ref l, .int 0 0] })
      (o := { cls := .type "enumerate", data := .fields #[.none, .bool false, .ref s.heap.objs.size, rawInt 0, .none, .none] }) rfl
    rw [hz] at this; exact this
  refine ⟨⟨_, he, rfl⟩, h _ he ⟨_, Heap.get?_push_of_some _ (Heap.get?_push_size _ rfl), rfl, rfl⟩ (by rw [Heap.size_push, hz]) fun b o x => Heap.get?_push_of_some _ (Heap.get?_push_of_some _ x)⟩
end
end PySem
namespace Sw
open PySem L2 PySem.Spec PyProof.Rows HT
/-- the tuple at a, each item in a new pair -/
def IteT (K : PySem.W.Frag) (a : Addr) : It :=
  ⟨fun i H => ∃ (xs : List V) (x : V), SqT K H a xs ∧ xs[i]? = some x, fun i H v H' => ∃ T x, v = .ref T ∧ H T = none ∧ H' = upd H T (.tup [.int (i : Nat), x]) ∧ ∀ xs, SqT K H a xs → xs[i]? = some x, fun i H => ∃ xs : List V, SqT K H a xs ∧ xs.length ≤ i⟩
theorem turn_enumT {P : Program} {w : World} {K : PySem.W.Frag} {elts : List Expr} {kk : Nat} {tpos : Pos} (a e it : Addr) :
    Turn P w K (.Tuple elts kk tpos) (IteT K a) [e, it] e (fun i h => (∃ old, IsEnum h e it ((i : Nat) : Int) old) ∧ h.IsTupleIter it a i ∧ e ≠ it ∧ a ≠ it ∧ a ≠ e) where
  mem := by simp
  obj := fun i h st b hb => by
    obtain ⟨⟨old, he⟩, ⟨o, ho, hc, hd⟩, _⟩ := st
    have e' : b = e ∨ b = it := by simpa using hb
    rcases e' with z | z
    · rw [z]; exact ⟨_, he, fun v q => nomatch q⟩
    · rw [z]; exact ⟨o, ho, fun v q => by rw [hd] at q; cases q⟩
  keep := fun i h h' st k => let ⟨⟨old, he⟩, hi, hne⟩ := st; ⟨⟨old, k e (by simp) _ he⟩, hi.at fun o q => k it (by simp) o q, hne⟩
  item := by
    intro X hP hw hK hc i pins s σ H E I hf st hg
    subst hP hw hK
    obtain ⟨⟨old, he⟩, hit, hne, hai, hae⟩ := st
    obtain ⟨xs, x, hq, hx⟩ := hg
    obtain ⟨its, rv, p, hz⟩ := I.tuple hq
    obtain ⟨u, hu, ru⟩ := rv.get hx
    have hel : e < s.heap.objs.size := Heap.lt_size he
    have hil : it < s.heap.objs.size := by obtain ⟨_, q, _⟩ := hit; exact Heap.lt_size q
    have hlt : i < its.toArray.size := by
      have : its[i]? = some u := by simpa using hu
      obtain ⟨q, _⟩ := List.getElem?_eq_some_iff.mp this
      simpa using q
    have D := PySem.Draws.tuple (prog := X.prog) (w := X.w) (A := X.A.in1) (I.ok.hd hc) it a hai its.toArray
    refine wpAny_pyNext_enum_itemD D he ⟨hit, p⟩ hlt hne (by simp [hne, hae.symm]) fun y h' tk hy ho hst' hT hsz hk => ?_
    obtain ⟨hit', hp'⟩ := hst'
    have ey : y = u := by
      have : its.toArray[i]? = some u := by simpa using hu
      rw [this] at hy
      exact (Option.some.inj hy).symm
    subst ey
    refine ⟨_, rfl, wpAny_letOwnedTupleGo_enum (s := { s with heap := h', toks := tk + 1 }) ho fun h'' he' sb => ?_⟩
    have hT2 : h''.get? s.heap.objs.size = some { cls := .type "tuple", data := .seq #[.int i tk, y] } := (sb.2 _ (Nat.ne_of_gt hel)).trans hT
    have new : ObjOk X.prog X.w (upd H s.heap.objs.size (.tup [.int (i : Nat), x])) h'' s.heap.objs.size (.tup [.int (i : Nat), x]) :=
      ⟨by show 2 ≤ sizeLine; decide, [.int i tk, y], .cons ⟨_, rfl⟩ (.cons ru .nil), ⟨_, hT2, rfl, _, rfl⟩⟩
    have I1 : Inv X pins σ (upd H s.heap.objs.size (.tup [.int (i : Nat), x])) { s with heap := h'', toks := tk + 1 } :=
      I.turnedNew (ch := [e, it]) (fun b ob hb q => (sb.2 b (fun z => hb (by simp [z]))).trans (hk b ob (fun z => hb (by simp [z])) (fun z => hb (by simp [z])) q)) hf (Nat.le_refl _) new
    refine ⟨.ref s.heap.objs.size, _, I1, rfl, ⟨_, x, rfl, I.hok.fresh (Nat.le_refl _), rfl, fun ys hy => by rw [I.tuple_inj hy hq]; exact hx⟩, ⟨⟨y, ?_⟩, hit'.at fun o q => (sb.2 it (Ne.symm hne)).trans q, hne, hai, hae⟩, fun b hb => ?_⟩
    · have e1 : ((i + 1 : Nat) : Int) = (i : Int) + 1 := by omega
      rw [e1]; exact he'
    · have hb' : b < s.heap.objs.size := by
        have e' : b = e ∨ b = it := by simpa using hb
        rcases e' with z | z
        · rw [z]; exact hel
        · rw [z]; exact hil
      rw [upd_ne (Nat.ne_of_lt hb')]
      exact (hf b hb).1
  done := by
    intro X hP hw hK hc i pins s σ H E I hf st hg
    subst hP hw hK
    obtain ⟨⟨old, he⟩, hit, hne, hai, hae⟩ := st
    obtain ⟨xs, hq, hx⟩ := hg
    obtain ⟨its, rv, p, hz⟩ := I.tuple hq
    obtain ⟨f0, f1, f2, f3, f4, f5⟩ := hf it (by simp)
    have hl := rv.length
    have hle : xs.length ≤ i := hx
    have D := PySem.Draws.tuple (prog := X.prog) (w := X.w) (A := X.A.in1) (I.ok.hd hc) it a hai its.toArray
    have hT : s.TypeIs (.ref e) "enumerate" := ⟨_, he, rfl⟩
    unfold pyNext
    refine wpAny_bind (wpAny_attempt (wpAny_callSpecial?_slot (name := Str.ofString "__next__") hT F.slot_enumerate_next
      (wpAny_call_entry F.slot_enumerate_next hT F.entry_enumerate_next ?_ (F.args_enumerate_next_1 _))))
    show wpAny _ _ (field (.ref e) 2 >>= _) _ _ _
    refine wpAny_bind (wpAny_field he rfl (x := .ref it) rfl ?_)
    refine wpAny_bind (wpAny_nextOf_tuple_end (I.ok.hd hc) hit p (by simp; omega) fun h' x eb hx' => ?_)
    obtain ⟨o, ho, hc'⟩ := hx'
    refine wpAny_bind (wpAny_isInstance (T := "StopIteration") (b := true) ⟨o, ho, hc'⟩ isSubtype_stop ?_)
    exact wpAny_pure ⟨rfl, I.turned (t' := s.toks) (fun b o hb q => eb b o hb q) f0 f1 f3 f4 f5⟩
  self := fun A i s Q E st h => let ⟨⟨_, he⟩, _⟩ := st; wpAny_pyIter_enum he h
def iEnumT (K : PySem.W.Frag) (ta : TA) : TI := fun σ H R => ta σ H fun vs H1 => ∃ a xs, vs = [.ref a] ∧ SqT K H1 a xs ∧ R (IteT K a) H1
theorem pi_enumT {X : Cx} {e : Expr} {ta : TA} {p pos tpos : Pos} {elts : List Expr} {kk : Nat} (hg : Gl X "enumerate") (hm : X.mg "enumerate" = none) (ha : PA X [e] ta) (hs : starEach [e] X.env = [(false, eval e X.env)] := by rfl) :
    PI X (.Tuple elts kk tpos) (.Call (.Name "enumerate" p) [e] [] pos) (iEnumT X.K ta) := by
  refine ⟨fun pins s σ H R I h => ?_⟩
  refine Call_ (ld_blt I hg hm boot_enumerate (PyProof.Rows.callWith_type1 (thn (ha.run pos pins s σ H _ I h) fun us s1 ⟨vs, H1, I1, r1, q1⟩ => ?_) hs rfl))
  obtain ⟨a, xs, ex, hq, q⟩ := q1
  subst ex
  cases r1 with
  | cons r rr =>
    cases rr
    cases r
    obtain ⟨its, rv, p', hz⟩ := I1.tuple hq
    have hal : a < s1.heap.objs.size := by
      obtain ⟨o, ho, _⟩ := p'
      exact Heap.lt_size ho
    refine call_enumerate_tuple p' fun h' he hit hsz hk => wpAny_pyIter_enum he ?_
    have I2 : Inv X pins σ H1 { s1 with heap := h' } := I1.kept (t' := s1.toks) hk
    refine ⟨s1.heap.objs.size + 1, [s1.heap.objs.size + 1, s1.heap.objs.size], _, _, H1, rfl, I2, turn_enumT a (s1.heap.objs.size + 1) s1.heap.objs.size, ⟨⟨.none, he⟩, hit, Nat.succ_ne_self _, Nat.ne_of_lt hal, Nat.ne_of_lt (Nat.lt_succ_of_lt hal)⟩, fun b hb => ?_, q⟩
    have e' : b = s1.heap.objs.size + 1 ∨ b = s1.heap.objs.size := by simpa using hb
    have hle : s1.heap.objs.size ≤ b := by
      rcases e' with z | z
      · rw [z]; exact Nat.le_add_right _ _
      · rw [z]; exact Nat.le_refl _
    exact I1.fpOk hle (I1.hok.fresh hle)
theorem for_enumT {K : PySem.W.Frag} {a : Addr} {xs : List V} {g : TG} {tb : TS} {D : Ends} {σ : L2.St} {H : Hp} (Pv : Nat → L2.St → Hp → Prop) (h0 : Pv 0 σ H) (hl : ∀ i σ H, i ≤ xs.length → Pv i σ H → SqT K H a xs)
    (hs : ∀ i x T σ H, xs[i]? = some x → Pv i σ H → H T = none → g (.ref T) σ (upd H T (.tup [.int (i : Nat), x])) fun σ2 H2 => tb { D with nx := Pv (i + 1), ct := Pv (i + 1), bk := D.nx } σ2 H2) (hd : ∀ σ H, Pv xs.length σ H → D.nx σ H) :
    ∃ W : Nat → Nat → L2.St → Hp → Prop, (∃ m, W 0 m σ H) ∧ ∀ i m σ H, W i m σ H →
      ((IteT K a).stop i H ∧ D.nx σ H) ∨ ((IteT K a).go i H ∧ ∃ N : L2.St → Hp → Prop, (∀ σ' H', N σ' H' → ∃ m', m' < m ∧ W (i + 1) m' σ' H') ∧ ∀ x H', (IteT K a).yld i H x H' → g x σ H' fun σ2 H2 => tb { D with nx := N, ct := N, bk := D.nx } σ2 H2) := by
  refine ⟨fun i m σ H => m = xs.length - i ∧ i ≤ xs.length ∧ Pv i σ H, ⟨xs.length, by simp, Nat.zero_le _, h0⟩, ?_⟩
  rintro i m σ H ⟨rfl, hi, hp⟩
  have hL := hl i σ H hi hp
  by_cases e : i = xs.length
  · exact .inl ⟨⟨xs, hL, by omega⟩, hd σ H (by rw [← e]; exact hp)⟩
  · have hlt : i < xs.length := by omega
    refine .inr ⟨⟨xs, xs[i], hL, List.getElem?_eq_getElem hlt⟩, Pv (i + 1), fun σ' H' hq => ⟨_, by omega, rfl, hlt, hq⟩, fun x H' hy => ?_⟩
    obtain ⟨T, y, rfl, hT, rfl, hx⟩ := hy
    exact hs i y T σ H (hx xs hL) hp hT
end Sw
set_option Elab.async false
set_option maxRecDepth 100000
set_option maxHeartbeats 4000000
namespace Sw
open PySem L2 PySem.Spec PyProof.Rows
/-! ### repr of any data, where no repr goes on around it -/
def rReprD (K : PySem.W.Frag) : List V → Hp → VK → Prop := fun xs H Q => ∃ v d, xs = [v] ∧ Dp K H v d ∧ d.showable = true ∧ d.hasDict = false ∧ d.depth ≤ 40 ∧ d.shown.length ≤ sizeLine ∧ Q (.str d.shown) H
theorem shown_leaf : (PyData.none).shown = ("None" : Str) ∧ (∀ b, (PyData.bool b).shown = (if b then "True" else "False" : Str)) ∧ (∀ i, (PyData.int i).shown = ((toString i : String) : Str)) ∧ (∀ x, (PyData.str x).shown = reprText x) :=
  ⟨by simp only [PyData.shown], fun b => by simp only [PyData.shown], fun i => by simp only [PyData.shown], fun x => by simp only [PyData.shown]⟩
section
variable {X : Cx}
theorem cr_reprD (hg : X.A.guards = some []) (hu : X.A.units + 64 < cLine) : CallR X (.builtin "repr") (rReprD X.K) := by
  intro pins s σ H xs us Q I r h
  obtain ⟨v, d, rfl, hd, hsh, hnd, hdp, hsz, q⟩ := h
  obtain ⟨u, rfl, ru⟩ := vals1 r
  obtain ⟨l1, l2, l3, l4⟩ := shown_leaf
  have hsm : ∀ as : List Addr, d.hasDict = true → sysModules ∉ as := fun as z => by rw [hnd] at z; cases z
  have far : ∀ a : Addr, u = .ref a → wpAny (model X.prog X.w) X.A (call (.builtin "repr") [u]) (EP X pins σ Q) X.xe s := fun a e => by
    obtain ⟨as, hr⟩ := Dp.reads I d v u hd ru
    subst e
    refine repr_of_reads' (h₀ := s.heap) hr hsh (hsm as) hg (by omega) (fun b o e => e) (fun h' t tk keep => ?_) hsz
    exact ⟨.str d.shown, H, I.kept (t' := tk) keep, ⟨_, rfl⟩, q⟩
  cases hd with
  | non =>
    obtain rfl : u = Value.none := ru
    rw [l1] at q
    exact PySem.P.repr_of_none ⟨.str _, H, I.tok _, ⟨_, rfl⟩, q⟩
  | bl b =>
    obtain rfl : u = Value.bool b := ru
    rw [l2] at q
    exact PySem.P.repr_of_bool ⟨.str _, H, I.tok _, ⟨_, rfl⟩, q⟩
  | int i =>
    obtain ⟨t, rfl⟩ : ∃ t, u = Value.int i t := ru
    rw [l3] at q
    exact PySem.P.repr_of_int (by simpa [PyData.showable] using hsh) ⟨.str _, H, I.tok _, ⟨_, rfl⟩, q⟩
  | str x =>
    obtain ⟨t, rfl⟩ : ∃ t, u = Value.str x t := ru
    rw [l4] at q hsz
    exact PySem.P.repr_of_str ⟨.str _, H, I.tok _, ⟨_, rfl⟩, q⟩ hsz
  | lst h1 h2 => exact far _ ru
  | tup h1 h2 => exact far _ ru
end
/-! ### defs that are called where no repr goes on around them -/
section
variable {P : Program} {w : World} {K : PySem.W.Frag} {mg : Str → Option Value} {base : Heap}
structure FnG (P : Program) (w : World) (K : PySem.W.Frag) (mg : Str → Option Value) (base : Heap) (k : Nat) (f : Addr) (fd : FuncData) (ps : List Str) (sp : Sp) : Prop where
  size : ∀ vs H Q E, sp vs H Q E → vs.length = ps.length
  goes : ∀ {A : Around} {outer : List Env} {s : Shared} {H : Hp} {args : Args} {us : List Value} {vs : List V} {Q : VK} {E : XK}, A.guards = some [] → Room k A → Env0 P w K mg base A outer s H → BindsTo s fd args (ps.zip us) → Vals vs us → sp vs H Q E →
    codeAny (model P w) A (.call (.ref f) args) (CR CX0 outer P w H s Q E) s
theorem FnG.of {k : Nat} {f : Addr} {fd : FuncData} {ps : List Str} {sp : Sp} (F : FnOk P w K mg base CX0 k f fd ps sp) : FnG P w K mg base k f fd ps sp :=
  ⟨F.len, fun {A outer s H args us vs Q E} _ r e b v q => F.run A outer s H args us vs Q E r e b v q⟩
/-- its body, where no repr goes on around it -/
theorem fn_g {k : Nat} {f : Addr} {x : Str} {pa : Arguments} {body : List Stmt} {sc : Scope} {dV kV doc pm cdv ct oc : Value} {an od : Option Addr} {osl : Array (Option Value)} {N ps : List Str} {sp : Sp}
    (lk : K.lookup f = some ⟨oc, od, .func (PySem.W.fnOf x x pa body sc dV kV doc pm an cdv ct), osl⟩) (hcd : PySem.W.codeIn K cdv x = true) (S : FnScope N ps sc) (size : ∀ vs H Q E, sp vs H Q E → vs.length = ps.length)
    (walk : ∀ (A : Around) (outer : List Env) (s : Shared) (H : Hp) (vs : List V) (Q : VK) (E : XK), (A.deeper (envOfC x sc s.heap.objs.size f cdv)).guards = some [] → Room k (A.deeper (envOfC x sc s.heap.objs.size f cdv)) → sp vs H Q E →
      ∃ t, PSs (cxOf CX0 P w K mg base N x sc f cdv A outer s H E) body t ∧ t { nx := fun _ H' => Q .non H', rt := Q } (start N vs) H) :
    FnG P w K mg base (k + 1) f (PySem.W.fnOf x x pa body sc dV kV doc pm an cdv ct) ps sp := by
  refine ⟨size, fun {A outer s H args us vs Q E} hg hr e0 hb r hsp => ?_⟩
  have old : ∀ b o, base.get? b = some o → s.heap.get? b = some o := fun b o e => (e0.bs b o e).1
  have KX := e0.mod.kin.keeps old
  have names : ∀ y ∈ ps.zip us, sc.names.lookup y.1 = some .local ∨ (sc.names.lookup y.1 = some .cell ∧ ((cellsFrom (s.heap.objs.size + 1) sc.names []).lookup y.1).isSome = true) := by
    rintro ⟨n, v⟩ hy
    have hn := S.par n (List.of_mem_zip hy).1
    exact hn.imp id fun q => ⟨q, PySem.W.cellsFrom_some _ _ _ (.inl q)⟩
  refine codeAny_call_function hr.depth (KX _ _ lk) rfl S.co S.gen rfl (PySem.W.codeRec_of KX hcd) (hb _ _ _ _ (wpAny_newFunctionEnv_cells S.kind names fun env he s1 y => ?_))
  subst he
  refine ⟨(e0.mod.nolimit.keeps old).keeps y.toInCall.keep, codeAny_func ?_⟩
  obtain ⟨t, ht, hq⟩ := walk A outer s H vs Q E hg (hr.deeper _) hsp
  have J := inv_start (P := P) (w := w) (mg := mg) (CX := CX0) (E := E) S hr.hd e0 (size _ _ _ _ hsp) r y
  refine wpAny_mono (ht.run [] s1 (start N vs) H _ J hq) (fun fl s' z => ?_) fun e s' z => z
  match fl, z with
  | .ret u, ⟨v, σ', H', J2, rv, q⟩ => exact ⟨v, H', J2.os, J2.bare, J2.base, J2.hok, rv, q⟩
  | .next, ⟨σ', H', J2, q⟩ => exact ⟨V.non, H', J2.os, J2.bare, J2.base, J2.hok, rfl, q⟩
  | .brk, ⟨_, _, _, q⟩ => exact q.elim
  | .cont, ⟨_, _, _, q⟩ => exact q.elim
theorem Fun.okG {x : Str} {st : Stmt} {f : Addr} {fd : FuncData} {N ps : List Str} {k : Nat} {sp : Sp} (F : Fun K x x st f fd) (S : FnScope N ps (defScope st)) (size : ∀ vs H Q E, sp vs H Q E → vs.length = ps.length)
    (walk : ∀ (cdv : Value) (A : Around) (outer : List Env) (s : Shared) (H : Hp) (vs : List V) (Q : VK) (E : XK), (A.deeper (envOfC x (defScope st) s.heap.objs.size f cdv)).guards = some [] → Room k (A.deeper (envOfC x (defScope st) s.heap.objs.size f cdv)) → sp vs H Q E →
      ∃ t, PSs (cxOf CX0 P w K mg base N x (defScope st) f cdv A outer s H E).nox (defBody st) t ∧ t { nx := fun _ H' => Q .non H', rt := Q } (start N vs) H) : FnG P w K mg base (k + 1) f fd ps sp := by
  obtain ⟨oc, od, kV, doc, pm, an, cdv, ct, osl, rfl, lk, hcd⟩ := F.ex
  refine fn_g lk hcd S size fun A outer s H vs Q E hg hr hsp => ?_
  obtain ⟨t, h, q⟩ := walk cdv A outer s H vs Q E hg hr hsp
  exact ⟨t, h.nox, q⟩
/-- a def of the top that is called where no repr goes on around it -/
structure DefG (P : Program) (w : World) (K : PySem.W.Frag) (mg : Str → Option Value) (base : Heap) (x : Str) (k : Nat) (ps : List Str) (sp : Sp) : Prop where
  ex : ∃ f fd, FnG P w K mg base k f fd ps sp ∧ mg x = some (.ref f) ∧ PySem.W.keepIn K (.ref f) = true ∧ Binds K fd ps []
theorem DefAt.okG {x : Str} {st : Stmt} {N ps : List Str} {k : Nat} {sp : Sp} (F : DefAt K mg x st ps) (S : FnScope N ps (defScope st)) (size : ∀ vs H Q E, sp vs H Q E → vs.length = ps.length)
    (walk : ∀ (f : Addr) (cdv : Value) (A : Around) (outer : List Env) (s : Shared) (H : Hp) (vs : List V) (Q : VK) (E : XK), (A.deeper (envOfC x (defScope st) s.heap.objs.size f cdv)).guards = some [] → Room k (A.deeper (envOfC x (defScope st) s.heap.objs.size f cdv)) → sp vs H Q E →
      ∃ t, PSs (cxOf CX0 P w K mg base N x (defScope st) f cdv A outer s H E).nox (defBody st) t ∧ t { nx := fun _ H' => Q .non H', rt := Q } (start N vs) H) : DefG P w K mg base x (k + 1) ps sp := by
  obtain ⟨f, fd, h1, h2, h3⟩ := F.ex
  exact ⟨f, fd, Fun.okG h1 S size (fun cdv A outer s H vs Q E hg hr hs => walk f cdv A outer s H vs Q E hg hr hs), h2, h1.kp, h3⟩
end
section
variable {X : Cx} {x : Str} {k : Nat} {ps : List Str} {sp : Sp} {e : Expr} {es : List Expr} {t : TA} {p pos : Pos}
theorem pe_callG (F : DefG X.prog X.w X.K X.mg X.base x k ps sp) (hgu : X.A.guards = some []) (hr : Room k X.A) (hg : Gl X x) (ha : PA X (e :: es) t) (hdb : (x == ("__debug__" : Str)) = false := by decide)
    (he : starEach (e :: es) X.env = (false, eval e X.env) :: starEach es X.env := by rfl) (hpl : (backTo pos (starEach es X.env)).any (·.1) = false := by rfl) : PE X (.Call (.Name x p) (e :: es) [] pos) (tCall sp [] E0 t) := by
  obtain ⟨f, fd, G, hm, hk, hb⟩ := F.ex
  refine ⟨fun pins s σ H Q I h => wpAny_Call_Name_kw (ld_glob I hg hm ?_ hdb)⟩
  refine PySem.W.callWith_K (h₀ := X.base) I.ok.mod.kin hk (thn (ha.run pos pins s σ H _ I h) fun us s1 ⟨vs, H1, I1, r, q⟩ => ⟨I1.kIn, ?_⟩) he hpl
  have q : sp (vs ++ []) H1 Q E0 := q
  have hl := G.size _ _ _ _ q
  rw [List.append_nil] at hl q
  have hz : (us ++ ([] : List Value)).length = ps.length := by rw [List.append_nil, ← r.length]; exact hl
  have b1 := hb s1 us I1.kIn hz
  rw [List.append_nil] at b1
  refine wpAny_call (codeAny_mono (G.goes hgu hr I1.env0 b1 r q) fun z s' hq => ?_)
  match z, hq with
  | .ok (.ret u), hq => exact I1.after hq
  | .ok .next, hq => exact hq.elim
  | .ok .brk, hq => exact hq.elim
  | .ok .cont, hq => exact hq.elim
  | .error e, hq => exact hq.elim
end
end Sw
set_option Elab.async false
set_option maxRecDepth 100000
set_option maxHeartbeats 4000000
namespace Sw
open PySem L2 PySem.Spec PyProof.Rows GenW
/-! ### the end of a law whose own def asks for reprs -/
theorem law_callG {P : Program} {w : World} {K : PySem.W.Frag} {mg mb : Str → Option Value} {k : Nat} {fa a : Addr} {cs : List (Addr × Addr)} {fd : FuncData} {x : Str} {sp : Sp} {s₁ : Shared} {vs : List Value} {ns : List Int}
    (KX : K.In s₁.heap) (hns : s₁.heap.Ns mainGlobals mg) (hb : s₁.heap.Ns builtinsNs mb) (hbb : ∀ x : Str, x ≠ "__name__" → mb x = bootBuiltins x) (hlim : s₁.heap.NoLimit) (hg : s₁.gens = #[])
    (hT : ∀ p ∈ cs, s₁.heap.get? p.2 = some { cls := .none, data := .fields #[] }) (nT : ∀ p ∈ cs, K.lookup p.2 = none) (C : ∀ p ∈ cs, PySem.W.CodeHd s₁.heap p.1 p.2)
    (hbm : ∃ (bm : Addr) (ob : Obj), mg "__builtins__" = some (.ref bm) ∧ bm ≠ builtinsNs ∧ s₁.heap.get? bm = some ob ∧ ob.cls = .type "module" ∧ ob.dict = some builtinsNs ∧ ob.data = .plain)
    (ha : s₁.heap.get? a = some { cls := .type "list", data := .seq vs.toArray }) (hi : IntsAre vs ns) (hl : ns.length ≤ sizeLine) (hr : Room k callerA)
    (F : ∀ base : Heap, K.In base → base.Ns mainGlobals mg → (∀ p ∈ cs, GxR.TabB base mg p.1 p.2) → FnG P w K mg base k fa fd [x] sp) (hbind : ∀ (s : Shared) (u : Value), BindsTo s fd ⟨[u], []⟩ [(x, u)])
    (hsp : ∀ H : Hp, Tabs cs H → SqL K H a (ns.map V.int) → sp [.ref a] H (fun v H' => v = .bl true ∧ Tabs cs H') fun _ _ _ => False) :
    codeAny (model P w) callerA (.call (.ref fa) ⟨[.ref a], []⟩) (fun r s' => r = .ok (.ret (.bool true)) ∧ OldK s₁.heap s'.heap ∧ s'.os = s₁.os ∧ AllBare s'.gens) s₁ := by
  have rv := vals_ints hi
  have lenV := hi.length
  have isT : ∀ b : Addr, b ∈ cs.map (·.2) → s₁.heap.get? b = some { cls := .none, data := .fields #[] } := fun b hb => by
    obtain ⟨p, hp, e⟩ := List.mem_map.mp hb
    rw [← e]
    exact hT p hp
  have aT : a ∉ cs.map (·.2) := fun z => by
    have q := isT a z
    rw [ha] at q
    have z' : Data.seq vs.toArray _ = Data.fields #[] := congrArg Obj.data (Option.some.inj q)
    cases z'
  have memT : ∀ p ∈ cs, p.2 ∈ cs.map (·.2) := fun p hp => List.mem_map.mpr ⟨p, hp, rfl⟩
  have core : ∀ H : Hp, Tabs cs H → (∀ b, H b = none ∨ b ∈ cs.map (·.2) ∨ ∃ o xs, H b = some (.frz o (.lst xs))) → SqL K H a (ns.map V.int) → HOk P w H s₁.heap → (∀ b, H b ≠ none → b = a ∨ b ∈ cs.map (·.2)) → (H a ≠ none → K.lookup a = none) →
      codeAny (model P w) callerA (.call (.ref fa) ⟨[.ref a], []⟩) (fun r s' => r = .ok (.ret (.bool true)) ∧ OldK s₁.heap s'.heap ∧ s'.os = s₁.os ∧ AllBare s'.gens) s₁ := by
    intro H hH hO hS hok hA hK
    have base_of : ∀ {b : Addr} {o : Obj}, s₁.heap.get? b = some o → H b = none → (hidT s₁.heap H).get? b = some o := fun e n => hidT_get e n
    have noD : ∀ {b : Addr} {o : Obj}, s₁.heap.get? b = some o → (∀ vs n, o.data ≠ .seq vs n) → o.data ≠ .fields #[] → H b = none := fun {b o} e h1 h2 => by
      cases q : H b with
      | none => rfl
      | some u =>
        rcases hA b (by rw [q]; simp) with e' | e'
        · rw [e', ha] at e
          cases e
          exact (h1 _ _ rfl).elim
        · rw [isT b e'] at e
          cases e
          exact (h2 rfl).elim
    have noA : ∀ {b : Addr} {o : Obj} {es : Array DictEntry} {ep : Nat}, s₁.heap.get? b = some o → o.data = .dict es ep → H b = none := fun {b o es ep} e d => by
      refine noD e (fun vs n z => ?_) fun z => ?_
      · rw [d] at z
        cases z
      · rw [d] at z
        cases z
    have nsK : ∀ {b : Addr} {m : Str → Option Value}, s₁.heap.Ns b m → (hidT s₁.heap H).Ns b m := fun {b m} ⟨o, es, ep, e, d, r⟩ => ⟨o, es, ep, base_of e (noA e d), d, r⟩
    have hKb : K.In (hidT s₁.heap H) := fun b o e => base_of (KX b o e) (by
      cases q : H b with
      | none => rfl
      | some u =>
        rcases hA b (by rw [q]; simp) with e' | e'
        · rw [e'] at e q
          rw [hK (by rw [q]; simp)] at e
          cases e
        · obtain ⟨p, hp, ep⟩ := List.mem_map.mp e'
          rw [← ep, nT p hp] at e
          cases e)
    have hM : L2.Mod K mg (hidT s₁.heap H) := ⟨hKb, nsK hns, ⟨mb, nsK hb, hbb⟩, let ⟨mc, h1, h2⟩ := hlim; ⟨mc, nsK h1, h2⟩⟩
    have TB : ∀ p ∈ cs, GxR.TabB (hidT s₁.heap H) mg p.1 p.2 := fun p hp => by
      have hTp := hT p hp
      refine ⟨?_, ?_, fun z => ?_⟩
      · obtain ⟨o, us, file, tf, flags, tg, inF, text, tt, e1, r1, r2, r3, r4, r5, r6, r7, r8, hne⟩ := C p hp
        refine ⟨o, us, file, tf, flags, tg, inF, text, tt, base_of e1 (noD e1 (fun vs n z => ?_) fun z => ?_), r1, r2, r3, r4, r5, r6, r7, r8, hne⟩
        · rw [r2] at z
          cases z
        · rw [r2] at z
          cases z
          simp at r3
      · obtain ⟨bm, ob, b1, b2, b3, b4, b5, b6⟩ := hbm
        have nG : bm ≠ mainGlobals := fun q => by
          obtain ⟨o, es, ep, e, hd, _⟩ := hns
          rw [q, e] at b3
          cases b3
          rw [hd] at b6
          cases b6
        have nP : bm ≠ p.2 := fun q => by
          rw [q, hTp] at b3
          cases b3
          cases b6
        refine ⟨bm, ob, b1, b2, nG, nP, base_of b3 (noD b3 (fun vs n z => ?_) fun z => ?_), b4, b5, b6⟩
        · rw [b6] at z
          cases z
        · rw [b6] at z
          cases z
      · obtain ⟨o, es, ep, e, hd, _⟩ := hns
        rw [z, hTp] at e
        cases e
        cases hd
    have e0 : Env0 P w K mg (hidT s₁.heap H) callerA [] s₁ H := ⟨rfl, hM, fun b o e => of_hidT e, Nat.le_of_eq (hidT_size _ _), trivial, fun b hb => absurd (show b ∈ ([] : List Addr) from hb) (by simp), hok, .of_eq hg⟩
    refine codeAny_mono ((F _ hKb (nsK hns) TB).goes (A := callerA) (args := ⟨[.ref a], []⟩) (us := [.ref a]) (vs := [.ref a]) rfl hr e0 (hbind s₁ (.ref a)) (.cons rfl .nil) (hsp H hH hS)) fun r s' h => ?_
    cases r with
    | error e => exact False.elim h
    | ok fl =>
      cases fl with
      | next => exact False.elim h
      | brk => exact False.elim h
      | cont => exact False.elim h
      | ret u =>
        obtain ⟨v, H', os, bare, un, hok', r', q⟩ := h
        obtain ⟨qv, qT⟩ := q
        subst qv
        obtain rfl : u = Value.bool true := r'
        have stays : ∀ b o, b ∉ cs.map (·.2) → s₁.heap.get? b = some o → s'.heap.get? b = some o := fun b o nb e => by
          cases q : H b with
          | none => exact un.keep b o e q (by intro z; exact absurd (show b ∈ ([] : List Addr) from z) (by simp)) (by simp)
          | some u =>
            rcases hO b with z | z | ⟨ob, xs, z⟩
            · rw [q] at z; cases z
            · exact absurd z nb
            · obtain ⟨e1, _⟩ := hok b _ z
              obtain ⟨e2, _⟩ := hok' b _ (un.frzs b ob _ z)
              rw [e] at e1; cases e1
              exact e2
        have grew : ∀ p ∈ cs, ∃ more : Array Value, s'.heap.get? p.2 = some { cls := .none, data := .fields more } := fun p hp => by
          obtain ⟨⟨ps, z, _⟩, _⟩ := hok' p.2 _ (qT p hp)
          exact ⟨ps, z⟩
        refine ⟨rfl, ⟨fun b o e => ?_, fun b o e => ?_⟩, os, bare⟩
        · by_cases hb : b ∈ cs.map (·.2)
          · obtain ⟨p, hp, ep⟩ := List.mem_map.mp hb
            obtain ⟨more, hm⟩ := grew p hp
            rw [← ep] at e ⊢
            rw [hT p hp] at e
            cases e
            exact .inr (.inl ⟨((C p hp).tab (hT p hp)).isCodeTable, rfl, #[], more, rfl, by rw [Array.empty_append]; exact hm⟩)
          · exact .inl (stays b o hb e)
        · by_cases hb : b ∈ cs.map (·.2)
          · obtain ⟨p, hp, ep⟩ := List.mem_map.mp hb
            obtain ⟨more, hm⟩ := grew p hp
            rw [← ep]
            exact ⟨_, hm⟩
          · exact ⟨o, stays b o hb e⟩
  have tOk : ∀ {H : Hp} {b : Addr}, b ∈ cs.map (·.2) → ObjOk P w H s₁.heap b (TabE b) := fun hb => tabE_ok (isT _ hb) (by trivial)
  cases hk : K.lookup a with
  | some o =>
    have e := KX a o hk
    rw [ha] at e
    cases e
    refine core (fun b => if b ∈ cs.map (·.2) then some (TabE b) else none) (fun p hp => if_pos (memT p hp)) (fun b => ?_) (.inr ⟨_, vs.toArray, _, hk, rfl, rfl, rfl, by rw [List.size_toArray, lenV]; exact hl, by simpa using rv⟩) (fun b u z => ?_) (fun b z => ?_) fun z => absurd (show (if a ∈ cs.map (·.2) then some (TabE a) else none) = none from if_neg aT) z
    · by_cases hb : b ∈ cs.map (·.2)
      · exact .inr (.inl hb)
      · exact .inl (if_neg hb)
    · by_cases hb : b ∈ cs.map (·.2)
      · have z' := (if_pos hb).symm.trans z
        cases z'
        exact tOk hb
      · have z' := (if_neg hb).symm.trans z
        cases z'
    · by_cases hb : b ∈ cs.map (·.2)
      · exact .inr hb
      · exact absurd (if_neg hb) z
  | none =>
    refine core (fun b => if b = a then some (.frz { cls := .type "list", data := .seq vs.toArray } (.lst (ns.map V.int))) else if b ∈ cs.map (·.2) then some (TabE b) else none) (fun p hp => (if_neg (show ¬ p.2 = a from fun z => aT (by rw [← z]; exact memT p hp))).trans (if_pos (memT p hp))) (fun b => ?_)
      (.inl (.inr ⟨{ cls := .type "list", data := .seq vs.toArray }, if_pos rfl⟩)) (fun b u z => ?_) (fun b z => ?_) fun _ => hk
    · by_cases hb : b = a
      · exact .inr (.inr ⟨_, _, if_pos hb⟩)
      · by_cases hb2 : b ∈ cs.map (·.2)
        · exact .inr (.inl hb2)
        · exact .inl ((if_neg hb).trans (if_neg hb2))
    · by_cases hb : b = a
      · have z' := (if_pos hb).symm.trans z
        cases z'
        rw [hb]
        exact ⟨ha, by rw [List.length_map]; exact hl, vs, _, rv, ha⟩
      · have z1 := (if_neg hb).symm.trans z
        by_cases hb2 : b ∈ cs.map (·.2)
        · have z' := (if_pos hb2).symm.trans z1
          cases z'
          exact tOk hb2
        · have z' := (if_neg hb2).symm.trans z1
          cases z'
    · by_cases hb : b = a
      · exact .inl hb
      · by_cases hb2 : b ∈ cs.map (·.2)
        · exact .inr hb2
        · exact absurd ((if_neg hb).trans (if_neg hb2)) z
theorem walk_ofG {l : PySem.W.OpenLaw} {n k : Nat} {q : Program} {loose : List Str} {XP : (Str → Option Value) → Heap → Prop} {YP : World → Heap → Prop} {d : DefRec} {K : Params → PySem.W.Frag} {x : Str}
    (hn : l.most = some n) (hn2 : n ≤ sizeLine) (hdf : d.params.defaults = []) (hr : Room k callerA) (hY : ∀ (w : World) (h : Heap), YP w h → (K w.params).In h)
    (F : ∀ (w : World) (mg : Str → Option Value) (fa : Addr) (h : Heap), (K w.params).In h → h.Ns mainGlobals mg → mg d.name = some (.ref fa) → (∀ x c P, ((recsOf q).any fun e => e.name == x) = true → OwnT (K w.params) h x c P) →
      ∃ (fd : FuncData) (cs : List (Addr × Addr)) (sp : Sp), (∀ p ∈ cs, h.get? p.2 = some { cls := .none, data := .fields #[] }) ∧ (∀ p ∈ cs, (K w.params).lookup p.2 = none) ∧ (∀ p ∈ cs, PySem.W.CodeHd h p.1 p.2) ∧ (∀ (s : Shared) (u : Value), BindsTo s fd ⟨[u], []⟩ [(x, u)]) ∧
        (∀ (H : Hp) (a : Addr) (ns : List Int), ns.length ≤ n → (∀ z ∈ ns, Builtin.Int.intBits z ≤ 1048576) → Tabs cs H → SqL (K w.params) H a (ns.map V.int) → sp [.ref a] H (fun v H' => v = .bl true ∧ Tabs cs H') fun _ _ _ => False) ∧
        ∀ base : Heap, (K w.params).In base → base.Ns mainGlobals mg → (∀ p ∈ cs, GxR.TabB base mg p.1 p.2) → FnG l.prog w (K w.params) mg base k fa fd [x] sp) :
    PySem.W.WalkO q loose XP YP l.row.toRowW d [] (fun f vs => PySem.call f vs) := by
  refine Att.attach_callB hn hdf fun w s₀ s₁ mg mb fa o pm cd doc a vs ns G Y ho hd hcd hmg hobj hints hlen hbits hg => ?_
  have KX := hY w _ Y
  obtain ⟨fd, cs, sp, hT, nT, C, hb, hsp, hF⟩ := F w mg fa _ KX G.T.g hmg fun x c P hrec f o1 fd1 e dd vs1 sl k0 k1 k2 k3 k4 k5 => by
    obtain ⟨dL, hm, hn1⟩ := List.any_eq_true.mp hrec
    have hn2 : dL.name = x := beq_iff_eq.mp hn1
    obtain ⟨a', o', fd', c', P', h1, h2, h3, h4, h5, h6⟩ := G.T.tab dL hm
    have q0 := PySem.W.mg_of KX G.T.g k0
    rw [hn2, q0] at h1
    cases h1
    have g1 := KX _ _ k1
    rw [g1] at h2
    cases h2
    rw [k2] at h3
    cases h3
    rw [k3] at h4
    cases h4
    have h6' := h6
    obtain ⟨⟨oc, vc, e1, _, e3, e4⟩, hP⟩ := h6
    have g2 := KX _ _ k4
    rw [g2] at e1
    cases e1
    cases e3
    rw [k5] at e4
    cases e4
    exact ⟨hP, PySem.W.CodeHd.of h5 h6'⟩
  exact law_callG KX G.T.g G.T.b G.T.builtins G.T.nolimit hg hT nT C G.T.bmain hobj hints (Nat.le_trans hlen hn2) hr hF hb (fun H hH hS => hsp H a ns hlen hbits hH hS)
end Sw
set_option Elab.async false
set_option maxRecDepth 100000
set_option maxHeartbeats 4000000
namespace Sw
open PySem L2 PySem.Spec PyProof.Rows
/-! ### expressions that make data: what they tell where Pre holds of what is known of the heap -/
/-- what is known (G) of the heap (H) grows by new things alone -/
structure Grow (G H G' H' : Hp) : Prop where
  gg : Same G G'
  hh : Same H H'
  gh : Same G' H'
  fr : ∀ a o, H a = some o → G a = none → G' a = none
theorem Grow.rfl' {G H : Hp} (s : Same G H) : Grow G H G H := ⟨Same.refl _, Same.refl _, s, fun _ _ _ h => h⟩
theorem Grow.trans {G H G1 H1 G2 H2 : Hp} (a : Grow G H G1 H1) (b : Grow G1 H1 G2 H2) : Grow G H G2 H2 := ⟨a.gg.trans b.gg, a.hh.trans b.hh, b.gh, fun x o h1 h2 => b.fr x o (a.hh x o h1) (a.fr x o h1 h2)⟩
theorem Grow.new {G H : Hp} {p : Addr} {o : HO} (s : Same G H) (np : H p = none) : Grow G H (upd G p o) (upd H p o) := by
  refine ⟨.new (s.free np), .new np, fun b u e => ?_, fun a u h1 h2 => ?_⟩
  · by_cases q : b = p
    · subst q
      rw [upd_same] at e ⊢
      exact e
    · rw [upd_ne q] at e ⊢
      exact s b u e
  · rw [upd_ne (ne_of_none h1 np)]
    exact h2
section
variable {K : PySem.W.Frag} {σ : L2.St} {Pre : Hp → Prop}
/-- stays while nothing is changed -/
def Stay (Pre : Hp → Prop) : Prop := ∀ {H H' : Hp}, Pre H → Same H H' → Pre H'
def MkD (K : PySem.W.Frag) (σ : L2.St) (Pre : Hp → Prop) (t : TE) (d : PyData) : Prop := ∀ (G H : Hp) (Q : VK), Same G H → Pre G → (∀ G' H' v, Grow G H G' H' → Dp K G' v d → Q v H') → t σ H Q
def MkDs (K : PySem.W.Frag) (σ : L2.St) (Pre : Hp → Prop) (t : TA) (ds : List PyData) : Prop := ∀ (G H : Hp) (Q : List V → Hp → Prop), Same G H → Pre G → (∀ G' H' vs, Grow G H G' H' → DpAll K G' vs ds → Q vs H') → t σ H Q
/-- a list of its own -/
def MkL (K : PySem.W.Frag) (σ : L2.St) (Pre : Hp → Prop) (t : TE) (ds : List PyData) : Prop := ∀ (G H : Hp) (Q : VK), Same G H → Pre G → (∀ G' H' p vs, Grow G H G' H' → H p = none → G' p = none → H' p = some (.lst vs) → DpAll K G' vs ds → Q (.ref p) H') → t σ H Q
/-- a list that stands there -/
def MkR (K : PySem.W.Frag) (σ : L2.St) (Pre : Hp → Prop) (t : TE) (ds : List PyData) : Prop := ∀ (G H : Hp) (Q : VK), Same G H → Pre G → (∀ G' H' p vs, Grow G H G' H' → G' p = some (.lst vs) → DpAll K G' vs ds → Q (.ref p) H') → t σ H Q
theorem MkD.use {t : TE} {d : PyData} (h : MkD K σ Pre t d) {H : Hp} {Q : VK} (hp : Pre H) (k : ∀ H' v, Same H H' → Dp K H' v d → Q v H') : t σ H Q := h H H Q (Same.refl _) hp fun _ H' v g hd => k H' v g.hh (dpS g.gh hd)
theorem MkL.use {t : TE} {ds : List PyData} (h : MkL K σ Pre t ds) {H : Hp} {Q : VK} (hp : Pre H) (k : ∀ H' p vs, Same H H' → H p = none → H' p = some (.lst vs) → DpAll K H' vs ds → Q (.ref p) H') : t σ H Q := h H H Q (Same.refl _) hp fun _ H' p vs g np _ hl hd => k H' p vs g.hh np hl (dpsS g.gh hd)
/-- the list's things are none of the list -/
theorem MkL.useN {t : TE} {ds : List PyData} (h : MkL K σ Pre t ds) {H : Hp} {Q : VK} (hp : Pre H) (k : ∀ G H' p vs, Same H G → Same G H' → H p = none → G p = none → H' p = some (.lst vs) → DpAll K G vs ds → Q (.ref p) H') : t σ H Q := h H H Q (Same.refl _) hp fun G H' p vs g np ng hl hd => k G H' p vs g.gg g.gh np ng hl hd
theorem mk_str {s : Str} : MkD K σ Pre (tC (.str s)) (.str s) := fun G H Q s _ k => k G H _ (.rfl' s) (.str _)
theorem mk_int {i : Int} : MkD K σ Pre (tC (.int i)) (.int i) := fun G H Q s _ k => k G H _ (.rfl' s) (.int _)
theorem mk_non : MkD K σ Pre (tC .non) .none := fun G H Q s _ k => k G H _ (.rfl' s) .non
theorem mk_bl {b : Bool} : MkD K σ Pre (tC (.bl b)) (.bool b) := fun G H Q s _ k => k G H _ (.rfl' s) (.bl _)
theorem mk_neg {t : TE} {i : Int} (h : MkD K σ Pre t (.int i)) : MkD K σ Pre (tUn (rU fun i => .int (-i)) t) (.int (-i)) := fun G H Q s hp k => h G H _ s hp fun G' H' v g hd => by
  cases hd
  exact ⟨i, rfl, k G' H' _ g (.int _)⟩
theorem mk_var {i : Nat} {v : V} {d : PyData} (hv : σ[i]? = some (some v)) (h : ∀ H, Pre H → Dp K H v d) : MkD K σ Pre (tVar i) d := fun G H Q s hp k => ⟨v, hv, k G H v (.rfl' s) (h G hp)⟩
theorem mk_nil : MkDs K σ Pre tNil [] := fun G H Q s _ k => k G H [] (.rfl' s) .nil
theorem mk_cons {t : TE} {ts : TA} {d : PyData} {ds : List PyData} (S : Stay Pre) (a : MkD K σ Pre t d) (b : MkDs K σ Pre ts ds) : MkDs K σ Pre (tCons t ts) (d :: ds) := fun G H Q s hp k =>
  a G H _ s hp fun G1 H1 v g1 hv => b G1 H1 _ g1.gh (S hp g1.gg) fun G2 H2 vs g2 hvs => k G2 H2 (v :: vs) (g1.trans g2) (.cons (dpS g2.gg hv) hvs)
theorem mk_tup {ts : TA} {ds : List PyData} (h : ds.length ≤ 1000) (a : MkDs K σ Pre ts ds) : MkD K σ Pre (tTup ts) (.tuple ds) := fun G H Q s hp k =>
  a G H _ s hp fun G1 H1 vs g1 hvs => ⟨szl (by have := dpsLen hvs; omega), fun p np => k (upd G1 p (.tup vs)) _ _ (g1.trans (.new g1.gh np)) (.tup (sT upd_same) (dpsS (.new (g1.gh.free np)) hvs))⟩
theorem mkl_lst {ts : TA} {ds : List PyData} (h : ds.length ≤ 1000) (a : MkDs K σ Pre ts ds) : MkL K σ Pre (tLst ts) ds := fun G H Q s hp k =>
  a G H _ s hp fun G1 H1 vs g1 hvs => ⟨szl (by have := dpsLen hvs; omega), fun p np => k G1 _ p vs ⟨g1.gg, g1.hh.trans (.new np), g1.gh.trans (.new np), g1.fr⟩ (g1.hh.free np) (g1.gh.free np) upd_same hvs⟩
theorem Grow.put {G H G' H' : Hp} {p : Addr} {o : HO} (g : Grow G H G' H') (np : H p = none) (ng : G' p = none) (hl : H' p = some o) : Grow G H (upd G' p o) H' := by
  refine ⟨g.gg.trans (.new ng), g.hh, fun b u e => ?_, fun a u h1 h2 => ?_⟩
  · by_cases q : b = p
    · subst q
      rw [upd_same] at e
      rw [← e]
      exact hl
    · rw [upd_ne q] at e
      exact g.gh b u e
  · rw [upd_ne (ne_of_none h1 np)]
    exact g.fr a u h1 h2
theorem MkL.r {t : TE} {ds : List PyData} (h : MkL K σ Pre t ds) : MkR K σ Pre t ds := fun G H Q s hp k => h G H Q s hp fun G' H' p vs g np ng hl hd => k (upd G' p (.lst vs)) H' p vs (g.put np ng hl) upd_same (dpsS (.new ng) hd)
theorem MkR.d {t : TE} {ds : List PyData} (h : MkR K σ Pre t ds) : MkD K σ Pre t (.list ds) := fun G H Q s hp k => h G H Q s hp fun G' H' p vs g hl hd => k G' H' _ g (.lst (sL hl) hd)
theorem mk_lst {ts : TA} {ds : List PyData} (h : ds.length ≤ 1000) (a : MkDs K σ Pre ts ds) : MkD K σ Pre (tLst ts) (.list ds) := (mkl_lst h a).r.d
theorem mkr_var {i : Nat} {p : Addr} {ds : List PyData} (hv : σ[i]? = some (some (.ref p))) (h : ∀ H, Pre H → ∃ vs, H p = some (.lst vs) ∧ DpAll K H vs ds) : MkR K σ Pre (tVar i) ds := fun G H Q s hp k =>
  let ⟨vs, h1, h2⟩ := h G hp
  ⟨_, hv, k G H p vs (.rfl' s) h1 h2⟩
/-- xs + ys of lists -/
theorem mkl_cat {t u : TE} {ds es : List PyData} (S : Stay Pre) (hl : ds.length + es.length ≤ 1000) (a : MkR K σ Pre t ds) (b : MkR K σ Pre u es) : MkL K σ Pre (tOp rCat t u) (ds ++ es) := fun G H Q s hp k =>
  a G H _ s hp fun G1 H1 p vs g1 h1 d1 => b G1 H1 _ g1.gh (S hp g1.gg) fun G2 H2 q us g2 h2 d2 => by
    have e1 := dpsLen d1
    have e2 := dpsLen d2
    refine ⟨p, q, vs, us, rfl, rfl, g2.gh _ _ (g2.gg _ _ h1), g2.gh _ _ h2, szl (by omega), fun z nz => ?_⟩
    have ng := g2.gh.free nz
    have g12 := g1.trans g2
    exact k G2 _ z _ ⟨g12.gg, g12.hh.trans (.new nz), g12.gh.trans (.new nz), g12.fr⟩ (g12.hh.free nz) ng upd_same (dpsApp (dpsS g2.gg d1) d2)
/-- t + u of tuples -/
theorem mk_catT {t u : TE} {ds es : List PyData} (S : Stay Pre) (hl : ds.length + es.length ≤ 1000) (a : MkD K σ Pre t (.tuple ds)) (b : MkD K σ Pre u (.tuple es)) : MkD K σ Pre (tOp (rCatA K) t u) (.tuple (ds ++ es)) := fun G H Q s hp k =>
  a G H _ s hp fun G1 H1 v g1 d1 => b G1 H1 _ g1.gh (S hp g1.gg) fun G2 H2 w g2 d2 => by
    obtain ⟨p, vs, rfl, h1, d1⟩ := dpTup d1
    obtain ⟨q, us, rfl, h2, d2⟩ := dpTup d2
    have e1 := dpsLen d1
    have e2 := dpsLen d2
    have d1' := dpsS g2.gg d1
    refine ⟨p, q, vs, us, rfl, rfl, g2.gh.sqT (g2.gg.sqT h1), g2.gh.sqT h2, szl (by omega), fun e => ?_, fun _ e => ?_, fun _ _ z nz => ?_⟩
    · subst e
      cases d1'
      exact k G2 H2 _ (g1.trans g2) (.tup h2 d2)
    · subst e
      cases d2
      exact k G2 H2 _ (g1.trans g2) (by rw [List.append_nil]; exact .tup (g2.gg.sqT h1) d1')
    · have ng := g2.gh.free nz
      exact k (upd G2 z (.tup (vs ++ us))) _ _ (g1.trans (g2.trans (.new g2.gh nz))) (.tup (sT upd_same) (dpsApp (dpsS (.new ng) d1') (dpsS (.new ng) d2)))
/-- t[lo:] of a tuple, lo written, not above the length and not 0 -/
theorem mk_fromT {t : TE} {ds : List PyData} {n : Nat} (h0 : 0 < n) (hn : n ≤ ds.length) (a : MkD K σ Pre t (.tuple ds)) : MkD K σ Pre (tSl (rSlA K) t (tPart (tC (.int (n : Int)))) tNoPart) (.tuple (ds.drop n)) := fun G H Q s hp k =>
  a G H _ s hp fun G1 H1 v g1 d1 => by
    obtain ⟨p, vs, rfl, h1, d1⟩ := dpTup d1
    have e1 := dpsLen d1
    refine ⟨_, rfl, p, vs, rfl, g1.gh.sqT h1, fun e => ?_, fun _ z nz => ?_⟩
    · have e := e.1
      rw [HT.sIx_nat] at e
      omega
    · have ec : cutV vs (some (n : Int)) none = vs.drop n := by
        unfold cutV
        rw [HT.sIx_nat, HT.sIx_none, Nat.min_eq_left (by omega), List.take_of_length_le (by rw [List.length_drop]; exact Nat.le_refl _)]
      refine k (upd G1 z (.tup (cutV vs (some (n : Int)) none))) _ _ (g1.trans (.new g1.gh nz)) (.tup (sT upd_same) ?_)
      rw [ec]
      have dr : ∀ (m : Nat) {ws : List V} {es : List PyData}, DpAll K (upd G1 z (.tup (vs.drop n))) ws es → DpAll K (upd G1 z (.tup (vs.drop n))) (ws.drop m) (es.drop m) := by
        intro m
        induction m with
        | zero => intro ws es h; exact h
        | succ m ih =>
          intro ws es h
          cases h with
          | nil => rw [List.drop_nil, List.drop_nil]; exact .nil
          | cons a b => exact ih b
      exact dr n (dpsS (.new (g1.gh.free nz)) d1)
/-- a pick out of a list -/
theorem mk_ixL {t u : TE} {ds : List PyData} {i : Int} {j : Nat} {d : PyData} (S : Stay Pre) (a : MkR K σ Pre t ds) (b : MkD K σ Pre u (.int i)) (e : i = (j : Int)) (hd : ds[j]? = some d) : MkD K σ Pre (tOp (rIxL K) t u) d := fun G H Q s hp k =>
  a G H _ s hp fun G1 H1 p vs g1 h1 d1 => b G1 H1 _ g1.gh (S hp g1.gg) fun G2 H2 w g2 d2 => by
    cases d2
    obtain ⟨v, hv, hvd⟩ := dpsAt d1 hd
    exact ⟨p, vs, i, v, rfl, rfl, sL (g2.gh _ _ (g2.gg _ _ h1)), at_of e hv, k G2 H2 v (g1.trans g2) (dpS g2.gg hvd)⟩
theorem mk_ixT {t u : TE} {ds : List PyData} {i : Int} {j : Nat} {d : PyData} (S : Stay Pre) (a : MkD K σ Pre t (.tuple ds)) (b : MkD K σ Pre u (.int i)) (e : i = (j : Int)) (hd : ds[j]? = some d) : MkD K σ Pre (tOp (rIxT K) t u) d := fun G H Q s hp k =>
  a G H _ s hp fun G1 H1 p g1 d1 => b G1 H1 _ g1.gh (S hp g1.gg) fun G2 H2 w g2 d2 => by
    cases d2
    obtain ⟨q, vs, rfl, h1, d1⟩ := dpTup d1
    obtain ⟨v, hv, hvd⟩ := dpsAt d1 hd
    exact ⟨q, vs, i, v, rfl, rfl, g2.gh.sqT (g2.gg.sqT h1), at_of e hv, k G2 H2 v (g1.trans g2) (dpS g2.gg hvd)⟩
/-- numbers -/
theorem mk_i0 {t u : TE} {a b : Int} {g : Int → Int → Int} (S : Stay Pre) (ha : MkD K σ Pre t (.int a)) (hb : MkD K σ Pre u (.int b)) : MkD K σ Pre (tOp (rI0 fun i j => .int (g i j)) t u) (.int (g a b)) := fun G H Q s hp k =>
  ha G H _ s hp fun G1 H1 v g1 d1 => hb G1 H1 _ g1.gh (S hp g1.gg) fun G2 H2 w g2 d2 => by
    cases d1
    cases d2
    exact ⟨a, b, rfl, rfl, k G2 H2 _ (g1.trans g2) (.int _)⟩
theorem mk_iC {t u : TE} {a b : Int} {C : Int → Int → Prop} {g : Int → Int → Int} (S : Stay Pre) (ha : MkD K σ Pre t (.int a)) (hb : MkD K σ Pre u (.int b)) (hC : C a b) : MkD K σ Pre (tOp (rI C fun i j => .int (g i j)) t u) (.int (g a b)) := fun G H Q s hp k =>
  ha G H _ s hp fun G1 H1 v g1 d1 => hb G1 H1 _ g1.gh (S hp g1.gg) fun G2 H2 w g2 d2 => by
    cases d1
    cases d2
    exact ⟨a, b, rfl, rfl, hC, k G2 H2 _ (g1.trans g2) (.int _)⟩
/-- [e for x in xs], x in slot i: J is the walk's own reading -/
theorem mkl_walk {te : TE} {i : Nat} {own : List Nat} {es : List PyData} {F : PyData → PyData} {G1 H1 : Hp} {vs : List V} {D : Addr} {Qd : Hp → Prop} (S : Stay Pre) (hl : es.length ≤ 1000) (hw : ∀ x : V, wipe ((wipe σ own).set i (some x)) own = wipe σ own)
    (he : ∀ (x : V) (d : PyData), d ∈ es → MkD K ((wipe σ own).set i (some x)) (fun H => Pre H ∧ Dp K H x d) te (F d)) (s1 : Same G1 H1) (hp : Pre G1) (d1 : DpAll K G1 vs es) (nD : H1 D = none)
    (k : ∀ G' H' us, Grow G1 H1 G' H' → G' D = none → H' D = some (.lst us) → DpAll K G' us (es.map F) → Qd H') :
    ∃ Pv : Nat → Hp → Prop, Pv 0 (upd H1 D (.lst [])) ∧ (∀ j H', Pv j H' → Same H1 H') ∧ (∀ j x H', vs[j]? = some x → Pv j H' → gName i x (wipe σ own) H' fun σ2 H2 => wipe σ2 own = wipe σ own ∧ tYes σ2 H2 fun b H3 => if b = true then te σ2 H3 fun y H4 => ∃ acc, H4 D = some (.lst acc) ∧ acc.length < sizeLine ∧ Pv (j + 1) (upd H4 D (.lst (acc ++ [y]))) else Pv (j + 1) H3) ∧ (∀ H', Pv vs.length H' → Qd H') := by
  have hlen := dpsLen d1
  have nG := s1.free nD
  refine ⟨fun j H' => ∃ us G', Same G1 G' ∧ Same H1 H' ∧ Same G' H' ∧ G' D = none ∧ (∀ a o, H1 a = some o → G1 a = none → G' a = none) ∧ H' D = some (.lst us) ∧ DpAll K G' us ((es.take j).map F),
    ⟨[], G1, Same.refl _, .new nD, s1.mut nG, nG, fun _ _ _ h => h, upd_same, .nil⟩, fun j H' ⟨us, G', _, h, _⟩ => h, ?_, ?_⟩
  · rintro j x H2 hx ⟨us, G2, gg, hh, gh, nD2, fr, hD, hus⟩
    obtain ⟨d, hd, hxd⟩ := dpsAtV d1 hx
    refine ⟨hw x, ?_⟩
    refine he x d (List.mem_of_getElem? hd) G2 H2 _ gh ⟨S hp gg, dpS gg hxd⟩ fun G3 H3 y g3 hy => ?_
    have hD3 := g3.hh _ _ hD
    have nD3 : G3 D = none := g3.fr D _ hD nD2
    have hul := dpsLen hus
    rw [List.length_map, List.length_take] at hul
    refine ⟨us, hD3, szb (by omega), us ++ [y], G3, gg.trans g3.gg, (hh.trans g3.hh).mut nD, g3.gh.mut nD3, nD3, fun a o h1 h2 => g3.fr a o (hh a o h1) (fr a o h1 h2), upd_same, ?_⟩
    rw [List.take_add_one, hd, Option.toList_some, List.map_append]
    exact dpsApp (dpsS g3.gg hus) (.cons hy .nil)
  · rintro H2 ⟨us, G2, gg, hh, gh, nD2, fr, hD, hus⟩
    rw [hlen, List.take_length] at hus
    exact k G2 H2 us ⟨gg, hh, gh, fr⟩ nD2 hD hus
theorem mkl_comp {tl te : TE} {i : Nat} {own : List Nat} {es : List PyData} {F : PyData → PyData} (S : Stay Pre) (hl : es.length ≤ 1000) (a : MkR K σ Pre tl es) (hw : ∀ x : V, wipe ((wipe σ own).set i (some x)) own = wipe σ own)
    (he : ∀ (x : V) (d : PyData), d ∈ es → MkD K ((wipe σ own).set i (some x)) (fun H => Pre H ∧ Dp K H x d) te (F d)) : MkL K σ Pre (tLc (iList K tl) (gName i) tYes te own) (es.map F) := fun G H Q s hp k =>
  a G H _ s hp fun G1 H1 p vs g1 h1 d1 => by
    refine ⟨p, rfl, ⟨vs, sL (g1.gh _ _ h1)⟩, fun D nD => ?_⟩
    obtain ⟨Pv, p0, ps, pt, pd⟩ := mkl_walk (Qd := fun H' => Q (.ref D) H') S hl hw he g1.gh (S hp g1.gg) d1 nD fun G' H' us g ng hD hd => k G' H' D us (g1.trans g) (g1.hh.free nD) ng hD hd
    exact lc_list (K := K) (a := p) (xs := vs) Pv p0 (fun j H' _ h => sL (ps j H' h _ _ (g1.gh _ _ h1))) pt pd
theorem mkl_compT {tl te : TE} {i : Nat} {own : List Nat} {es : List PyData} {F : PyData → PyData} (S : Stay Pre) (hl : es.length ≤ 1000) (a : MkD K σ Pre tl (.tuple es)) (hw : ∀ x : V, wipe ((wipe σ own).set i (some x)) own = wipe σ own)
    (he : ∀ (x : V) (d : PyData), d ∈ es → MkD K ((wipe σ own).set i (some x)) (fun H => Pre H ∧ Dp K H x d) te (F d)) : MkL K σ Pre (tLc (iTup K tl) (gName i) tYes te own) (es.map F) := fun G H Q s hp k =>
  a G H _ s hp fun G1 H1 v g1 d0 => by
    obtain ⟨p, vs, rfl, h1, d1⟩ := dpTup d0
    refine ⟨p, rfl, ⟨vs, g1.gh.sqT h1⟩, fun D nD => ?_⟩
    obtain ⟨Pv, p0, ps, pt, pd⟩ := mkl_walk (Qd := fun H' => Q (.ref D) H') S hl hw he g1.gh (S hp g1.gg) d1 nD fun G' H' us g ng hD hd => k G' H' D us (g1.trans g) (g1.hh.free nD) ng hD hd
    exact lc_tup (K := K) (a := p) (xs := vs) Pv p0 (fun j H' _ h => (ps j H' h).sqT (g1.gh.sqT h1)) pt pd
/-- list(t) of a tuple -/
theorem mkl_listOf {t : TE} {ds : List PyData} (a : MkD K σ Pre t (.tuple ds)) : MkL K σ Pre (tCB (fun xs H Q => ∃ p ys, xs = [V.ref p] ∧ (SqL K H p ys ∨ SqT K H p ys) ∧ ∀ l, H l = none → Q (V.ref l) (upd H l (HO.lst ys))) (tCons t tNil)) ds := fun G H Q s hp k =>
  a G H _ s hp fun G1 H1 v g1 d1 => by
    obtain ⟨p, vs, rfl, h1, d1⟩ := dpTup d1
    exact ⟨p, vs, rfl, .inr (g1.gh.sqT h1), fun l nl => k G1 _ l vs ⟨g1.gg, g1.hh.trans (.new nl), g1.gh.trans (.new nl), g1.fr⟩ (g1.hh.free nl) (g1.gh.free nl) upd_same d1⟩
/-- t[:-1] of a tuple, not empty -/
theorem dps_take {H : Hp} : ∀ (m : Nat) {ws : List V} {es : List PyData}, DpAll K H ws es → DpAll K H (ws.take m) (es.take m)
  | 0, _, _, _ => .nil
  | m + 1, _, _, .nil => by rw [List.take_nil, List.take_nil]; exact .nil
  | m + 1, _, _, .cons a b => .cons a (dps_take m b)
theorem mk_butLastT {t : TE} {ds : List PyData} (h0 : 0 < ds.length) (a : MkD K σ Pre t (.tuple ds)) : MkD K σ Pre (tSl (rSlA K) t tNoPart (tPart (tUn (rU fun i => .int (-i)) (tC (.int 1))))) (.tuple (ds.take (ds.length - 1))) := fun G H Q s hp k =>
  a G H _ s hp fun G1 H1 v g1 d1 => by
    obtain ⟨p, vs, rfl, h1, d1⟩ := dpTup d1
    have e1 := dpsLen d1
    have es : HT.sIx vs.length vs.length (some (-1)) = vs.length - 1 := by
      unfold HT.sIx
      first | (simp; omega) | (simp only []; split <;> omega) | omega
    refine ⟨_, rfl, _, rfl, p, vs, rfl, g1.gh.sqT h1, fun e => ?_, fun _ z nz => ?_⟩
    · have e := e.2
      rw [es] at e
      omega
    · have ec : cutV vs none (some (-1)) = vs.take (vs.length - 1) := by
        unfold cutV
        rw [es, HT.sIx_none, List.drop_zero, Nat.sub_zero]
      refine k (upd G1 z (.tup (cutV vs none (some (-1))))) _ _ (g1.trans (.new g1.gh nz)) (.tup (sT upd_same) ?_)
      rw [ec, e1]
      exact dps_take _ (dpsS (.new (g1.gh.free nz)) d1)
/-! ### statements that store what is made -/
theorem sq_mk {te : TE} {d : PyData} {i : Nat} {r : TS} {D : Ends} {H : Hp} (m : MkD K σ Pre te d) (hp : Pre H) (k : ∀ H1 v, Same H H1 → Dp K H1 v d → r D (σ.set i (some v)) H1) : tSeq (tAsg te (gName i)) r D σ H := m.use hp k
theorem sq_mkl {te : TE} {ds : List PyData} {i : Nat} {r : TS} {D : Ends} {H : Hp} (m : MkL K σ Pre te ds) (hp : Pre H) (k : ∀ G H1 p vs, Same H G → Same G H1 → H p = none → G p = none → H1 p = some (.lst vs) → DpAll K G vs ds → r D (σ.set i (some (.ref p))) H1) : tSeq (tAsg te (gName i)) r D σ H := m.useN hp k
theorem rt_mk {te : TE} {d : PyData} {D : Ends} {H : Hp} (m : MkD K σ Pre te d) (hp : Pre H) (k : ∀ H1 v, Same H H1 → Dp K H1 v d → D.rt v H1) : tRet te D σ H := m.use hp k
theorem stay_dp {v : V} {d : PyData} : Stay fun H => Dp K H v d := fun h s => dpS s h
theorem stay_ls {p : Addr} {ds : List PyData} : Stay fun H => ∃ vs, H p = some (.lst vs) ∧ DpAll K H vs ds := fun ⟨vs, h1, h2⟩ s => ⟨vs, s _ _ h1, dpsS s h2⟩
theorem stay_and {A B : Hp → Prop} (a : Stay A) (b : Stay B) : Stay fun H => A H ∧ B H := fun h s => ⟨a h.1 s, b h.2 s⟩
theorem stay_true : Stay fun _ => True := fun _ _ => trivial
end
end Sw
set_option Elab.async false
set_option maxRecDepth 100000
set_option maxHeartbeats 4000000
namespace Sw
open PySem L2 PySem.Spec PyProof.Rows
def top (i : Nat) : Stmt := PySem.Challenge.pw_soleway_k60_machines_known.main.body.getD i (.Pass ⟨0, 0, 0, 0⟩)
abbrev s_is_whole : Stmt := top 2
abbrev s_is_sign : Stmt := top 3
abbrev s_is_machine : Stmt := top 7
abbrev s_is_room : Stmt := top 8
abbrev s_is_step : Stmt := top 9
abbrev s_all_come_to : Stmt := top 10
abbrev s_law_e_pen : Stmt := top 12
abbrev s_law_e_take : Stmt := top 13
abbrev s_law_e_signs : Stmt := top 14
abbrev s_law_e_machine : Stmt := top 15
abbrev s_law_e_whole : Stmt := top 16
abbrev s_law_e_is_rooms : Stmt := top 17
abbrev s_law_galive : Stmt := top 18
abbrev s_law_e_is_machine : Stmt := top 19
abbrev s_law_e_odd : Stmt := top 20
abbrev s_law_e_right : Stmt := top 21
abbrev s_law : Stmt := top 22
end Sw
set_option Elab.async false
set_option maxRecDepth 100000
set_option maxHeartbeats 4000000
namespace Sw
open PySem L2 PySem.Spec PyProof.Rows
/-! ### is_sign, is_row -/
def letter (c : Nat) : Bool := decide (97 ≤ c) && decide (c ≤ 122)
def signS (t : Str) : Bool := decide (1 ≤ t.length) && decide (t.length ≤ 6) && t.cps.toList.all letter
def signD : PyData → Bool
  | .str t => signS t
  | _ => false
def rowD : PyData → Bool
  | .tuple ds => ds.all signD
  | _ => false
theorem lt_one (a b : Nat) : decide ([a] < [b]) = decide (a < b) := by
  by_cases h : a < b
  · rw [decide_eq_true h]; exact decide_eq_true (List.Lex.rel h)
  · rw [decide_eq_false h]
    refine decide_eq_false fun z => ?_
    cases z with
    | rel q => exact h q
    | cons q => cases q
section
variable {P : Program} {w : World} {K : PySem.W.Frag} {mg : Str → Option Value} {base : Heap}
abbrev n_is_sign : List Str := ["thing", "letter"]
theorem sc_is_sign : FnScope n_is_sign ["thing"] (defScope s_is_sign) := ⟨rfl, rfl, rfl, by decide +kernel, rfl, by decide +kernel, by decide +kernel⟩
def spIsSign (K : PySem.W.Frag) (T : Addr) : Sp := fun vs H Q _ => ∃ v d, vs = [v] ∧ Dp K H v d ∧ (∀ t, d = .str t → t.length ≤ 1000) ∧ H T = some (TabE T) ∧ Q (.bl (signD d)) H
theorem ok_is_sign {T : Addr} (F : DefTab K mg base "is_sign" s_is_sign ["thing"] T) (b_all : mg "all" = none) (b_isinstance : mg "isinstance" = none) (b_len : mg "len" = none) (b_str : mg "str" = none) (g_ml : ∃ t, mg "_MOST_LETTERS" = some (.int 6 t)) :
    DefOk P w K mg base "is_sign" 2 ["thing"] (spIsSign K T) := by
  obtain ⟨tml, g_ml⟩ := g_ml
  refine F.ok sc_is_sign (fun vs H Q E h => ?_) (fun f c A outer s H vs Q E TB hr h => ?_)
  · obtain ⟨_, _, rfl, _⟩ := h
    rfl
  obtain ⟨v, d, rfl, hd, hl, hT, k⟩ := h
  refine ⟨_, (pss_cons (ps_if (PW.pt (pw_or (pt_not (pt_val (pe_callB call_isi (by rfl) b_isinstance (by decide +kernel) (pa_cons (pv 0) (pa_cons (pe_bltn (v := .ty "str") (by rfl) b_str (by decide +kernel) rfl) pa_nil))))) (pw_or1 (pt_not (pt_chain op_le op_le pe_int (pe_callB call_len_str (by rfl) b_len PySem.boot_len (pa_cons (pv 0) pa_nil)) (pe_glob (v := .int 6) rfl g_ml ⟨_, rfl⟩)))))) (pss_one (ps_ret pe_bl)) pss_nil)
    (pss_one (ps_ret (pe_allG rfl hr rfl b_all sc_is_sign.nd TB rfl (blkOk_by (own := [("letter", 1)]) (N := n_is_sign) (sc := defScope s_is_sign) (by decide +kernel)) ⟨rfl, by decide +kernel, by rfl⟩ (pi_str (pv 0)) (fun _ _ _ _ _ _ _ _ => (pg_name (i := 1) sc_is_sign.nd rfl (Or.inl rfl))) (fun _ _ _ _ _ _ _ _ => (pe_chain op_le_str op_le_str pe_str (pv 1) pe_str)))))), ?_⟩
  refine ⟨v, rfl, v, .ty "str", _, _, _, rfl, .ty _, tyX hd, isStr hd, _, rfl, ?_⟩
  by_cases hs : ∃ t, d = .str t
  · obtain ⟨t, rfl⟩ := hs
    cases hd
    have hlt := hl t rfl
    refine iteF ?_
    refine ⟨_, rfl, t, rfl, szl (by omega), _, _, rfl, rfl, _, rfl, ?_⟩
    have body : decide (1 ≤ t.length) = true → decide (t.length ≤ 6) = true → tGen T (iStr (tVar 0)) (gName 1) (tChain (fun x y H Q => ∃ i j, x = V.str i ∧ y = V.str j ∧ Q (V.bl !decide (j.cps.toList < i.cps.toList)) H)
        (fun x y H Q => ∃ i j, x = V.str i ∧ y = V.str j ∧ Q (V.bl !decide (j.cps.toList < i.cps.toList)) H) (tC (V.str (Str.ofString "a"))) (tVar 1) (tC (V.str (Str.ofString "z")))) [1] true (L2.start n_is_sign [V.str t]) H Q := fun h1 h6 => by
      refine ⟨_, rfl, t, rfl, hT, ?_⟩
      refine gw_str (fun i H' => H' = H ∧ (t.cps.toList.take i).all letter = true) ⟨rfl, by rfl⟩ ?_ ?_
      · rintro i cc H' hc ⟨rfl, ha⟩
        have hgo : ∀ b, b = letter cc → ∃ b_1, V.bl b = V.bl b_1 ∧ if b_1 = true then (H' = H' ∧ (t.cps.toList.take (i + 1)).all letter = true) else Q (.bl (!true)) H' := fun b eb => by
          subst eb
          refine ⟨_, rfl, ?_⟩
          cases e : letter cc with
          | true =>
            rw [if_pos rfl]
            refine ⟨rfl, ?_⟩
            rw [List.take_add_one, hc, List.all_append, ha]
            show (true && (letter cc && true)) = true
            rw [e]
            rfl
          | false =>
            rw [if_neg Bool.false_ne_true]
            have e2 : signS t = false := by
              unfold signS
              have : t.cps.toList.all letter = false := List.all_eq_false.mpr ⟨cc, List.mem_of_getElem? hc, by rw [e]; exact Bool.false_ne_true⟩
              rw [this, Bool.and_false]
            have k2 : Q (.bl (signS t)) H' := k
            rw [e2] at k2
            exact k2
        refine ⟨rfl, _, rfl, _, _, rfl, rfl, _, rfl, ?_⟩
        have ea : (!decide (([cc] : List Nat) < [97])) = decide (97 ≤ cc) := by
          rw [lt_one]
          by_cases q : cc < 97
          · rw [decide_eq_true q, decide_eq_false (by omega)]; rfl
          · rw [decide_eq_false q, decide_eq_true (by omega)]; rfl
        have ez : (!decide (([122] : List Nat) < [cc])) = decide (cc ≤ 122) := by
          rw [lt_one]
          by_cases q : 122 < cc
          · rw [decide_eq_true q, decide_eq_false (by omega)]; rfl
          · rw [decide_eq_false q, decide_eq_true (by omega)]; rfl
        show if (!decide (([cc] : List Nat) < [97])) = true then _ else _
        rw [ea]
        by_cases q : 97 ≤ cc
        · rw [decide_eq_true q, if_pos rfl]
          refine ⟨_, _, rfl, rfl, ?_⟩
          show ∃ b, V.bl (!decide (([122] : List Nat) < [cc])) = V.bl b ∧ _
          rw [ez]
          exact hgo _ (by unfold letter; rw [decide_eq_true q, Bool.true_and])
        · rw [decide_eq_false q, if_neg Bool.false_ne_true]
          exact hgo _ (by unfold letter; rw [decide_eq_false q, Bool.false_and])
      · rintro H' ⟨rfl, ha⟩
        rw [List.take_length] at ha
        have k2 : Q (.bl (signS t)) H' := k
        unfold signS at k2
        rw [h1, h6, ha] at k2
        exact k2
    have e1 : decide ((1 : Int) ≤ (t.length : Int)) = decide (1 ≤ t.length) := by
      by_cases q : 1 ≤ t.length
      · rw [decide_eq_true q, decide_eq_true (by omega)]
      · rw [decide_eq_false q, decide_eq_false (by omega)]
    have e6 : decide ((t.length : Int) ≤ 6) = decide (t.length ≤ 6) := by
      by_cases q : t.length ≤ 6
      · rw [decide_eq_true q, decide_eq_true (by omega)]
      · rw [decide_eq_false q, decide_eq_false (by omega)]
    have no : (decide (1 ≤ t.length) && decide (t.length ≤ 6)) = false → Q (.bl false) H := fun e => by
      have k2 : Q (.bl (signS t)) H := k
      unfold signS at k2
      rw [e] at k2
      exact k2
    rw [e1]
    cases h1 : decide (1 ≤ t.length) with
    | true =>
      rw [if_pos rfl]
      refine ⟨_, _, rfl, rfl, ?_⟩
      show ∃ k, V.bl (decide ((t.length : Int) ≤ 6)) = .bl k ∧ _
      rw [e6]
      cases h6 : decide (t.length ≤ 6) with
      | true => exact ⟨_, rfl, iteF (body h1 h6)⟩
      | false => exact ⟨_, rfl, iteT (no (by rw [h1, h6]; rfl))⟩
    | false =>
      rw [if_neg Bool.false_ne_true]
      exact ⟨_, rfl, iteT (no (by rw [h1]; rfl))⟩
  · have e : isStrD d = false := by cases d <;> first | rfl | exact absurd ⟨_, rfl⟩ hs
    rw [e]
    refine iteT ?_
    have e2 : signD d = false := by cases d <;> first | rfl | exact absurd ⟨_, rfl⟩ hs
    show Q _ _
    rw [← e2]
    exact k
end
end Sw
set_option Elab.async false
set_option maxRecDepth 100000
set_option maxHeartbeats 4000000
namespace Sw
open PySem L2 PySem.Spec PyProof.Rows
/-! ### data of bounded size -/
mutual
def bdD : PyData → Bool
  | .str t => decide (t.length ≤ 1000)
  | .tuple l => decide (l.length ≤ 10000) && bdDs l
  | .list l => decide (l.length ≤ 10000) && bdDs l
  | _ => true
def bdDs : List PyData → Bool
  | [] => true
  | d :: ds => bdD d && bdDs ds
end
theorem bdDs_mem : ∀ {ds : List PyData}, bdDs ds = true → ∀ {d : PyData}, d ∈ ds → bdD d = true
  | [], _, d, h => by cases h
  | x :: ds, h, d, hm => by
    rw [bdDs, Bool.and_eq_true] at h
    rcases List.mem_cons.mp hm with rfl | hm
    · exact h.1
    · exact bdDs_mem h.2 hm
theorem bdTup {ds : List PyData} (h : bdD (.tuple ds) = true) : ds.length ≤ 10000 ∧ bdDs ds = true := by
  rw [bdD, Bool.and_eq_true] at h
  exact ⟨of_decide_eq_true h.1, h.2⟩
/-- a whole number -/
def wholeD (d : PyData) : Bool := isIntD d && !isBoolD d
section
variable {P : Program} {w : World} {K : PySem.W.Frag} {mg : Str → Option Value} {base : Heap}
abbrev n_is_whole : List Str := ["thing"]
theorem sc_is_whole : FnScope n_is_whole ["thing"] (defScope s_is_whole) := ⟨rfl, rfl, rfl, by decide +kernel, rfl, by decide +kernel, by decide +kernel⟩
def spWhole (K : PySem.W.Frag) : Sp := fun vs H Q _ => ∃ v d, vs = [v] ∧ Dp K H v d ∧ Q (.bl (wholeD d)) H
theorem ok_is_whole (F : DefAt K mg "is_whole" s_is_whole ["thing"]) (b_isinstance : mg "isinstance" = none) (b_int : mg "int" = none) (b_bool : mg "bool" = none) : DefOk P w K mg base "is_whole" 1 ["thing"] (spWhole K) := by
  refine F.ok sc_is_whole (fun vs H Q E h => ?_) (fun f cdv A outer s H vs Q E hr h => ?_)
  · obtain ⟨_, _, rfl, _⟩ := h
    rfl
  obtain ⟨v, d, rfl, hd, k⟩ := h
  refine ⟨_, (pss_one (ps_ret (pe_and (pe_callB call_isi (by rfl) b_isinstance (by decide +kernel) (pa_cons (pv 0) (pa_cons (pe_bltn (v := .ty "int") (by rfl) b_int (by decide +kernel) rfl) pa_nil))) (pe_one (pe_not (pe_callB call_isi (by rfl) b_isinstance (by decide +kernel) (pa_cons (pv 0) (pa_cons (pe_bltn (v := .ty "bool") (by rfl) b_bool (by decide +kernel) rfl) pa_nil)))))))), ?_⟩
  refine ⟨_, rfl, v, .ty "int", _, _, _, rfl, .ty _, tyX hd, isInt hd, ?_⟩
  unfold wholeD at k
  cases e : isIntD d with
  | false =>
    rw [e] at k
    exact ⟨_, rfl, iteF k⟩
  | true =>
    rw [e, Bool.true_and] at k
    exact ⟨_, rfl, iteT ⟨_, rfl, v, .ty "bool", _, _, _, rfl, .ty _, tyX hd, isBool hd, _, rfl, k⟩⟩
end
end Sw
set_option Elab.async false
namespace Sw
/-! ### ways along edges -/
inductive RT (E : Nat → List Nat) : Nat → Nat → Prop where
  | refl (a : Nat) : RT E a a
  | step {a b c : Nat} : b ∈ E a → RT E b c → RT E a c
variable {E : Nat → List Nat}
theorem RT.trans {a b c : Nat} (h : RT E a b) (g : RT E b c) : RT E a c := by
  induction h with
  | refl _ => exact g
  | step e _ ih => exact .step e (ih g)
theorem RT.one {a b : Nat} (h : b ∈ E a) : RT E a b := .step h (.refl _)
theorem RT.snoc {a b c : Nat} (h : RT E a b) (g : c ∈ E b) : RT E a c := h.trans (.one g)
/-- what is closed along edges holds what is come to -/
theorem RT.closed {p : Nat → Prop} (hp : ∀ a b, p a → b ∈ E a → p b) {a b : Nat} (h : RT E a b) (pa : p a) : p b := by
  induction h with
  | refl _ => exact pa
  | step e _ ih => exact ih (hp _ _ pa e)
/-- .. and backwards -/
theorem RT.back {p : Nat → Prop} (hp : ∀ a b, p b → b ∈ E a → p a) {a b : Nat} (h : RT E a b) (pb : p b) : p a := by
  induction h with
  | refl _ => exact pb
  | step e _ ih => exact hp _ _ (ih pb) e
/-- of one orbit -/
def Mu (E : Nat → List Nat) (a b : Nat) : Prop := RT E a b ∧ RT E b a
theorem Mu.refl (a : Nat) : Mu E a a := ⟨.refl a, .refl a⟩
theorem Mu.symm {a b : Nat} (h : Mu E a b) : Mu E b a := ⟨h.2, h.1⟩
theorem Mu.trans {a b c : Nat} (h : Mu E a b) (g : Mu E b c) : Mu E a c := ⟨h.1.trans g.1, g.2.trans h.2⟩
/-! ### the walk -/
abbrev Ent := Nat × Bool
def Xd (S : List Ent) (F : List Nat) (v : Nat) : Prop := v ∈ F ∨ (v, true) ∈ S
structure DI (E : Nat → List Nat) (n : Nat) (S : List Ent) (F : List Nat) : Prop where
  bS : ∀ e, e ∈ S → e.1 < n
  bF : ∀ v, v ∈ F → v < n
  nd : (F ++ (S.filter (·.2)).map (·.1)).Nodup
  up : S.Pairwise fun e e' => e'.2 = true → RT E e'.1 e.1
  fin : ∀ v, v ∈ F → ∀ w, w ∈ E v → Xd S F w
  gray : ∀ A v B, S = A ++ (v, true) :: B → ∀ w, w ∈ E v → Xd S F w ∨ (w, false) ∈ A
  all : ∀ k, k < n → Xd S F k ∨ (k, false) ∈ S
  last : ∀ v, v ∈ F → (∃ z, (z, true) ∈ S ∧ Mu E z v) ∨ ∃ A z B, F = A ++ z :: B ∧ Mu E z v ∧ ∀ w, RT E v w → w ∈ A ++ [z]
theorem DI.start (n : Nat) : DI E n ((List.range n).reverse.map fun k => (k, false)) [] := by
  refine ⟨?_, ?_, ?_, ?_, ?_, ?_, ?_, ?_⟩
  · intro e he
    simp at he
    obtain ⟨a, h, rfl⟩ := he
    exact h
  · intro v h; cases h
  · have : (((List.range n).reverse.map fun k => ((k, false) : Ent)).filter (·.2)) = [] := by
      rw [List.filter_eq_nil_iff]
      intro e he
      simp at he
      obtain ⟨a, h, rfl⟩ := he
      simp
    rw [this]
    exact List.nodup_nil
  · rw [List.pairwise_map]
    exact List.pairwise_of_forall (fun _ _ h => by cases h)
  · intro v h; cases h
  · intro A v B h
    exfalso
    have : (v, true) ∈ ((List.range n).reverse.map fun k => ((k, false) : Ent)) := by rw [h]; simp
    simp at this
  · intro k hk
    refine .inr ?_
    simp
    exact hk
  · intro v h; cases h
/-- the top one has been entered -/
theorem DI.skip {n v : Nat} {S : List Ent} {F : List Nat} (h : DI E n ((v, false) :: S) F) (hx : Xd ((v, false) :: S) F v) : DI E n S F := by
  have X : ∀ w, Xd ((v, false) :: S) F w → Xd S F w := by
    intro w hw
    rcases hw with hw | hw
    · exact .inl hw
    · simp at hw
      exact .inr hw
  refine ⟨fun e he => h.bS e (List.mem_cons_of_mem _ he), h.bF, ?_, (List.pairwise_cons.mp h.up).2, fun v hv w hw => X w (h.fin v hv w hw), ?_, ?_, ?_⟩
  · have := h.nd
    simpa using this
  · intro A u B e w hw
    have := h.gray ((v, false) :: A) u B (by rw [e]; rfl) w hw
    rcases this with g | g
    · exact .inl (X w g)
    · rcases List.mem_cons.mp g with g | g
      · obtain rfl : w = v := congrArg Prod.fst g
        exact .inl (X _ hx)
      · exact .inr g
  · intro k hk
    rcases h.all k hk with g | g
    · exact .inl (X k g)
    · rcases List.mem_cons.mp g with g | g
      · obtain rfl : k = v := congrArg Prod.fst g
        exact .inl (X _ hx)
      · exact .inr g
  · intro u hu
    rcases h.last u hu with ⟨z, hz, m⟩ | r
    · simp at hz
      exact .inl ⟨z, hz, m⟩
    · exact .inr r
/-- the top one is entered -/
theorem DI.enter {n v : Nat} {S : List Ent} {F : List Nat} (hE : ∀ k, k < n → ∀ j, j ∈ E k → j < n) (h : DI E n ((v, false) :: S) F) (hx : ¬ Xd ((v, false) :: S) F v) :
    DI E n (((E v).reverse.map fun k => (k, false)) ++ (v, true) :: S) F := by
  have hv : v < n := h.bS _ List.mem_cons_self
  have X : ∀ w, Xd ((v, false) :: S) F w → Xd (((E v).reverse.map fun k => ((k, false) : Ent)) ++ (v, true) :: S) F w := by
    intro w hw
    rcases hw with hw | hw
    · exact .inl hw
    · simp at hw
      exact .inr (by simp [hw])
  have Xv : Xd (((E v).reverse.map fun k => ((k, false) : Ent)) ++ (v, true) :: S) F v := .inr (by simp)
  have ff : (((E v).reverse.map fun k => ((k, false) : Ent)).filter (·.2)) = [] := by
    rw [List.filter_eq_nil_iff]
    intro e he
    simp at he
    obtain ⟨a, _, rfl⟩ := he
    simp
  refine ⟨?_, h.bF, ?_, ?_, fun u hu w hw => X w (h.fin u hu w hw), ?_, ?_, ?_⟩
  · intro e he
    rcases List.mem_append.mp he with he | he
    · simp at he
      obtain ⟨a, ha, rfl⟩ := he
      exact hE v hv a ha
    · rcases List.mem_cons.mp he with rfl | he
      · exact hv
      · exact h.bS e (List.mem_cons_of_mem _ he)
  · rw [List.filter_append, ff, List.nil_append]
    have nd := h.nd
    have e1 : ((v, false) :: S).filter (·.2) = S.filter (·.2) := by simp
    rw [e1] at nd
    have e2 : ((v, true) :: S).filter (·.2) = (v, true) :: S.filter (·.2) := by simp
    rw [e2, List.map_cons]
    have p : (F ++ v :: (S.filter (·.2)).map (·.1)).Perm (v :: (F ++ (S.filter (·.2)).map (·.1))) := List.perm_middle
    rw [p.nodup_iff, List.nodup_cons]
    refine ⟨fun hm => hx ?_, nd⟩
    rcases List.mem_append.mp hm with hm | hm
    · exact .inl hm
    · simp at hm
      exact .inr (List.mem_cons_of_mem _ hm)
  · rw [List.pairwise_append]
    refine ⟨?_, ?_, ?_⟩
    · rw [List.pairwise_map]
      exact List.pairwise_of_forall (fun _ _ h => by cases h)
    · have up := h.up
      rw [List.pairwise_cons] at up ⊢
      exact ⟨fun e he ht => up.1 e he ht, up.2⟩
    · intro a ha b hb ht
      simp at ha
      obtain ⟨c, hc, rfl⟩ := ha
      rcases List.mem_cons.mp hb with rfl | hb
      · exact .one hc
      · exact ((List.pairwise_cons.mp h.up).1 b hb ht).snoc hc
  · intro A u B e w hw
    rcases List.append_eq_append_iff.mp e with ⟨A', e1, e2⟩ | ⟨A', e1, e2⟩
    · -- A = children ++ A'
      cases A' with
      | nil =>
        simp at e2
        obtain ⟨e3, e4⟩ := e2
        subst e3
        refine .inr ?_
        rw [e1]
        simp
        exact hw
      | cons x A' =>
        simp at e2
        obtain ⟨rfl, e4⟩ := e2
        have := h.gray ((v, false) :: A') u B (by rw [e4]; rfl) w hw
        rcases this with g | g
        · exact .inl (X w g)
        · rcases List.mem_cons.mp g with g | g
          · obtain rfl : w = v := congrArg Prod.fst g
            exact .inl Xv
          · refine .inr ?_
            rw [e1]
            simp [g]
    · cases A' with
      | nil =>
        simp at e2
        obtain ⟨rfl, e4⟩ := e2
        simp at e1
        refine .inr ?_
        rw [← e1]
        simp
        exact hw
      | cons x A' =>
        exfalso
        have : (u, true) ∈ ((E v).reverse.map fun k => ((k, false) : Ent)) := by
          rw [e1]
          simp at e2
          rw [← e2.1]
          simp
        simp at this
  · intro k hk
    rcases h.all k hk with g | g
    · exact .inl (X k g)
    · rcases List.mem_cons.mp g with g | g
      · obtain rfl : k = v := congrArg Prod.fst g
        exact .inl Xv
      · exact .inr (by simp [g])
  · intro u hu
    rcases h.last u hu with ⟨z, hz, m⟩ | r
    · simp at hz
      exact .inl ⟨z, by simp [hz], m⟩
    · exact .inr r
/-- the top one is left -/
theorem DI.leave {n v : Nat} {S : List Ent} {F : List Nat} (h : DI E n ((v, true) :: S) F) : DI E n S (F ++ [v]) := by
  have X : ∀ w, Xd ((v, true) :: S) F w → Xd S (F ++ [v]) w := by
    intro w hw
    rcases hw with hw | hw
    · exact .inl (by simp [hw])
    · rcases List.mem_cons.mp hw with g | g
      · obtain rfl : w = v := congrArg Prod.fst g
        exact .inl (by simp)
      · exact .inr g
  have edge : ∀ w, w ∈ E v → Xd ((v, true) :: S) F w := fun w hw => by
    rcases h.gray [] v S rfl w hw with g | g
    · exact g
    · cases g
  have fin : ∀ u, u ∈ F ++ [v] → ∀ w, w ∈ E u → Xd ((v, true) :: S) F w := by
    intro u hu w hw
    rcases List.mem_append.mp hu with hu | hu
    · exact h.fin u hu w hw
    · obtain rfl : u = v := by simpa using hu
      exact edge w hw
  -- either all that v comes to is left, or some that stands yet is of its orbit
  have key : (∃ z, (z, true) ∈ S ∧ Mu E z v) ∨ ∀ w, RT E v w → w ∈ F ++ [v] := by
    by_cases c : ∃ y, (y, true) ∈ S ∧ RT E v y
    · obtain ⟨y, hy, r⟩ := c
      exact .inl ⟨y, hy, (List.pairwise_cons.mp h.up).1 _ hy rfl, r⟩
    · refine .inr fun w hw => ?_
      have : (w ∈ F ++ [v] ∧ RT E v w) := by
        refine RT.closed (p := fun w => w ∈ F ++ [v] ∧ RT E v w) (fun a b ha hb => ⟨?_, ha.2.snoc hb⟩) hw ⟨by simp, .refl v⟩
        rcases fin a ha.1 b hb with g | g
        · simp [g]
        · rcases List.mem_cons.mp g with g | g
          · obtain rfl : b = v := congrArg Prod.fst g
            simp
          · exact absurd ⟨b, g, ha.2.snoc hb⟩ c
      exact this.1
  have mine : (∃ z, (z, true) ∈ S ∧ Mu E z v) ∨ ∃ A z B, F ++ [v] = A ++ z :: B ∧ Mu E z v ∧ ∀ w, RT E v w → w ∈ A ++ [z] := by
    rcases key with k | k
    · exact .inl k
    · exact .inr ⟨F, v, [], rfl, .refl v, k⟩
  refine ⟨fun e he => h.bS e (List.mem_cons_of_mem _ he), ?_, ?_, (List.pairwise_cons.mp h.up).2, fun u hu w hw => X w (fin u hu w hw), ?_, ?_, ?_⟩
  · intro u hu
    rcases List.mem_append.mp hu with hu | hu
    · exact h.bF u hu
    · obtain rfl : u = v := by simpa using hu
      exact h.bS _ List.mem_cons_self
  · have nd := h.nd
    have e2 : ((v, true) :: S).filter (·.2) = (v, true) :: S.filter (·.2) := by simp
    rw [e2, List.map_cons] at nd
    rw [List.append_assoc]
    exact nd
  · intro A u B e w hw
    have := h.gray ((v, true) :: A) u B (by rw [e]; rfl) w hw
    rcases this with g | g
    · exact .inl (X w g)
    · rcases List.mem_cons.mp g with g | g
      · cases g
      · exact .inr g
  · intro k hk
    rcases h.all k hk with g | g
    · exact .inl (X k g)
    · rcases List.mem_cons.mp g with g | g
      · cases g
      · exact .inr g
  · intro u hu
    rcases List.mem_append.mp hu with hu | hu
    · rcases h.last u hu with ⟨z, hz, m⟩ | ⟨A, z, B, e, m, c⟩
      · rcases List.mem_cons.mp hz with g | g
        · obtain rfl : z = v := congrArg Prod.fst g
          rcases mine with ⟨y, hy, my⟩ | ⟨A, y, B, e, my, c⟩
          · exact .inl ⟨y, hy, my.trans m⟩
          · exact .inr ⟨A, y, B, e, my.trans m, fun w hw => c w (m.1.trans hw)⟩
        · exact .inl ⟨z, g, m⟩
      · exact .inr ⟨A, z, B ++ [v], by rw [e]; simp, m, c⟩
    · obtain rfl : u = v := by simpa using hu
      exact mine
/-- the order in which rooms are left -/
structure Left (E : Nat → List Nat) (n : Nat) (F : List Nat) : Prop where
  nd : F.Nodup
  mem : ∀ k, k ∈ F ↔ k < n
  last : ∀ v, v < n → ∃ A z B, F = A ++ z :: B ∧ Mu E z v ∧ ∀ w, RT E v w → w ∈ A ++ [z]
theorem DI.end {n : Nat} {F : List Nat} (h : DI E n [] F) : Left E n F := by
  refine ⟨by simpa using h.nd, fun k => ⟨h.bF k, fun hk => ?_⟩, fun v hv => ?_⟩
  · rcases h.all k hk with g | g
    · rcases g with g | g
      · exact g
      · cases g
    · cases g
  · have hF : v ∈ F := by
      rcases h.all v hv with g | g
      · rcases g with g | g
        · exact g
        · cases g
      · cases g
    rcases h.last v hF with ⟨z, hz, _⟩ | r
    · cases hz
    · exact r
/-! ### a measure of the walk -/
theorem nodup_le : ∀ {n : Nat} {l : List Nat}, l.Nodup → (∀ x, x ∈ l → x < n) → l.length ≤ n := by
  intro n
  induction n with
  | zero =>
    intro l _ h
    cases l with
    | nil => exact Nat.le_refl _
    | cons x l => exact absurd (h x List.mem_cons_self) (Nat.not_lt_zero _)
  | succ n ih =>
    intro l nd h
    by_cases m : n ∈ l
    · have e1 := List.length_erase_of_mem m
      have := ih (nd.erase n) (fun x hx => by
        have h1 := h x (List.mem_of_mem_erase hx)
        have h2 : x ≠ n := fun e => by
          subst e
          exact (List.Nodup.mem_erase_iff nd).mp hx |>.1 rfl
        omega)
      have : 0 < l.length := List.length_pos_of_mem m
      omega
    · have := ih nd (fun x hx => by
        have h1 := h x hx
        have h2 : x ≠ n := fun e => m (e ▸ hx)
        omega)
      omega
def ents (S : List Ent) (F : List Nat) : Nat := F.length + (S.filter (·.2)).length
theorem DI.ents_le {n : Nat} {S : List Ent} {F : List Nat} (h : DI E n S F) : ents S F ≤ n := by
  have := nodup_le (n := n) h.nd (fun x hx => by
    rcases List.mem_append.mp hx with hx | hx
    · exact h.bF x hx
    · simp at hx
      exact h.bS _ hx)
  simp at this
  simpa [ents] using this
/-- D: more than the most steps from a room -/
def meas (n D : Nat) (S : List Ent) (F : List Nat) : Nat := (n - ents S F) * (D + 2) + S.length
theorem meas_skip (n D v : Nat) (S : List Ent) (F : List Nat) : meas n D S F < meas n D ((v, false) :: S) F := by
  simp [meas, ents]
theorem meas_leave (n D v : Nat) (S : List Ent) (F : List Nat) : meas n D S (F ++ [v]) < meas n D ((v, true) :: S) F := by
  have : ents S (F ++ [v]) = ents ((v, true) :: S) F := by simp [ents]; omega
  simp [meas, this]
theorem meas_enter {n D v : Nat} {S : List Ent} {F : List Nat} (hE : ∀ k, k < n → ∀ j, j ∈ E k → j < n) (h : DI E n ((v, false) :: S) F) (hx : ¬ Xd ((v, false) :: S) F v) (hD : (E v).length ≤ D) :
    meas n D (((E v).reverse.map fun k => (k, false)) ++ (v, true) :: S) F < meas n D ((v, false) :: S) F := by
  have h2 := (h.enter hE hx).ents_le
  have ff : (((E v).reverse.map fun k => ((k, false) : Ent)).filter (·.2)) = [] := by
    rw [List.filter_eq_nil_iff]
    intro e he
    simp at he
    obtain ⟨a, _, rfl⟩ := he
    simp
  have e1 : ents (((E v).reverse.map fun k => (k, false)) ++ (v, true) :: S) F = ents ((v, false) :: S) F + 1 := by
    unfold ents
    rw [List.filter_append, ff, List.nil_append]
    simp
    omega
  rw [e1] at h2
  unfold meas
  rw [e1]
  have : n - ents ((v, false) :: S) F = (n - (ents ((v, false) :: S) F + 1)) + 1 := by omega
  rw [this, Nat.add_mul, Nat.one_mul]
  simp
  omega
/-! ### rooms collected backwards from one of them -/
structure Pl (E : Nat → List Nat) (n : Nat) (first : Nat) (P0 T A : List Nat) : Prop where
  me : first ∈ T
  nd : T.Nodup
  off : ∀ t, t ∈ T → t ∉ P0
  lt : ∀ t, t ∈ T → t < n
  sub : ∀ t, t ∈ A → t ∈ T
  r : ∀ t, t ∈ T → RT E t first
  cl : ∀ t, t ∈ T → t ∉ A → ∀ y, y < n → t ∈ E y → y ∈ P0 ∨ y ∈ T
theorem Pl.start {n first : Nat} {P0 : List Nat} (h : first ∉ P0) (hl : first < n) : Pl E n first P0 [first] [first] := by
  refine ⟨by simp, by simp, fun t ht => ?_, fun t ht => ?_, fun t ht => ht, fun t ht => ?_, fun t ht ha => absurd ht ha⟩
  · obtain rfl : t = first := by simpa using ht
    exact h
  · obtain rfl : t = first := by simpa using ht
    exact hl
  · obtain rfl : t = first := by simpa using ht
    exact .refl _
/-- what a list of rooms that lead to x adds: those not placed yet -/
def adds (P0 T : List Nat) : List Nat → List Nat
  | [] => []
  | y :: ys => if y ∈ P0 ∨ y ∈ T then adds P0 T ys else y :: adds P0 (T ++ [y]) ys
theorem adds_mem {P0 : List Nat} : ∀ {ys T : List Nat} {x : Nat}, x ∈ adds P0 T ys → x ∈ ys ∧ x ∉ P0 ∧ x ∉ T
  | [], _, _, h => by cases h
  | y :: ys, T, x, h => by
    unfold adds at h
    split at h
    · obtain ⟨a, b, c⟩ := adds_mem h
      exact ⟨List.mem_cons_of_mem _ a, b, c⟩
    · rename_i hn
      rcases List.mem_cons.mp h with rfl | h
      · exact ⟨List.mem_cons_self, fun q => hn (.inl q), fun q => hn (.inr q)⟩
      · obtain ⟨a, b, c⟩ := adds_mem h
        exact ⟨List.mem_cons_of_mem _ a, b, fun q => c (by simp [q])⟩
theorem adds_all {P0 : List Nat} : ∀ {ys T : List Nat} {x : Nat}, x ∈ ys → x ∈ P0 ∨ x ∈ T ++ adds P0 T ys
  | [], _, _, h => by cases h
  | y :: ys, T, x, h => by
    unfold adds
    split
    · rename_i hy
      rcases List.mem_cons.mp h with rfl | h
      · rcases hy with q | q
        · exact .inl q
        · exact .inr (by simp [q])
      · exact adds_all h
    · rcases List.mem_cons.mp h with rfl | h
      · exact .inr (by simp)
      · rcases adds_all (P0 := P0) (T := T ++ [y]) h with q | q
        · exact .inl q
        · refine .inr ?_
          simpa using q
theorem adds_nd {P0 : List Nat} : ∀ {ys T : List Nat}, T.Nodup → (T ++ adds P0 T ys).Nodup
  | [], T, h => by simpa [adds] using h
  | y :: ys, T, h => by
    unfold adds
    split
    · exact adds_nd h
    · rename_i hn
      have : (T ++ [y]).Nodup := by
        have p : (T ++ [y]).Perm (y :: T) := List.perm_append_singleton y T
        rw [p.nodup_iff, List.nodup_cons]
        exact ⟨fun q => hn (.inr q), h⟩
      have := adds_nd (P0 := P0) (ys := ys) this
      simpa using this
theorem adds_cons {P0 T : List Nat} {ys : List Nat} {y : Nat} : adds P0 T (ys ++ [y]) = if y ∈ P0 ∨ y ∈ T ++ adds P0 T ys then adds P0 T ys else adds P0 T ys ++ [y] := by
  induction ys generalizing T with
  | nil => simp [adds]
  | cons z ys ih =>
    show adds P0 T (z :: (ys ++ [y])) = _
    unfold adds
    split
    · rename_i hz
      rw [ih]
    · rename_i hz
      rw [ih]
      simp only [List.append_assoc, List.singleton_append]
      split <;> rfl
theorem Pl.turn {n first x : Nat} {P0 T A ys : List Nat} (hn : ∀ y, y ∈ ys ↔ y < n ∧ x ∈ E y) (h : Pl E n first P0 T (A ++ [x])) :
    Pl E n first P0 (T ++ adds P0 T ys) (A ++ adds P0 T ys) := by
  have hx : x ∈ T := h.sub x (by simp)
  refine ⟨by simp [h.me], adds_nd h.nd, ?_, ?_, ?_, ?_, ?_⟩
  · intro t ht
    rcases List.mem_append.mp ht with ht | ht
    · exact h.off t ht
    · exact (adds_mem ht).2.1
  · intro t ht
    rcases List.mem_append.mp ht with ht | ht
    · exact h.lt t ht
    · exact ((hn t).mp (adds_mem ht).1).1
  · intro t ht
    rcases List.mem_append.mp ht with ht | ht
    · exact List.mem_append_left _ (h.sub t (by simp [ht]))
    · exact List.mem_append_right _ ht
  · intro t ht
    rcases List.mem_append.mp ht with ht | ht
    · exact h.r t ht
    · exact .step ((hn t).mp (adds_mem ht).1).2 (h.r x hx)
  · intro t ht ha y hy e
    by_cases c : t = x
    · subst c
      exact adds_all ((hn y).mpr ⟨hy, e⟩)
    · rcases List.mem_append.mp ht with ht | ht
      · rcases h.cl t ht (fun q => by
          rcases List.mem_append.mp q with q | q
          · exact ha (List.mem_append_left _ q)
          · exact c (by simpa using q)) y hy e with q | q
        · exact .inl q
        · exact .inr (by simp [q])
      · exact absurd (List.mem_append_right _ ht) ha
theorem split_nd {α : Type} {x : α} : ∀ {A B C D : List α}, (A ++ x :: B).Nodup → A ++ x :: B = C ++ x :: D → A = C ∧ B = D
  | [], B, [], D, _, e => by simp at e; exact ⟨rfl, e⟩
  | [], B, c :: C, D, nd, e => by
    simp at e
    obtain ⟨rfl, e⟩ := e
    simp at nd
    exact absurd (by rw [e]; simp) nd.1
  | a :: A, B, [], D, nd, e => by
    simp at e
    obtain ⟨rfl, e⟩ := e
    simp at nd
  | a :: A, B, c :: C, D, nd, e => by
    simp at e
    obtain ⟨rfl, e⟩ := e
    simp only [List.cons_append, List.nodup_cons] at nd
    obtain ⟨h1, h2⟩ := split_nd nd.2 e
    exact ⟨by rw [h1], h2⟩
/-- rooms placed by whole orbits -/
def Whole (E : Nat → List Nat) (n : Nat) (P : List Nat) : Prop := ∀ a b, a ∈ P → b < n → Mu E a b → b ∈ P
/-- collected is just the orbit -/
theorem Pl.all {n first : Nat} {P0 T F L R : List Nat} (hE : ∀ k, k < n → ∀ j, j ∈ E k → j < n) (hF : Left E n F) (hs : F = L ++ first :: R) (hp : ∀ x, x ∈ R → x ∈ P0) (hw : Whole E n P0) (h : Pl E n first P0 T []) :
    ∀ y, y ∈ T ↔ y < n ∧ Mu E first y := by
  have hf : first < n := h.lt _ h.me
  have stay : ∀ a b, RT E a b → a < n → b < n := fun a b r ha => RT.closed (p := (· < n)) (fun a b ha hb => hE a ha b hb) r ha
  intro y
  constructor
  · intro hy
    have hyn := h.lt y hy
    refine ⟨hyn, ?_⟩
    obtain ⟨A, z, B, e, m, c⟩ := hF.last y hyn
    have hz : z < n := (hF.mem z).mp (by rw [e]; simp)
    have hz0 : z ∉ P0 := fun q => h.off y hy (hw z y q hyn m)
    have h1 := c first (h.r y hy)
    -- z is not behind first
    have nd := hF.nd
    have zf : z = first := by
      have hzF : z ∈ L ++ first :: R := by rw [← hs]; exact (hF.mem z).mpr hz
      rcases List.mem_append.mp h1 with h1 | h1
      · -- first is ahead of z
        exfalso
        obtain ⟨A1, A2, rfl⟩ := List.append_of_mem h1
        rw [e] at hs
        have hs' : A1 ++ first :: (A2 ++ z :: B) = L ++ first :: R := by simpa using hs
        have nd' : (A1 ++ first :: (A2 ++ z :: B)).Nodup := by rw [e] at nd; simpa using nd
        have := split_nd nd' hs'
        exact hz0 (hp z (by rw [← this.2]; simp))
      · exact (by simpa using h1 : first = z).symm
    subst zf
    exact m
  · rintro ⟨hy, m⟩
    have f0 : first ∉ P0 := h.off _ h.me
    have go : ∀ a b, RT E a b → b = first → a < n → RT E first a → a ∈ T := by
      intro a b r
      induction r with
      | refl a => intro e _ _; subst e; exact h.me
      | step e r ih =>
        rename_i a b c
        intro ec ha hfa
        subst ec
        have hb := ih rfl (hE a ha b e) (hfa.snoc e)
        rcases h.cl b hb (by simp) a ha e with q | q
        · exact absurd (hw a _ q hf ⟨.step e r, hfa⟩) f0
        · exact q
    exact go y first m.2 rfl hy m.1
/-! ### lists of orbits -/
theorem sorted_ext {α : Type} {R : α → α → Prop} (as : ∀ a b, R a b → R b a → False) : ∀ {l m : List α}, l.Pairwise R → m.Pairwise R → (∀ x, x ∈ l ↔ x ∈ m) → l = m
  | [], [], _, _, _ => rfl
  | [], y :: m, _, _, h => by have := (h y).mpr (by simp); cases this
  | x :: l, [], _, _, h => by have := (h x).mp (by simp); cases this
  | x :: l, y :: m, hl, hm, h => by
    rw [List.pairwise_cons] at hl hm
    have ir : ∀ a, ¬ R a a := fun a r => as a a r r
    have e : x = y := by
      rcases List.mem_cons.mp ((h x).mp (by simp)) with e | hx
      · exact e
      · rcases List.mem_cons.mp ((h y).mpr (by simp)) with e | hy
        · exact e.symm
        · exact absurd (hl.1 y hy) (fun r => as _ _ r (hm.1 x hx))
    subst e
    rw [sorted_ext as hl.2 hm.2 fun z => ?_]
    constructor
    · intro hz
      rcases List.mem_cons.mp ((h z).mp (by simp [hz])) with e | q
      · subst e
        exact absurd (hl.1 _ hz) (ir _)
      · exact q
    · intro hz
      rcases List.mem_cons.mp ((h z).mpr (by simp [hz])) with e | q
      · subst e
        exact absurd (hm.1 _ hz) (ir _)
      · exact q
def up (l : List Nat) : Prop := l.Pairwise (· < ·)
/-- c is an orbit, rising -/
structure IsOrb (E : Nat → List Nat) (n : Nat) (c : List Nat) : Prop where
  up : up c
  ne : c ≠ []
  mem : ∀ x, x ∈ c → ∀ y, y ∈ c ↔ y < n ∧ Mu E x y
def hd (l : List Nat) : Nat := l.headD 0
theorem hd_mem {l : List Nat} (h : l ≠ []) : hd l ∈ l := by
  cases l with
  | nil => exact absurd rfl h
  | cons x l => simp [hd]
theorem IsOrb.eq {n : Nat} {c d : List Nat} (h : IsOrb E n c) (g : IsOrb E n d) {x : Nat} (hx : x ∈ c) (gx : x ∈ d) : c = d :=
  sorted_ext (fun a b p q => Nat.lt_asymm p q) h.up g.up fun y => by rw [h.mem x hx, g.mem x gx]
structure Orbs (E : Nat → List Nat) (n : Nat) (L : List (List Nat)) : Prop where
  o : ∀ c, c ∈ L → IsOrb E n c
  all : ∀ k, k < n → ∃ c, c ∈ L ∧ k ∈ c
  up : L.Pairwise fun c d => hd c < hd d
theorem Orbs.uniq {n : Nat} {L M : List (List Nat)} (h : Orbs E n L) (g : Orbs E n M) : L = M := by
  have one : ∀ {L M : List (List Nat)}, Orbs E n L → Orbs E n M → ∀ c, c ∈ L → c ∈ M := by
    intro L M h g c hc
    have o := h.o c hc
    have hm := hd_mem o.ne
    have hn := ((o.mem _ hm _).mp hm).1
    obtain ⟨d, hd1, hd2⟩ := g.all _ hn
    rw [o.eq (g.o d hd1) hm hd2]
    exact hd1
  exact sorted_ext (fun a b p q => Nat.lt_asymm p q) h.up g.up fun c => ⟨one h g c, one g h c⟩
end Sw
namespace Sw
variable {E : Nat → List Nat}
theorem hd_le {l : List Nat} (h : up l) {x : Nat} (hx : x ∈ l) : hd l ≤ x := by
  cases l with
  | nil => cases hx
  | cons y l =>
    rcases List.mem_cons.mp hx with rfl | hx
    · exact Nat.le_refl _
    · exact Nat.le_of_lt ((List.pairwise_cons.mp h).1 x hx)
/-- the orbits of the first rooms -/
structure OrbTo (E : Nat → List Nat) (n : Nat) (L : List (List Nat)) (i : Nat) : Prop where
  o : ∀ c, c ∈ L → IsOrb E n c
  all : ∀ k, k < i → ∃ c, c ∈ L ∧ k ∈ c
  up : L.Pairwise fun c d => hd c < hd d
  lt : ∀ c, c ∈ L → hd c < i
theorem OrbTo.start (n : Nat) : OrbTo E n [] 0 := ⟨fun c h => (by cases h), fun k h => absurd h (Nat.not_lt_zero _), .nil, fun c h => (by cases h)⟩
theorem OrbTo.stay {n i : Nat} {L : List (List Nat)} {c : List Nat} (h : OrbTo E n L i) (hc : c ∈ L) (hi : i ∈ c) : OrbTo E n L (i + 1) := by
  refine ⟨h.o, fun k hk => ?_, h.up, fun d hd => Nat.lt_succ_of_lt (h.lt d hd)⟩
  by_cases e : k = i
  · subst e; exact ⟨c, hc, hi⟩
  · exact h.all k (by omega)
theorem OrbTo.more {n i : Nat} {L : List (List Nat)} {c : List Nat} (h : OrbTo E n L i) (o : IsOrb E n c) (hc : c ∉ L) (hi : i ∈ c) : OrbTo E n (L ++ [c]) (i + 1) := by
  have e : hd c = i := by
    have h1 := hd_le o.up hi
    by_cases e : hd c = i
    · exact e
    · obtain ⟨d, hd1, hd2⟩ := h.all (hd c) (by omega)
      have := (h.o d hd1).eq o hd2 (hd_mem o.ne)
      subst this
      exact absurd hd1 hc
  refine ⟨fun d hd => ?_, fun k hk => ?_, ?_, fun d hd => ?_⟩
  · rcases List.mem_append.mp hd with hd | hd
    · exact h.o d hd
    · rw [List.mem_singleton.mp hd]; exact o
  · by_cases e : k = i
    · subst e; exact ⟨c, by simp, hi⟩
    · obtain ⟨d, h1, h2⟩ := h.all k (by omega)
      exact ⟨d, by simp [h1], h2⟩
  · rw [List.pairwise_append]
    refine ⟨h.up, List.pairwise_singleton _ _, fun a ha b hb => ?_⟩
    rw [List.mem_singleton.mp hb, e]
    exact h.lt a ha
  · rcases List.mem_append.mp hd with hd | hd
    · exact Nat.lt_succ_of_lt (h.lt d hd)
    · rw [List.mem_singleton.mp hd, e]; exact Nat.lt_succ_self i
theorem OrbTo.end {n : Nat} {L : List (List Nat)} (h : OrbTo E n L n) : Orbs E n L := ⟨h.o, h.all, h.up⟩
/-- the orbits found so far, in any order: they hold just what is placed -/
structure Par (E : Nat → List Nat) (n : Nat) (P : List Nat) (L : List (List Nat)) : Prop where
  o : ∀ c, c ∈ L → IsOrb E n c
  mem : ∀ x, x ∈ P ↔ ∃ c, c ∈ L ∧ x ∈ c
  dis : L.Pairwise fun c d => hd c ≠ hd d
theorem Par.whole {n : Nat} {P : List Nat} {L : List (List Nat)} (h : Par E n P L) : Whole E n P := by
  intro a b ha hb m
  obtain ⟨c, hc, hac⟩ := (h.mem a).mp ha
  exact (h.mem b).mpr ⟨c, hc, ((h.o c hc).mem a hac b).mpr ⟨hb, m⟩⟩
theorem Par.more {n : Nat} {P T c : List Nat} {L : List (List Nat)} (h : Par E n P L) (o : IsOrb E n c) (hT : ∀ x, x ∈ c ↔ x ∈ T) (hoff : ∀ t, t ∈ T → t ∉ P) : Par E n (P ++ T) (L ++ [c]) := by
  refine ⟨fun d hd => ?_, fun x => ?_, ?_⟩
  · rcases List.mem_append.mp hd with hd | hd
    · exact h.o d hd
    · rw [List.mem_singleton.mp hd]; exact o
  · rw [List.mem_append, h.mem x, ← hT x]
    constructor
    · rintro (⟨d, h1, h2⟩ | h1)
      · exact ⟨d, by simp [h1], h2⟩
      · exact ⟨c, by simp, h1⟩
    · rintro ⟨d, h1, h2⟩
      rcases List.mem_append.mp h1 with h1 | h1
      · exact .inl ⟨d, h1, h2⟩
      · rw [List.mem_singleton.mp h1] at h2; exact .inr h2
  · rw [List.pairwise_append]
    refine ⟨h.dis, List.pairwise_singleton _ _, fun d hd b hb => ?_⟩
    rw [List.mem_singleton.mp hb]
    intro e
    have h1 := hd_mem (h.o d hd).ne
    rw [e] at h1
    exact hoff _ ((hT _).mp (hd_mem o.ne)) ((h.mem _).mpr ⟨d, hd, h1⟩)
/-- sorted by their first rooms they are the orbits -/
theorem Par.end {n : Nat} {P : List Nat} {L M : List (List Nat)} (h : Par E n P L) (hP : ∀ k, k < n → k ∈ P) (hp : M.Perm L) (hs : M.Pairwise fun c d => hd c ≤ hd d) : Orbs E n M := by
  refine ⟨fun c hc => h.o c (hp.mem_iff.mp hc), fun k hk => ?_, ?_⟩
  · obtain ⟨c, h1, h2⟩ := (h.mem k).mp (hP k hk)
    exact ⟨c, hp.mem_iff.mpr h1, h2⟩
  · have hd' : M.Pairwise fun c d => hd c ≠ hd d := (hp.pairwise_iff fun {a b} (q : hd a ≠ hd b) => Ne.symm q).mpr h.dis
    exact (hs.and hd').imp fun ⟨q1, q2⟩ => Nat.lt_of_le_of_ne q1 q2
end Sw
set_option Elab.async false
set_option maxRecDepth 100000
set_option maxHeartbeats 8000000
namespace Sw
open PySem L2 PySem.Spec PyProof.Rows
theorem iteT' {c A B : Prop} [Decidable c] (hc : c) (h : A) : if c then A else B := by rw [if_pos hc]; exact h
theorem iteF' {c A B : Prop} [Decidable c] (hc : ¬ c) (h : B) : if c then A else B := by rw [if_neg hc]; exact h
theorem pairedLen {α β : Type} {F : α → β → Prop} {as : List α} {bs : List β} (h : Paired F as bs) : as.length = bs.length := Paired.length h
theorem take_snoc {α : Type} {l : List α} {i : Nat} {x : α} (h : l[i]? = some x) : l.take (i + 1) = l.take i ++ [x] := by rw [List.take_add_one, h]; rfl
theorem cut_take (xs : List V) (n : Nat) : cutV xs none (some (n : Int)) = xs.take n := by
  unfold cutV
  rw [HT.sIx_nat, HT.sIx_none, List.drop_zero, Nat.sub_zero]
  by_cases h : n ≤ xs.length
  · rw [Nat.min_eq_left h]
  · rw [Nat.min_eq_right (by omega), List.take_of_length_le (by omega), List.take_of_length_le (by omega)]
theorem pairedMap {α β : Type} {F G : α → β → Prop} : ∀ {l₁ : List α} {l₂ : List β}, Paired F l₁ l₂ → (∀ a b, F a b → G a b) → Paired G l₁ l₂
  | _, _, .nil, _ => .nil
  | _, _, .cons r t, f => .cons (f _ _ r) (pairedMap t f)
theorem pairedApp {α β : Type} {F : α → β → Prop} : ∀ {a₁ : List α} {b₁ : List β} {a₂ : List α} {b₂ : List β}, Paired F a₁ b₁ → Paired F a₂ b₂ → Paired F (a₁ ++ a₂) (b₁ ++ b₂)
  | _, _, _, _, .nil, g => g
  | _, _, _, _, .cons r t, g => .cons r (pairedApp t g)
theorem pairedAtL {α β : Type} {F : α → β → Prop} : ∀ {l₁ : List α} {l₂ : List β} {i : Nat} {a : α}, Paired F l₁ l₂ → l₁[i]? = some a → ∃ b, l₂[i]? = some b ∧ F a b
  | _, _, _, _, .nil, h => by simp at h
  | _, _, 0, _, .cons r t, h => by simp at h; subst h; exact ⟨_, rfl, r⟩
  | _, _, i + 1, _, .cons r t, h => by
    simp at h
    obtain ⟨a, h1, h2⟩ := pairedAtL t h
    exact ⟨a, by simpa using h1, h2⟩
theorem keepTup {K : PySem.W.Frag} {H : Hp} {p : Addr} {xs : List V} {o : HO} (h : H p = some (.lst xs)) (a : Addr) (ys : List V) (r : Rd H a (.tup ys)) : Rd (upd H p o) a (.tup ys) := by
  have n : a ≠ p := by
    rintro rfl
    rcases r with r | ⟨o, r⟩ <;> (rw [h] at r; cases r)
  rcases r with r | ⟨o, r⟩
  · exact .inl (by rw [upd_ne n]; exact r)
  · exact .inr ⟨o, by rw [upd_ne n]; exact r⟩
theorem sqTW {K : PySem.W.Frag} {H : Hp} {p a : Addr} {xs ys : List V} {o : HO} (h : H p = some (.lst xs)) (t : SqT K H a ys) : SqT K (upd H p o) a ys := by
  rcases t with t | t
  · exact .inl (keepTup (K := K) h _ _ t)
  · exact .inr t
theorem catA {K : PySem.W.Frag} {H : Hp} {a b : Addr} {xs ys : List V} {Q : VK} (ha : SqT K H a xs) (hb : SqT K H b ys) (hl : xs.length + ys.length ≤ sizeLine) (k : ∀ (H' : Hp) (q : Addr), Same H H' → SqT K H' q (xs ++ ys) → Q (.ref q) H') : rCatA K (.ref a) (.ref b) H Q := by
  refine ⟨a, b, xs, ys, rfl, rfl, ha, hb, hl, fun e => ?_, fun _ e => ?_, fun _ _ p hp => k _ p (.new hp) (sT upd_same)⟩
  · subst e
    exact k H b (Same.refl _) hb
  · subst e
    exact k H a (Same.refl _) (by rw [List.append_nil]; exact ha)
mutual
def noL : PyData → Bool
  | .list _ => false
  | .dict _ => false
  | .tuple ds => noLs ds
  | _ => true
def noLs : List PyData → Bool
  | [] => true
  | d :: ds => noL d && noLs ds
end
mutual
theorem dpSameT {K : PySem.W.Frag} {H H' : Hp} (s : ∀ a xs, SqT K H a xs → SqT K H' a xs) : ∀ (d : PyData) (v : V), noL d = true → Dp K H v d → Dp K H' v d
  | .none, _, _, h => by cases h; exact .non
  | .bool b, _, _, h => by cases h; exact .bl b
  | .int i, _, _, h => by cases h; exact .int i
  | .str x, _, _, h => by cases h; exact .str x
  | .list ds, _, e, h => by cases e
  | .tuple ds, _, e, h => by
    cases h with
    | tup h1 h2 => exact .tup (s _ _ h1) (dpAllSameT s ds _ (by unfold noL at e; exact e) h2)
  | .dict _, _, e, h => by cases e
theorem dpAllSameT {K : PySem.W.Frag} {H H' : Hp} (s : ∀ a xs, SqT K H a xs → SqT K H' a xs) : ∀ (ds : List PyData) (vs : List V), noLs ds = true → DpAll K H vs ds → DpAll K H' vs ds
  | [], _, _, h => by cases h; exact .nil
  | d :: ds, _, e, h => by
    cases h with
    | cons h1 h2 =>
      unfold noLs at e
      rw [Bool.and_eq_true] at e
      exact .cons (dpSameT s d _ e.1 h1) (dpAllSameT s ds _ e.2 h2)
end
def SL (x y : Str) : Prop := x.cps.toList < y.cps.toList
theorem SL.asymm {x y : Str} (h : SL x y) (g : SL y x) : False := List.lt_asymm h g
theorem SL.trans {x y z : Str} (h : SL x y) (g : SL y z) : SL x z := List.lt_trans h g
theorem str_ext {x y : Str} (h : x.cps.toList = y.cps.toList) : x = y := by
  cases x; cases y
  have := Array.toList_inj.mp h
  simp at this
  subst this
  rfl
theorem SL.of {x y : Str} (h : ltCps y.cps.toList x.cps.toList = false) (n : x ≠ y) : SL x y := by
  rw [ltCps_eq] at h
  have h' : ¬ y.cps.toList < x.cps.toList := of_decide_eq_false h
  have hle : x.cps.toList ≤ y.cps.toList := h'
  by_cases q : x.cps.toList < y.cps.toList
  · exact q
  · have hge : y.cps.toList ≤ x.cps.toList := q
    exact absurd (str_ext (List.le_antisymm hle hge)) n
theorem risingS_up : ∀ (p : Str) (l : List Str), risingS p l = true → (p :: l).Nodup → (p :: l).Pairwise SL
  | p, [], _, _ => List.pairwise_singleton _ _
  | p, x :: r, h, nd => by
    have h' : (!ltCps x.cps.toList p.cps.toList && risingS x r) = true := h
    rw [Bool.and_eq_true] at h'
    rw [List.nodup_cons] at nd
    have t := risingS_up x r h'.2 nd.2
    have h1 : SL p x := SL.of (by simpa using h'.1) (fun e => nd.1 (by rw [e]; simp))
    refine List.pairwise_cons.mpr ⟨fun y hy => ?_, t⟩
    rcases List.mem_cons.mp hy with rfl | hy
    · exact h1
    · exact h1.trans ((List.pairwise_cons.mp t).1 y hy)
theorem sortedS_up {l : List Str} (h : sortedS l = true) (nd : l.Nodup) : l.Pairwise SL := by
  cases l with
  | nil => exact .nil
  | cons x r => exact risingS_up x r h nd
theorem SL.nd {l : List Str} (h : l.Pairwise SL) : l.Nodup := h.imp fun {a b} q e => by subst e; exact q.asymm q
/-- sorted of what rises is itself -/
theorem sortedS_same {l m : List Str} (hl : l.Pairwise SL) (hp : m.Perm l) (hm : sortedS m = true) : m = l := by
  have nd : m.Nodup := hp.nodup_iff.mpr (SL.nd hl)
  exact sorted_ext (fun a b => SL.asymm) (sortedS_up hm nd) hl fun x => hp.mem_iff
/-- the signs of steps rise -/
def Inc (L : List (Str × Nat)) : Prop := (L.map (·.1)).Pairwise SL
theorem Inc.sub {L N : List (Str × Nat)} (h : Inc L) (s : (N.map (·.1)).Sublist (L.map (·.1))) : Inc N := List.Pairwise.sublist s h
theorem Inc.snoc_sub {L N : List (Str × Nat)} {p q : Str × Nat} (s : (N.map (·.1)).Sublist (L.map (·.1))) (e : q.1 = p.1) : ((N ++ [q]).map (·.1)).Sublist ((L ++ [p]).map (·.1)) := by
  rw [List.map_append, List.map_append]
  simp only [List.map_cons, List.map_nil, e]
  exact s.append (List.Sublist.refl _)
/-! ### signs that are drawn -/
def letL : List Nat := (Str.ofString "abcdefghijklmnopqrstuvwxyz").cps.toList
def letC (k : Nat) : Nat := letL.getD k 0
theorem letL_len : letL.length = 26 := by decide +kernel
theorem letC_at {k : Nat} (h : k < 26) : letL[k]? = some (letC k) := by
  have hk : k < letL.length := by rw [letL_len]; exact h
  unfold letC
  rw [List.getD_eq_getElem?_getD, List.getElem?_eq_getElem hk]
  rfl
theorem letC_ok {k : Nat} (h : k < 26) : letC k < 0x110000 := by
  have : ∀ c, c ∈ letL → c < 0x110000 := by decide +kernel
  exact this _ (List.mem_of_getElem? (letC_at h))
theorem letC_inj {k j : Nat} (hk : k < 26) (hj : j < 26) (h : letC k = letC j) : k = j := by
  have nd : letL.Nodup := by decide +kernel
  have h1 := letC_at hk
  have h2 := letC_at hj
  rw [h] at h1
  obtain ⟨a1, b1⟩ := List.getElem?_eq_some_iff.mp h1
  obtain ⟨a2, b2⟩ := List.getElem?_eq_some_iff.mp h2
  have pw := List.pairwise_iff_getElem.mp nd
  rcases Nat.lt_trichotomy k j with q | q | q
  · exact absurd (b1.trans b2.symm) (pw k j a1 a2 q)
  · exact q
  · exact absurd (b2.trans b1.symm) (pw j k a2 a1 q)
def sgn (hd : Str) (u k : Nat) : Str := hd ++ (⟨#[letC ((u + 7 * k) % 26)]⟩ : Str)
theorem sgn_inj {hd : Str} {u k j : Nat} (hk : k < 6) (hj : j < 6) (h : sgn hd u k = sgn hd u j) : k = j := by
  have h1 : (hd.cps ++ #[letC ((u + 7 * k) % 26)]) = (hd.cps ++ #[letC ((u + 7 * j) % 26)]) := congrArg Str.cps h
  have h2 := congrArg Array.toList h1
  rw [Array.toList_append, Array.toList_append] at h2
  have h3 := List.append_cancel_left h2
  have h4 : letC ((u + 7 * k) % 26) = letC ((u + 7 * j) % 26) := by simpa using h3
  have h5 := letC_inj (Nat.mod_lt _ (by decide)) (Nat.mod_lt _ (by decide)) h4
  omega
theorem sgns_nd {hd : Str} {u m : Nat} (h : m ≤ 6) : ((List.range m).map (sgn hd u)).Nodup := by
  show ((List.range m).map (sgn hd u)).Pairwise (· ≠ ·)
  rw [List.pairwise_map]
  refine List.Pairwise.imp_of_mem (fun {a b} ha hb q e => ?_) List.nodup_range
  exact q (sgn_inj (by have := List.mem_range.mp ha; omega) (by have := List.mem_range.mp hb; omega) e)
/-! ### machines -/
abbrev Stp := Str × Nat
abbrev Rm := Bool × List Stp
def stD (p : Stp) : PyData := .tuple [.str p.1, .int (p.2 : Int)]
def rmD (r : Rm) : PyData := .tuple [.bool r.1, .tuple (r.2.map stD)]
def maD (M : List Rm) : PyData := .tuple (M.map rmD)
theorem noL_st (p : Stp) : noL (stD p) = true := by simp [stD, noL, noLs]
theorem noLs_st : ∀ l : List Stp, noLs (l.map stD) = true
  | [] => by simp [noLs]
  | p :: l => by rw [List.map_cons, noLs, noL_st, noLs_st l]; rfl
theorem noL_rm (r : Rm) : noL (rmD r) = true := by simp [rmD, noL, noLs, noLs_st]
theorem noLs_rm : ∀ l : List Rm, noLs (l.map rmD) = true
  | [] => by simp [noLs]
  | p :: l => by rw [List.map_cons, noLs, noL_rm, noLs_rm l]; rfl
theorem noL_ma (M : List Rm) : noL (maD M) = true := by rw [maD, noL]; exact noLs_rm M
def sgs (M : List Rm) : List Str := (M.map fun r => r.2.map Prod.fst).flatten
theorem sgs_snoc (M : List Rm) (r : Rm) : sgs (M ++ [r]) = sgs M ++ r.2.map Prod.fst := by
  unfold sgs
  rw [List.map_append, List.flatten_append]
  simp
theorem sgs_mem {M : List Rm} {t : Str} : t ∈ sgs M ↔ ∃ r p, r ∈ M ∧ p ∈ r.2 ∧ p.1 = t := by
  unfold sgs
  rw [List.mem_flatten]
  constructor
  · rintro ⟨l, hl, ht⟩
    obtain ⟨r, hr, rfl⟩ := List.mem_map.mp hl
    obtain ⟨p, hp, rfl⟩ := List.mem_map.mp ht
    exact ⟨r, p, hr, hp, rfl⟩
  · rintro ⟨r, p, hr, hp, rfl⟩
    exact ⟨_, List.mem_map_of_mem hr, List.mem_map_of_mem hp⟩
structure ROk (n : Nat) (M : List Rm) : Prop where
  deg : ∀ r, r ∈ M → r.2.length ≤ 6
  tgt : ∀ r, r ∈ M → ∀ p, p ∈ r.2 → p.2 < n
  str : ∀ r, r ∈ M → ∀ p, p ∈ r.2 → PyData.strOk p.1 = true
  inc : ∀ r, r ∈ M → Inc r.2
structure MOk (M : List Rm) : Prop extends ROk M.length M where
  pos : 0 < M.length
  le : M.length ≤ 100
/-- the steps of a room -/
def stepsOf (M : List Rm) (k : Nat) : List Stp := (M.getD k (false, [])).2
theorem stepsOf_at {M : List Rm} {k : Nat} {r : Rm} (h : M[k]? = some r) : stepsOf M k = r.2 := by unfold stepsOf; rw [List.getD_eq_getElem?_getD, h]; rfl
def Eg (M : List Rm) (k : Nat) : List Nat := (stepsOf M k).map (·.2)
/-- a room that ends -/
def endR (M : List Rm) (k : Nat) : Bool := (M.getD k (false, [])).1
theorem endR_at {M : List Rm} {k : Nat} {r : Rm} (h : M[k]? = some r) : endR M k = r.1 := by unfold endR; rw [List.getD_eq_getElem?_getD, h]; rfl
/-- the rooms from which an end is come to, as they are found -/
def teAny (M : List Rm) (F : List Nat) (k : Nat) : Bool := (stepsOf M k).any fun p => decide (p.2 ∈ F)
def teStep (M : List Rm) (F : List Nat) (k : Nat) : List Nat := if k ∈ F then F else if teAny M F k = true then F ++ [k] else F
def teTurn (M : List Rm) (F : List Nat) : List Nat := (List.range M.length).foldl (teStep M) F
def teF (M : List Rm) : List Nat := (List.range M.length).foldl (fun F _ => teTurn M F) ((List.range M.length).filter (endR M))
/-- each ends, or leads to one that was found ahead of it -/
def Found (M : List Rm) (F : List Nat) : Prop := ∀ A k B, F = A ++ k :: B → endR M k = true ∨ ∃ j, j ∈ Eg M k ∧ j ∈ A
theorem Found.start (M : List Rm) (n : Nat) : Found M ((List.range n).filter (endR M)) := by
  intro A k B e
  have : k ∈ (List.range n).filter (endR M) := by rw [e]; simp
  exact .inl (List.mem_filter.mp this).2
theorem Found.step {M : List Rm} {F : List Nat} (h : Found M F) (k : Nat) : Found M (teStep M F k) := by
  unfold teStep
  by_cases h1 : k ∈ F
  · rw [if_pos h1]; exact h
  · rw [if_neg h1]
    by_cases h2 : teAny M F k = true
    · rw [if_pos h2]
      intro A x B e
      rcases List.eq_nil_or_concat B with rfl | ⟨B', y, rfl⟩
      · obtain ⟨e1, e2⟩ := List.append_inj' e rfl
        cases e2
        subst e1
        unfold teAny at h2
        obtain ⟨p, hp, hq⟩ := List.any_eq_true.mp h2
        exact .inr ⟨p.2, List.mem_map_of_mem hp, of_decide_eq_true hq⟩
      · rw [List.concat_eq_append, show A ++ x :: (B' ++ [y]) = (A ++ x :: B') ++ [y] by simp] at e
        obtain ⟨e1, _⟩ := List.append_inj' e rfl
        exact h A x B' e1
    · rw [if_neg h2]; exact h
theorem Found.fold {M : List Rm} : ∀ {l F : List Nat}, Found M F → Found M (l.foldl (teStep M) F)
  | [], _, h => h
  | k :: l, _, h => by rw [List.foldl_cons]; exact Found.fold (h.step k)
theorem Found.turns {M : List Rm} : ∀ {l F : List Nat}, Found M F → Found M (l.foldl (fun F _ => teTurn M F) F)
  | [], _, h => h
  | k :: l, _, h => by rw [List.foldl_cons]; exact Found.turns (l := l) (Found.fold h)
theorem teF_found (M : List Rm) : Found M (teF M) := Found.turns (Found.start M _)
theorem teStep_sub {M : List Rm} {F : List Nat} {k x : Nat} (h : x ∈ F) : x ∈ teStep M F k := by
  unfold teStep
  by_cases h1 : k ∈ F
  · rw [if_pos h1]; exact h
  · rw [if_neg h1]
    by_cases h2 : teAny M F k = true
    · rw [if_pos h2]; exact List.mem_append_left _ h
    · rw [if_neg h2]; exact h
theorem teFold_sub {M : List Rm} {x : Nat} : ∀ {l F : List Nat}, x ∈ F → x ∈ l.foldl (teStep M) F
  | [], _, h => h
  | k :: l, _, h => by rw [List.foldl_cons]; exact teFold_sub (teStep_sub h)
theorem teTurns_sub {M : List Rm} {x : Nat} : ∀ {l F : List Nat}, x ∈ F → x ∈ l.foldl (fun F _ => teTurn M F) F
  | [], _, h => h
  | k :: l, _, h => by rw [List.foldl_cons]; exact teTurns_sub (l := l) (teFold_sub h)
theorem teF_end {M : List Rm} {k : Nat} (hk : k < M.length) (h : endR M k = true) : k ∈ teF M := teTurns_sub (List.mem_filter.mpr ⟨List.mem_range.mpr hk, h⟩)
/-- closed under what is found, a list from 0 has an end -/
theorem Found.has {M : List Rm} {F : List Nat} (h : Found M F) {O : List Nat} (hc : ∀ k, k ∈ O → ∀ j, j ∈ Eg M k → j ∈ F → j ∈ O) : ∀ (n : Nat) (A : List Nat) (k : Nat) (B : List Nat), A.length ≤ n → F = A ++ k :: B → k ∈ O → ∃ x, x ∈ O ∧ endR M x = true
  | n, A, k, B, hn, e, hk => by
    rcases h A k B e with q | ⟨j, hj, hA⟩
    · exact ⟨k, hk, q⟩
    · obtain ⟨A1, A2, rfl⟩ := List.append_of_mem hA
      cases n with
      | zero => simp at hn
      | succ n =>
        rw [List.length_append, List.length_cons] at hn
        exact h.has hc n A1 j (A2 ++ k :: B) (by omega) (by rw [e]; simp) (hc k hk j hj (by rw [e]; simp))
def natV (F : List Nat) : List V := F.map fun n : Nat => V.int (n : Int)
theorem ints_len (F : List Nat) : (natV F).length = F.length := List.length_map ..
theorem ints_app (F G : List Nat) : natV (F ++ G) = natV F ++ natV G := List.map_append ..
theorem ints_at {F : List Nat} {i k : Nat} (h : F[i]? = some k) : (natV F)[i]? = some (V.int (k : Int)) := by unfold natV; rw [List.getElem?_map, h]; rfl
theorem ints_get {F : List Nat} {i : Nat} {v : V} (h : (natV F)[i]? = some v) : ∃ k, F[i]? = some k ∧ v = V.int (k : Int) := by
  unfold natV at h
  rw [List.getElem?_map] at h
  cases e : F[i]? with
  | none => rw [e] at h; cases h
  | some k => rw [e] at h; exact ⟨k, rfl, (Option.some.inj h).symm⟩
theorem ints_flat (F : List Nat) : (natV F).all flatV = true := by
  rw [List.all_eq_true]
  intro v hv
  unfold natV at hv
  obtain ⟨k, _, rfl⟩ := List.mem_map.mp hv
  rfl
theorem ints_in (F : List Nat) (k : Nat) : inV (.int (k : Int)) (natV F) = decide (k ∈ F) := by
  unfold inV natV
  rw [List.any_map, Bool.eq_iff_iff, List.any_eq_true, decide_eq_true_eq]
  constructor
  · rintro ⟨j, hj, e⟩
    have : (j : Int) = (k : Int) := by simpa [eqV] using e
    have : j = k := by omega
    subst this
    exact hj
  · intro h
    exact ⟨k, h, by simp [eqV]⟩
theorem stAt {K : PySem.W.Frag} {H : Hp} {v : V} {p : Stp} (h : Dp K H v (stD p)) : ∃ a, v = .ref a ∧ SqT K H a [.str p.1, .int (p.2 : Int)] := by
  obtain ⟨a, xs, rfl, h1, h2⟩ := dpTup h
  obtain ⟨x, us, rfl, e, h3⟩ := dpCons h2
  cases dpStr e
  obtain ⟨y, us, rfl, e, h4⟩ := dpCons h3
  cases dpInt e
  cases dpNil h4
  exact ⟨a, rfl, h1⟩
theorem rmAt {K : PySem.W.Frag} {H : Hp} {v : V} {r : Rm} (h : Dp K H v (rmD r)) : ∃ a b ls, v = .ref a ∧ SqT K H a [.bl r.1, .ref b] ∧ SqT K H b ls ∧ DpAll K H ls (r.2.map stD) := by
  obtain ⟨a, xs, rfl, h1, h2⟩ := dpTup h
  obtain ⟨x, us, rfl, e, h3⟩ := dpCons h2
  cases e
  obtain ⟨y, us, rfl, e, h4⟩ := dpCons h3
  obtain ⟨b, ls, rfl, h5, h6⟩ := dpTup e
  cases dpNil h4
  exact ⟨a, b, ls, rfl, h1, h5, h6⟩
/-- the room at a place -/
theorem rmsAt {K : PySem.W.Frag} {H : Hp} {rs : List V} {M : List Rm} {k : Nat} {r : Rm} (h : DpAll K H rs (M.map rmD)) (hk : M[k]? = some r) : ∃ a b ls, rs[k]? = some (.ref a) ∧ SqT K H a [.bl r.1, .ref b] ∧ SqT K H b ls ∧ DpAll K H ls (r.2.map stD) := by
  obtain ⟨u, hu1, hu2⟩ := dpsAt h (i := k) (d := rmD r) (by rw [List.getElem?_map, hk]; rfl)
  obtain ⟨a, b, ls, rfl, h1, h2, h3⟩ := rmAt hu2
  exact ⟨a, b, ls, hu1, h1, h2, h3⟩
/-- a step at a place -/
theorem stsAt {K : PySem.W.Frag} {H : Hp} {ls : List V} {L : List Stp} {j : Nat} {v : V} (h : DpAll K H ls (L.map stD)) (hv : ls[j]? = some v) : ∃ p a, L[j]? = some p ∧ v = .ref a ∧ SqT K H a [.str p.1, .int (p.2 : Int)] := by
  obtain ⟨d, hd1, hd2⟩ := dpsAtV h hv
  rw [List.getElem?_map] at hd1
  cases e : L[j]? with
  | none => rw [e] at hd1; cases hd1
  | some p =>
    rw [e] at hd1
    have : d = stD p := (Option.some.inj hd1).symm
    subst this
    obtain ⟨a, rfl, h1⟩ := stAt hd2
    exact ⟨p, a, rfl, rfl, h1⟩
theorem dpsW {K : PySem.W.Frag} {H : Hp} {R : Addr} {xs : List V} {o : HO} (h : H R = some (.lst xs)) {vs : List V} {ds : List PyData} (n : noLs ds = true) (hd : DpAll K H vs ds) : DpAll K (upd H R o) vs ds := dpAllSameT (fun _ _ q => sqTW h q) ds vs n hd
theorem dpW {K : PySem.W.Frag} {H : Hp} {R : Addr} {xs : List V} {o : HO} (h : H R = some (.lst xs)) {v : V} {d : PyData} (n : noL d = true) (hd : Dp K H v d) : Dp K (upd H R o) v d := dpSameT (fun _ _ q => sqTW h q) d v n hd
theorem roomAdd {K : PySem.W.Frag} {H : Hp} {R l t : Addr} {ns ls : List V} {N : List Rm} {L : List Stp} {bb : Bool} (hR : H R = some (.lst ns)) (hns : DpAll K H ns (N.map rmD)) (hls : DpAll K H ls (L.map stD)) (nl : H l = none) (nt : (upd H l (.tup ls)) t = none) :
    DpAll K (upd (upd (upd H l (.tup ls)) t (.tup [.bl bb, .ref l])) R (.lst (ns ++ [.ref t]))) (ns ++ [.ref t]) ((N ++ [(bb, L)]).map rmD) := by
  have s6 : Same H (upd H l (.tup ls)) := .new nl
  have s7 : Same (upd H l (.tup ls)) (upd (upd H l (.tup ls)) t (.tup [.bl bb, .ref l])) := .new nt
  have hR7 := (s6.trans s7) _ _ hR
  rw [List.map_append]
  refine dpsApp (dpsW hR7 (noLs_rm N) (dpsS (s6.trans s7) hns)) (.cons ?_ .nil)
  refine .tup (sqTW hR7 (sT upd_same)) (.cons (.bl _) (.cons ?_ .nil))
  exact dpW hR7 (by rw [noL]; exact noLs_st L) (dpS s7 (.tup (sT upd_same) (dpsS s6 hls)))
theorem stepAdd {K : PySem.W.Frag} {H : Hp} {A t : Addr} {as : List V} {L : List Stp} {sg : Str} {n : Nat} (hA : H A = some (.lst as)) (has : DpAll K H as (L.map stD)) (nt : H t = none) :
    DpAll K (upd (upd H t (.tup [.str sg, .int (n : Int)])) A (.lst (as ++ [.ref t]))) (as ++ [.ref t]) ((L ++ [(sg, n)]).map stD) := by
  have s6 : Same H (upd H t (.tup [.str sg, .int (n : Int)])) := .new nt
  have hA6 := s6 _ _ hA
  rw [List.map_append]
  refine dpsApp (dpsW hA6 (noLs_st L) (dpsS s6 has)) (.cons ?_ .nil)
  exact .tup (sqTW hA6 (sT upd_same)) (.cons (.str _) (.cons (.int _) .nil))
def endsOf (M : List Rm) (k : Nat) : Bool := (M.getD k (false, [])).1
theorem pairedAtL' {α β : Type} {F : α → β → Prop} : ∀ {l₁ : List α} {l₂ : List β} {i : Nat} {b : β}, Paired F l₁ l₂ → l₂[i]? = some b → ∃ a, l₁[i]? = some a ∧ F a b
  | _, _, _, _, .nil, h => by simp at h
  | _, _, 0, _, .cons r t, h => by simp at h; subst h; exact ⟨_, rfl, r⟩
  | _, _, i + 1, _, .cons r t, h => by
    simp at h
    obtain ⟨a, h1, h2⟩ := pairedAtL' t h
    exact ⟨a, by simpa using h1, h2⟩
theorem decInt (a b : Nat) : decide (V.int (a : Int) = V.int (b : Int)) = decide (a = b) := by
  by_cases h : a = b
  · subst h; simp
  · rw [decide_eq_false h, decide_eq_false fun e => h (by have := V.int.inj e; omega)]
variable {P : Program} {w : World} {K : PySem.W.Frag} {mg : Str → Option Value} {base : Heap}
theorem natV_snoc (A : List Nat) (x : Nat) : natV (A ++ [x]) = natV A ++ [V.int (x : Int)] := by rw [ints_app]; rfl
def pdK (P : List Nat) : List (Key × V) := P.map fun k : Nat => ((Sum.inl (k : Int) : Key), V.bl true)
theorem pdK_len (P : List Nat) : (pdK P).length = P.length := List.length_map ..
theorem pdK_get (k : Nat) : ∀ P : List Nat, (valV (pdK P) (.inl (k : Int))).isSome = decide (k ∈ P)
  | [] => by simp [pdK, valV_nil]
  | x :: P => by
    by_cases e : x = k
    · subst e
      unfold pdK
      rw [List.map_cons, valV_pos rfl]
      simp
    · unfold pdK
      rw [List.map_cons, valV_neg (by intro h; have := Sum.inl.inj h; omega)]
      have := pdK_get k P
      unfold pdK at this
      rw [this]
      have : ¬ k = x := fun h => e h.symm
      simp [this]
theorem pdK_put {P : List Nat} {k : Nat} (h : k ∉ P) : putK (pdK P) (.inl (k : Int)) (.bl true) = pdK (P ++ [k]) := by
  have e : valV (pdK P) (.inl (k : Int)) = none := by
    have := pdK_get k P
    rw [decide_eq_false h] at this
    exact Option.not_isSome_iff_eq_none.mp (by rw [this]; decide)
  rw [putK_new _ e]
  unfold pdK
  rw [List.map_append]
  rfl
def StepP (n : Nat) (d : PyData) : Prop := ∃ p : Stp, d = stD p ∧ signS p.1 = true ∧ p.2 < n
def RoomP (n : Nat) (d : PyData) : Prop := ∃ r : Rm, d = rmD r ∧ (∀ p, p ∈ r.2 → signS p.1 = true ∧ p.2 < n) ∧ Inc r.2
end Sw
set_option Elab.async false
set_option maxRecDepth 100000
set_option maxHeartbeats 4000000
namespace Sw
open PySem L2 PySem.Spec PyProof.Rows
theorem dpTup2 {K : PySem.W.Frag} {H : Hp} {v : V} {ds : List PyData} (h : Dp K H v (.tuple ds)) : ∃ a xs, v = .ref a ∧ SqT K H a xs ∧ DpAll K H xs ds ∧ xs.length = ds.length := by
  obtain ⟨a, xs, e, h1, h2⟩ := dpTup h
  exact ⟨a, xs, e, h1, h2, dpsLen h2⟩
section
variable {P : Program} {w : World} {K : PySem.W.Frag} {mg : Str → Option Value} {base : Heap}
abbrev n_is_step : List Str := ["thing", "many"]
theorem sc_is_step : FnScope n_is_step ["thing", "many"] (defScope s_is_step) := ⟨rfl, rfl, rfl, by decide +kernel, rfl, by decide +kernel, by decide +kernel⟩
def spStep (K : PySem.W.Frag) (T : Addr) : Sp := fun vs H Q _ => ∃ (v : V) (d : PyData) (n : Nat), vs = [v, .int (n : Int)] ∧ Dp K H v d ∧ bdD d = true ∧ H T = some (TabE T) ∧ ∀ b : Bool, (b = true ↔ StepP n d) → Q (.bl b) H
theorem ok_is_step {T : Addr} (F : DefAt K mg "_is_step" s_is_step ["thing", "many"]) (d_is_sign : DefOk P w K mg base "is_sign" 2 ["thing"] (spIsSign K T)) (d_is_whole : DefOk P w K mg base "is_whole" 1 ["thing"] (spWhole K)) (b_isinstance : mg "isinstance" = none) (b_tuple : mg "tuple" = none) (b_len : mg "len" = none) :
    DefOk P w K mg base "_is_step" 3 ["thing", "many"] (spStep K T) := by
  refine F.ok sc_is_step (fun vs H Q E h => ?_) (fun f cdv A outer s H vs Q E hr h => ?_)
  · obtain ⟨_, _, _, rfl, _⟩ := h
    rfl
  obtain ⟨v, d, n, rfl, hd, hbd, hT, k⟩ := h
  refine ⟨_, (pss_cons (ps_if (PW.pt (pw_or (pt_not (pt_val (pe_callB call_isi (by rfl) b_isinstance (by decide +kernel) (pa_cons (pv 0) (pa_cons (pe_bltn (v := .ty "tuple") (by rfl) b_tuple (by decide +kernel) rfl) pa_nil))))) (pw_or (pt_cmpR op_ne (pe_callB call_len_seq (by rfl) b_len PySem.boot_len (pa_cons (pv 0) pa_nil)) pe_int (nomark _)) (pw_or1 (pt_not (pt_val (pe_callD d_is_sign (hr.mono (by decide)) rfl (pa_cons (pe_ix ix_tup (pv 0) pe_int (fun _ _ => rfl)) pa_nil)))))))) (pss_one (ps_ret pe_bl)) pss_nil)
    (pss_one (ps_ret (pe_and (pe_callD d_is_whole (hr.mono (by decide)) rfl (pa_cons (pe_ix ix_tup (pv 0) pe_int (fun _ _ => rfl)) pa_nil)) (pe_one (pe_chain op_le op_lt pe_int (pe_ix ix_tup (pv 0) pe_int (fun _ _ => rfl)) (pv 1))))))), ?_⟩
  have no : (¬ StepP n d) → Q (.bl false) H := fun h => k false ⟨fun e => (by cases e), fun e => absurd e h⟩
  refine ⟨v, rfl, v, .ty "tuple", _, _, _, rfl, .ty _, tyX hd, isTup hd, _, rfl, ?_⟩
  by_cases ht : ∃ ds, d = .tuple ds
  · obtain ⟨ds, rfl⟩ := ht
    obtain ⟨a, xs, rfl, ha, hxs, hl⟩ := dpTup2 hd
    obtain ⟨hb1, hb2⟩ := bdTup hbd
    refine iteF ?_
    refine ⟨_, rfl, a, xs, rfl, .inr ha, rfl, _, rfl, ?_⟩
    by_cases h2 : ds.length = 2
    · have ne2 : (!decide (V.int (xs.length : Int) = V.int 2)) = false := by rw [hl, h2]; rfl
      obtain ⟨d0, d1, rfl⟩ : ∃ d0 d1, ds = [d0, d1] := by
        match ds, h2 with
        | [d0, d1], _ => exact ⟨d0, d1, rfl⟩
      obtain ⟨x0, x1, rfl⟩ : ∃ x0 x1, xs = [x0, x1] := by
        match xs, hl with
        | [x0, x1], _ => exact ⟨x0, x1, rfl⟩
      cases hxs with
      | cons p0 t =>
        cases t with
        | cons p1 t1 =>
          refine iteF' (by rw [ne2]; decide) ?_
          refine ⟨_, rfl, a, _, 0, _, rfl, rfl, ha, atI_nat (j := 0) rfl, ?_⟩
          refine ⟨x0, d0, rfl, p0, fun t e => ?_, hT, _, rfl, ?_⟩
          · subst e
            have := bdDs_mem hb2 (d := .str t) (by simp)
            rw [bdD] at this
            exact of_decide_eq_true this
          cases e0 : signD d0 with
          | false =>
            refine iteT (no ?_)
            rintro ⟨p, e, h1, h2⟩
            unfold stD at e
            cases e
            rw [show signD (.str p.1) = signS p.1 from rfl, h1] at e0
            cases e0
          | true =>
            refine iteF ?_
            refine ⟨_, rfl, a, _, 1, _, rfl, rfl, ha, atI_nat (j := 1) rfl, ?_⟩
            refine ⟨x1, d1, rfl, p1, _, rfl, ?_⟩
            cases e1 : wholeD d1 with
            | false =>
              refine iteF (no ?_)
              rintro ⟨p, e, h1, h2⟩
              unfold stD at e
              cases e
              cases e1
            | true =>
              obtain ⟨z, rfl⟩ : ∃ z, d1 = .int z := by
                cases d1 <;> first | exact ⟨_, rfl⟩ | cases e1
              cases p1
              refine iteT ?_
              refine ⟨_, rfl, a, _, 1, _, rfl, rfl, ha, atI_nat (j := 1) rfl, _, _, rfl, rfl, _, rfl, ?_⟩
              refine ite2 (fun q => ?_) (fun q => no ?_)
              · have q' : (0 : Int) ≤ z := of_decide_eq_true q
                refine ⟨_, rfl, _, _, rfl, rfl, ?_⟩
                obtain ⟨m, rfl⟩ : ∃ m : Nat, z = (m : Int) := ⟨z.toNat, by omega⟩
                obtain ⟨t, rfl⟩ : ∃ t, d0 = .str t := by
                  cases d0 <;> first | exact ⟨_, rfl⟩ | cases e0
                refine k _ ⟨fun q2 => ⟨(t, m), rfl, e0, by have := of_decide_eq_true q2; show m < n; omega⟩, ?_⟩
                rintro ⟨p, e, h1, h2⟩
                unfold stD at e
                simp only [PyData.tuple.injEq, List.cons.injEq, PyData.str.injEq, PyData.int.injEq] at e
                exact decide_eq_true (by omega)
              · rintro ⟨p, e, h1, h2⟩
                unfold stD at e
                simp only [PyData.tuple.injEq, List.cons.injEq, PyData.str.injEq, PyData.int.injEq] at e
                exact q (decide_eq_true (by omega))
    · have ne2 : (!decide (V.int (xs.length : Int) = V.int 2)) = true := by
        rw [decide_eq_false (fun e => h2 (by have := V.int.inj e; omega))]; rfl
      refine iteT' ne2 (no ?_)
      rintro ⟨p, e, _⟩
      unfold stD at e
      cases e
      exact h2 rfl
  · have e : isTupD d = false := by cases d <;> first | rfl | exact absurd ⟨_, rfl⟩ ht
    rw [e]
    refine iteT (no ?_)
    rintro ⟨p, rfl, _⟩
    exact ht ⟨_, rfl⟩
end
end Sw
set_option Elab.async false
set_option maxRecDepth 100000
set_option maxHeartbeats 4000000
namespace Sw
open PySem L2 PySem.Spec PyProof.Rows
theorem gw_zip {K : PySem.W.Frag} {a b : Addr} {xs ys : List V} {go : Bool} {g : TG} {te : TE} {σ0 : L2.St} {vs : List Nat} {QT QF : Hp → Prop} {H : Hp} (Pv : Nat → Hp → Prop) (h0 : Pv 0 H) (hl : ∀ i H, Pv i H → SqL K H a xs ∧ SqL K H b ys)
    (hs : ∀ i x y T H, xs[i]? = some x → ys[i]? = some y → Pv i H → H T = none → g (.ref T) σ0 (upd H T (.tup [x, y])) fun σ2 H2 => wipe σ2 vs = σ0 ∧ te σ2 H2 fun y H3 => ∃ b, y = .bl b ∧ if b = go then Pv (i + 1) H3 else QF H3) (hd : ∀ i H, (xs.length ≤ i ∨ ys.length ≤ i) → Pv i H → QT H) :
    ∃ W : Nat → Nat → Hp → Prop, (∃ m, W 0 m H) ∧ GWalk go (Itz K a b) g te σ0 vs QT QF W := by
  refine ⟨fun i m H => m = xs.length - i ∧ Pv i H, ⟨xs.length, by simp, h0⟩, ?_⟩
  rintro i m H ⟨rfl, hp⟩
  obtain ⟨hL, hL2⟩ := hl i H hp
  by_cases e : xs.length ≤ i ∨ ys.length ≤ i
  · exact .inl ⟨⟨xs, ys, hL, hL2, e⟩, hd i H e hp⟩
  · have hlt : i < xs.length := by omega
    have hlt2 : i < ys.length := by omega
    refine .inr ⟨⟨xs, ys, xs[i], ys[i], hL, hL2, List.getElem?_eq_getElem hlt, List.getElem?_eq_getElem hlt2⟩, Pv (i + 1), fun H' hq => ⟨_, by omega, rfl, hq⟩, fun x H' hy => ?_⟩
    obtain ⟨T, x, y, rfl, hT, rfl, hx, hy⟩ := hy
    exact hs i x y T H (hx xs hL) (hy ys hL2) hp hT
theorem steps_of {n : Nat} : ∀ {ds : List PyData}, (∀ d, d ∈ ds → StepP n d) → ∃ L : List Stp, ds = L.map stD ∧ ∀ p, p ∈ L → signS p.1 = true ∧ p.2 < n
  | [], _ => ⟨[], rfl, fun p h => by cases h⟩
  | d :: ds, h => by
    obtain ⟨p, e, h1, h2⟩ := h d (by simp)
    obtain ⟨L, e2, h3⟩ := steps_of fun d hd => h d (List.mem_cons_of_mem _ hd)
    refine ⟨p :: L, by rw [List.map_cons, e, e2], fun q hq => ?_⟩
    rcases List.mem_cons.mp hq with rfl | hq
    · exact ⟨h1, h2⟩
    · exact h3 q hq
theorem adj_up : ∀ {l : List Str}, (∀ i x y, l[i]? = some x → l[i + 1]? = some y → SL x y) → l.Pairwise SL
  | [], _ => .nil
  | [x], _ => List.pairwise_singleton _ _
  | x :: y :: l, h => by
    have t := adj_up (l := y :: l) fun i a b ha hb => h (i + 1) a b (by simpa using ha) (by simpa using hb)
    have h0 := h 0 x y rfl rfl
    refine List.pairwise_cons.mpr ⟨fun z hz => ?_, t⟩
    rcases List.mem_cons.mp hz with rfl | hz
    · exact h0
    · exact h0.trans ((List.pairwise_cons.mp t).1 z hz)
theorem up_adj {l : List Str} (h : l.Pairwise SL) (i : Nat) {x y : Str} (hx : l[i]? = some x) (hy : l[i + 1]? = some y) : SL x y := by
  obtain ⟨h1, e1⟩ := List.getElem?_eq_some_iff.mp hx
  obtain ⟨h2, e2⟩ := List.getElem?_eq_some_iff.mp hy
  have := List.pairwise_iff_getElem.mp h i (i + 1) h1 h2 (by omega)
  rw [e1, e2] at this
  exact this
theorem cut_drop1 (xs : List V) : cutV xs (some ((1 : Nat) : Int)) none = xs.drop 1 := by
  unfold cutV
  rw [HT.sIx_nat, HT.sIx_none]
  by_cases h : 1 ≤ xs.length
  · rw [Nat.min_eq_left h, List.take_of_length_le (by rw [List.length_drop]; omega)]
  · have : xs = [] := List.eq_nil_of_length_eq_zero (by omega)
    subst this
    rfl
theorem stD_inj : ∀ {L N : List Stp}, L.map stD = N.map stD → L = N
  | [], [], _ => rfl
  | [], _ :: _, h => by cases h
  | _ :: _, [], h => by cases h
  | (a, b) :: L, (c, d) :: N, h => by
    rw [List.map_cons, List.map_cons] at h
    unfold stD at h
    simp only [List.cons.injEq, PyData.tuple.injEq, PyData.str.injEq, PyData.int.injEq] at h
    obtain ⟨⟨h1, h2, _⟩, h3⟩ := h
    have e := stD_inj (L := L) (N := N) h3
    rw [e, h1, show b = d by omega]
theorem StepP.inj {n : Nat} {p : Stp} (h : StepP n (stD p)) : signS p.1 = true ∧ p.2 < n := by
  obtain ⟨q, e, h1, h2⟩ := h
  unfold stD at e
  simp only [PyData.tuple.injEq, List.cons.injEq, PyData.str.injEq, PyData.int.injEq] at e
  obtain ⟨e1, e2, _⟩ := e
  rw [e1]
  exact ⟨h1, by omega⟩
section
variable {P : Program} {w : World} {K : PySem.W.Frag} {mg : Str → Option Value} {base : Heap}
abbrev n_is_room : List Str := ["thing", "many", "step", "signs", "sign", "_", "later"]
theorem sc_is_room : FnScope n_is_room ["thing", "many"] (defScope s_is_room) := ⟨rfl, rfl, rfl, by decide +kernel, rfl, by decide +kernel, by decide +kernel⟩
def spRoom (K : PySem.W.Frag) (T R : Addr) : Sp := fun vs H Q _ => ∃ (v : V) (d : PyData) (n : Nat), vs = [v, .int (n : Int)] ∧ Dp K H v d ∧ bdD d = true ∧ H T = some (TabE T) ∧ H R = some (TabE R) ∧ ∀ (b : Bool) H', (b = true ↔ RoomP n d) → Same H H' → Q (.bl b) H'
theorem ok_is_room {T R : Addr} (F : DefTab K mg base "_is_room" s_is_room ["thing", "many"] R) (d__is_step : DefOk P w K mg base "_is_step" 3 ["thing", "many"] (spStep K T)) (b_all : mg "all" = none) (b_isinstance : mg "isinstance" = none) (b_tuple : mg "tuple" = none) (b_bool : mg "bool" = none) (b_zip : mg "zip" = none) (b_len : mg "len" = none) :
    DefOk P w K mg base "_is_room" 5 ["thing", "many"] (spRoom K T R) := by
  refine F.ok sc_is_room (fun vs H Q E h => ?_) (fun f c A outer s H vs Q E TB hr h => ?_)
  · obtain ⟨_, _, _, rfl, _⟩ := h
    rfl
  obtain ⟨v, d, n, rfl, hd, hbd, hT, hR, k⟩ := h
  refine ⟨_, (pss_cons (ps_if (PW.pt (pw_or (pt_not (pt_val (pe_callB call_isi (by rfl) b_isinstance (by decide +kernel) (pa_cons (pv 0) (pa_cons (pe_bltn (v := .ty "tuple") (by rfl) b_tuple (by decide +kernel) rfl) pa_nil))))) (pw_or (pt_cmpR op_ne (pe_callB call_len_seq (by rfl) b_len PySem.boot_len (pa_cons (pv 0) pa_nil)) pe_int (nomark _)) (pw_or1 (pt_not (pt_val (pe_callB call_isi (by rfl) b_isinstance (by decide +kernel) (pa_cons (pe_ix ix_tup (pv 0) pe_int (fun _ _ => rfl)) (pa_cons (pe_bltn (v := .ty "bool") (by rfl) b_bool (by decide +kernel) rfl) pa_nil))))))))) (pss_one (ps_ret pe_bl)) pss_nil)
    (pss_cons (ps_if (PW.pt (pw_or (pt_not (pt_val (pe_callB call_isi (by rfl) b_isinstance (by decide +kernel) (pa_cons (pe_ix ix_tup (pv 0) pe_int (fun _ _ => rfl)) (pa_cons (pe_bltn (v := .ty "tuple") (by rfl) b_tuple (by decide +kernel) rfl) pa_nil))))) (pw_or1 (pt_not (pt_val (pe_allG rfl hr rfl b_all sc_is_room.nd TB rfl (blkOk_by (own := [("step", 2)]) (N := n_is_room) (sc := defScope s_is_room) (by decide +kernel)) ⟨rfl, by decide +kernel, by rfl⟩ (pi_tup (pe_ix ix_tup (pv 0) pe_int (fun _ _ => rfl))) (fun _ _ _ _ _ _ _ _ => (pg_name (i := 2) sc_is_room.nd rfl (Or.inl rfl))) (fun _ _ _ _ _ _ _ hr' => (pe_callD d__is_step hr' rfl (pa_cons (pv 2) (pa_cons (pv 1) pa_nil)))))))))) (pss_one (ps_ret pe_bl)) pss_nil)
    (pss_cons (ps_setLc (i := 3) (own := [("sign", 4), ("_", 5)]) (g := gTup K 2 (gCons (gName 4) (gCons (gName 5) gNil))) rfl sc_is_room.nd rfl rfl (sw_true rfl rfl rfl (by decide +kernel)) (pi_tup (pe_ix ix_tup (pv 0) pe_int (fun _ _ => rfl))) (blkOk_by (own := [("sign", 4), ("_", 5)]) (N := n_is_room) (sc := defScope s_is_room) (by decide +kernel)) (fun _ _ _ _ _ => (pg_tup rfl (pgs_cons (pg_name (i := 4) sc_is_room.nd rfl (Or.inl rfl)) (pgs_cons (pg_name (i := 5) sc_is_room.nd rfl (Or.inl rfl)) pgs_nil)))) (fun _ _ _ _ _ => pts_nil) (fun _ _ _ _ _ => (pv 4)))
    (pss_one (ps_ret (pe_allG (g := gTup K 2 (gCons (gName 4) (gCons (gName 6) gNil))) rfl hr rfl b_all sc_is_room.nd TB rfl (blkOk_by (own := [("sign", 4), ("later", 6)]) (N := n_is_room) (sc := defScope s_is_room) (by decide +kernel)) ⟨rfl, by decide +kernel, by rfl⟩ (pi_zip (by rfl) b_zip (pa_cons (pv 3) (pa_cons (pe_slice sl_list (pv 3) (po_some pe_int) po_none) pa_nil))) (fun _ _ _ _ _ _ _ _ => (pg_tup rfl (pgs_cons (pg_name (i := 4) sc_is_room.nd rfl (Or.inl rfl)) (pgs_cons (pg_name (i := 6) sc_is_room.nd rfl (Or.inl rfl)) pgs_nil)))) (fun _ _ _ _ _ _ _ hr' => (pe_cmpR op_lt_str (pv 4) (pv 6) (nomark _))))))))), ?_⟩
  have no : ∀ H', Same H H' → (¬ RoomP n d) → Q (.bl false) H' := fun H' s h => k false H' ⟨fun e => (by cases e), fun e => absurd e h⟩ s
  refine ⟨v, rfl, v, .ty "tuple", _, _, _, rfl, .ty _, tyX hd, isTup hd, _, rfl, ?_⟩
  by_cases ht : ∃ ds, d = .tuple ds
  · obtain ⟨ds, rfl⟩ := ht
    obtain ⟨a, xs, rfl, ha, hxs, hl⟩ := dpTup2 hd
    obtain ⟨hb1, hb2⟩ := bdTup hbd
    refine iteF ?_
    refine ⟨_, rfl, a, xs, rfl, .inr ha, rfl, _, rfl, ?_⟩
    by_cases h2 : ds.length = 2
    · have ne2 : (!decide (V.int (xs.length : Int) = V.int 2)) = false := by rw [hl, h2]; rfl
      obtain ⟨d0, d1, rfl⟩ : ∃ d0 d1, ds = [d0, d1] := by
        match ds, h2 with
        | [d0, d1], _ => exact ⟨d0, d1, rfl⟩
      obtain ⟨x0, x1, rfl⟩ : ∃ x0 x1, xs = [x0, x1] := by
        match xs, hl with
        | [x0, x1], _ => exact ⟨x0, x1, rfl⟩
      cases hxs with
      | cons p0 t =>
        cases t with
        | cons p1 t1 =>
          refine iteF' (by rw [ne2]; decide) ?_
          refine ⟨_, rfl, a, _, 0, _, rfl, rfl, ha, atI_nat (j := 0) rfl, ?_⟩
          refine ⟨x0, .ty "bool", _, _, _, rfl, .ty _, tyX p0, isBool p0, _, rfl, ?_⟩
          cases e0 : isBoolD d0 with
          | false =>
            refine iteT (no H (Same.refl _) ?_)
            rintro ⟨r, e, _, _⟩
            unfold rmD at e
            cases e
            cases e0
          | true =>
            refine iteF ?_
            obtain ⟨bb, rfl⟩ : ∃ bb, d0 = .bool bb := by
              cases d0 <;> first | exact ⟨_, rfl⟩ | cases e0
            refine ⟨_, rfl, a, _, 1, _, rfl, rfl, ha, atI_nat (j := 1) rfl, ?_⟩
            refine ⟨x1, .ty "tuple", _, _, _, rfl, .ty _, tyX p1, isTup p1, _, rfl, ?_⟩
            by_cases h1 : ∃ es, d1 = .tuple es
            · obtain ⟨es, rfl⟩ := h1
              refine iteF ?_
              obtain ⟨b, ys, rfl, hb, hys, hyl⟩ := dpTup2 p1
              have hbe := bdDs_mem hb2 (d := .tuple es) (by simp)
              obtain ⟨hbe1, hbe2⟩ := bdTup hbe
              refine ⟨_, rfl, a, _, 1, _, rfl, rfl, ha, atI_nat (j := 1) rfl, b, rfl, ⟨_, hb⟩, hR, ?_⟩
              refine gw_tup (K := K) (a := b) (xs := ys) (fun i H' => Same H H' ∧ ∀ d, d ∈ es.take i → StepP n d) ⟨.refl _, fun d h => (by simp at h)⟩ (fun i H' _ ⟨g, _⟩ => g.sqT hb) ?_ ?_
              · rintro i x H1 hx ⟨s1, hall⟩
                obtain ⟨e, he, pe⟩ := dpsAtV hys hx
                refine ⟨rfl, _, rfl, _, rfl, x, e, n, rfl, dpS s1 pe, bdDs_mem hbe2 (List.mem_of_getElem? he), s1 _ _ hT, fun b hb' => ⟨_, rfl, ?_⟩⟩
                cases eb : b with
                | true =>
                  rw [if_pos rfl]
                  refine ⟨s1, fun d hd => ?_⟩
                  rw [take_snoc he] at hd
                  rcases List.mem_append.mp hd with hd | hd
                  · exact hall d hd
                  · rw [List.mem_singleton.mp hd]
                    exact hb'.mp eb
                | false =>
                  rw [if_neg (by decide)]
                  refine ⟨_, rfl, iteT (no H1 s1 ?_)⟩
                  rintro ⟨r, e', h1, h2⟩
                  unfold rmD at e'
                  simp only [PyData.tuple.injEq, List.cons.injEq] at e'
                  obtain ⟨_, e2, _⟩ := e'
                  rw [e2] at he
                  have hm := List.mem_of_getElem? he
                  obtain ⟨p, hp, rfl⟩ := List.mem_map.mp hm
                  have := hb'.mpr ⟨p, rfl, h1 p hp⟩
                  rw [eb] at this
                  cases this
              · rintro H1 ⟨s1, hall⟩
                rw [hyl, List.take_length] at hall
                obtain ⟨L, rfl, hL⟩ := steps_of hall
                rw [List.length_map] at hbe1
                refine ⟨_, rfl, iteF ?_⟩
                refine ⟨_, rfl, a, _, 1, _, rfl, rfl, s1.sqT ha, atI_nat (j := 1) rfl, b, rfl, ⟨_, s1.sqT hb⟩, fun D nD => ?_⟩
                refine lc_tup (K := K) (a := b) (xs := ys) (fun i H' => Same H1 H' ∧ H' D = some (.lst (((L.take i).map (·.1)).map V.str))) ⟨.new nD, upd_same⟩ (fun i H' _ ⟨g, _⟩ => (s1.trans g).sqT hb) ?_ ?_
                · rintro i x H2 hx ⟨s2, hD⟩
                  obtain ⟨p, pa, hp, rfl, hpa⟩ := stsAt (dpsS (s1.trans s2) hys) hx
                  refine ⟨pa, _, rfl, hpa, rfl, _, _, rfl, _, _, rfl, rfl, rfl, ?_⟩
                  refine ⟨_, rfl, _, hD, szb (by simp only [List.length_map, List.length_take]; omega), s2.mut nD, ?_⟩
                  rw [upd_same, take_snoc hp, List.map_append, List.map_append]
                  rfl
                · rintro H2 ⟨s2, hD⟩
                  rw [hyl, List.length_map, List.take_length] at hD
                  have s12 := s1.trans s2
                  refine ⟨_, rfl, _, rfl, 1, rfl, D, _, rfl, sL hD, fun p np => ?_⟩
                  rw [show (1 : Int) = ((1 : Nat) : Int) from rfl, cut_drop1]
                  have sp : Same H2 (upd H2 p (.lst (((L.map (·.1)).map V.str).drop 1))) := .new np
                  have s13 := s12.trans sp
                  have hp : (upd H2 p (.lst (((L.map (·.1)).map V.str).drop 1))) p = some (.lst (((L.map (·.1)).map V.str).drop 1)) := upd_same
                  refine ⟨D, p, _, _, rfl, sL (sp _ _ hD), sL hp, s13 _ _ hR, ?_⟩
                  have fin : ∀ (b : Bool) H', Same H H' → (b = true ↔ (L.map (·.1)).Pairwise SL) → Q (.bl b) H' := fun b H' s h => k b H' (by
                    rw [h]
                    refine ⟨fun q => ⟨(bb, L), rfl, hL, q⟩, ?_⟩
                    rintro ⟨r, e', _, q⟩
                    unfold rmD at e'
                    simp only [PyData.tuple.injEq, List.cons.injEq] at e'
                    have e2 : L = r.2 := stD_inj (by simpa using e'.2.1)
                    rw [e2]
                    exact q) s
                  refine gw_zip (K := K) (a := D) (b := p) (xs := (L.map (·.1)).map V.str) (ys := ((L.map (·.1)).map V.str).drop 1) (fun i H' => Same (upd H2 p (.lst (((L.map (·.1)).map V.str).drop 1))) H' ∧ ∀ j, j < i → ∀ x y, (L.map (·.1))[j]? = some x → (L.map (·.1))[j + 1]? = some y → SL x y) ⟨.refl _, fun j h => (by cases h)⟩ (fun i H' ⟨g, _⟩ => ⟨sL (g _ _ (sp _ _ hD)), sL (g _ _ hp)⟩) ?_ ?_
                  · rintro i x y T2 H3 hx hy ⟨s3, hadj⟩ nT
                    rw [List.getElem?_map] at hx
                    rw [List.getElem?_drop, List.getElem?_map, Nat.add_comm] at hy
                    obtain ⟨t, ht, rfl⟩ := Option.map_eq_some_iff.mp hx
                    obtain ⟨u, hu, rfl⟩ := Option.map_eq_some_iff.mp hy
                    have sT2 : Same H3 (upd H3 T2 (.tup [.str t, .str u])) := .new nT
                    refine ⟨T2, _, rfl, sT upd_same, rfl, _, _, rfl, _, _, rfl, rfl, rfl, ?_⟩
                    refine ⟨_, rfl, _, rfl, t, u, rfl, rfl, _, rfl, ?_⟩
                    by_cases q : t.cps.toList < u.cps.toList
                    · rw [if_pos (decide_eq_true q)]
                      refine ⟨s3.trans sT2, fun j hj x y gx gy => ?_⟩
                      by_cases e : j = i
                      · subst e
                        have ex := Option.some.inj (ht.symm.trans gx)
                        have ey := Option.some.inj (hu.symm.trans gy)
                        rw [← ex, ← ey]
                        exact q
                      · exact hadj j (by omega) x y gx gy
                    · rw [if_neg (by rw [decide_eq_false q]; decide)]
                      refine fin false _ (s13.trans (s3.trans sT2)) ⟨fun e => (by cases e), fun h => absurd (up_adj h i ht hu) q⟩
                  · rintro i H3 hi ⟨s3, hadj⟩
                    refine fin true _ (s13.trans s3) ⟨fun _ => adj_up fun j x y hx hy => hadj j ?_ x y hx hy, fun _ => rfl⟩
                    have h1 := (List.getElem?_eq_some_iff.mp hy).1
                    simp only [List.length_map, List.length_drop] at hi h1
                    omega
            · have e : isTupD d1 = false := by cases d1 <;> first | rfl | exact absurd ⟨_, rfl⟩ h1
              rw [e]
              refine iteT (no H (Same.refl _) ?_)
              rintro ⟨r, e', _⟩
              unfold rmD at e'
              simp only [PyData.tuple.injEq, List.cons.injEq] at e'
              exact h1 ⟨_, e'.2.1⟩
    · have ne2 : (!decide (V.int (xs.length : Int) = V.int 2)) = true := by
        rw [decide_eq_false (fun e => h2 (by have := V.int.inj e; omega))]; rfl
      refine iteT' ne2 (no H (Same.refl _) ?_)
      rintro ⟨r, e, _⟩
      unfold rmD at e
      cases e
      exact h2 rfl
  · have e : isTupD d = false := by cases d <;> first | rfl | exact absurd ⟨_, rfl⟩ ht
    rw [e]
    refine iteT (no H (Same.refl _) ?_)
    rintro ⟨p, rfl, _⟩
    exact ht ⟨_, rfl⟩
end
end Sw
set_option Elab.async false
set_option maxRecDepth 100000
set_option maxHeartbeats 4000000
namespace Sw
open PySem L2 PySem.Spec PyProof.Rows
theorem dc_list {K : PySem.W.Frag} {a : Addr} {xs : List V} {g : TG} {tt : TT} {tk tv : TE} {vs : List Nat} {σ : L2.St} {H1 : Hp} {D : Addr} {Qd : Hp → Prop} (Pv : Nat → Hp → Prop) (h0 : Pv 0 (upd H1 D (.dK []))) (hl : ∀ i H, i ≤ xs.length → Pv i H → SqL K H a xs)
    (hs : ∀ i x H, xs[i]? = some x → Pv i H → g x (wipe σ vs) H fun σ2 H2 => wipe σ2 vs = wipe σ vs ∧ tt σ2 H2 fun b H3 => if b = true then tk σ2 H3 fun y H4 => tv σ2 H4 fun z H5 => ∃ kvs k, y = kV k ∧ H5 D = some (.dK kvs) ∧ kvs.length < sizeLine ∧ Pv (i + 1) (upd H5 D (.dK (putK kvs k z))) else Pv (i + 1) H3)
    (hd : ∀ H, Pv xs.length H → Qd H) : ∃ W : Nat → Nat → Hp → Prop, (∃ m, W 0 m (upd H1 D (.dK []))) ∧ ∀ i m H, W i m H →
      ((Itl K a).stop i H ∧ Qd H) ∨ ((Itl K a).go i H ∧ ∃ Nx : Hp → Prop, (∀ H', Nx H' → ∃ m', m' < m ∧ W (i + 1) m' H') ∧ ∀ x H', (Itl K a).yld i H x H' → g x (wipe σ vs) H' fun σ2 H2 => wipe σ2 vs = wipe σ vs ∧ tt σ2 H2 fun b H3 =>
        if b = true then tk σ2 H3 fun y H4 => tv σ2 H4 fun z H5 => ∃ kvs k, y = kV k ∧ H5 D = some (.dK kvs) ∧ kvs.length < sizeLine ∧ Nx (upd H5 D (.dK (putK kvs k z))) else Nx H3) := by
  refine ⟨fun i m H => i ≤ xs.length ∧ m = xs.length - i ∧ Pv i H, ⟨xs.length, Nat.zero_le _, by simp, h0⟩, ?_⟩
  rintro i m H ⟨hi, rfl, hp⟩
  have hL := hl i H hi hp
  by_cases e : i = xs.length
  · exact .inl ⟨⟨xs, hL, by omega⟩, hd H (by rw [← e]; exact hp)⟩
  · have hlt : i < xs.length := by omega
    refine .inr ⟨⟨xs, xs[i], hL, List.getElem?_eq_getElem hlt⟩, Pv (i + 1), fun H' hq => ⟨_, by omega, hlt, rfl, hq⟩, fun x H' hy => ?_⟩
    obtain ⟨rfl, hx⟩ := hy
    exact hs i x _ (hx xs hL) hp
section
variable {X : Cx} {i : Nat} {y : Str} {py pos spos : Pos} {kx vx tg iter : Expr} {ifs : List Expr} {scope : Scope} {own : List (Str × Nat)} {wi : TI} {g : TG} {tt : TT} {tk tv : TE}
theorem swD_true {l : Nat} {gs : List Comprehension} {env : Env} (h1 : env.scope.kind = .function) (h2 : env.scope.names.lookup y = some .local) (h3 : (py.line == pos.line) = true) (h4 : (scope.names.any fun (n, k) => n == y && (k == .local || k == .cell)) = false) :
    swapsWith (.DictComp kx vx gs scope pos) (some (.Name y py)) l env = pure true := by
  have g1 : env.kindOf y = some .local := h2
  have g2 : env.blockKind = .function := by
    unfold Env.blockKind
    rw [h1]
    rfl
  simp only [swapsWith, g1, g2, h4, Expr.pos, h3]
  rfl
theorem ps_setDc (calm : X.calm = true) (nd : X.N.Nodup) (at_ : X.N[i]? = some y) (loc : X.env.scope.names.lookup y = some .local) (sw : swapsWith (.DictComp kx vx [⟨tg, iter, ifs, 0⟩] scope pos) (some (.Name y py)) spos.line X.env = pure true)
    (pi : PI X tg iter wi) (ok : BlkOk X.N X.env.scope scope own) (pg : ∀ (s : Shared) (H : Hp) (C : Addr) (cl : List (Str × Addr)) (fp : List Addr), PG (X.blk s H scope (compEnvC scope cl C X.env) fp) tg g)
    (pt : ∀ (s : Shared) (H : Hp) (C : Addr) (cl : List (Str × Addr)) (fp : List Addr), PTs (X.blk s H scope (compEnvC scope cl C X.env) fp) ifs tt) (pk : ∀ (s : Shared) (H : Hp) (C : Addr) (cl : List (Str × Addr)) (fp : List Addr), PE (X.blk s H scope (compEnvC scope cl C X.env) fp) kx tk)
    (pv : ∀ (s : Shared) (H : Hp) (C : Addr) (cl : List (Str × Addr)) (fp : List Addr), PE (X.blk s H scope (compEnvC scope cl C X.env) fp) vx tv) (fold : ∀ x, foldedSetIterable iter X.env x = pure x := by intro _; rfl) :
    PS X (.Assign [.Name y py] (.DictComp kx vx [⟨tg, iter, ifs, 0⟩] scope pos) spos) (tAsg (tDc wi g tt tk tv (own.map Prod.snd)) (gName i)) := by
  refine ⟨fun pins s σ H D I q0 => ?_⟩
  rw [exec_Assign_Name_used _ _ _ _ sw]
  refine wpAny_bind (wpAny_standAt (wpAny_bind ?_))
  show wpAny _ X.A (do let _ ← comprehension (.DictComp kx vx [⟨tg, iter, ifs, 0⟩] scope pos) scope X.env (firstIterPos [⟨tg, iter, ifs, 0⟩] pos) newDict false (eval iter X.env) (some (assign (.Name y py) X.env))) _ _ s
  have q1 : tDc wi g tt tk tv (own.map Prod.snd) σ H (fun x H1 => gName i x σ H1 D.nx) := q0
  refine wpAny_bind (thn (dc_core (Qf := fun _ s' => SP X pins D .next s') calm nd I pi ok pg pt pk pv fold q1 fun L C s' m H' I' q hn fp => ?_) fun _ s' r => wpAny_pure (wpAny_pure r))
  show wpAny _ _ (assign (.Name y py) X.env (.ref L)) _ _ _
  refine wpAny_assign_Name (store_ok2 (v := V.ref L) I' nd at_ (.inl loc) rfl (fun s2 I2 ⟨a, sb, ha⟩ => ?_) (.inr loc))
  obtain ⟨p0, p1, p2, p3, p4, p5⟩ := fp
  have other : C ≠ a := ha.elim (fun z => by rw [z]; exact p1) fun z e => p4 y a z e.symm
  exact ⟨m, hn.sameBut sb other, fun _ sb3 => ⟨_, H', I2.turned (t' := s2.toks) (fun b o hb e => (sb3.2 b hb).trans e) p0 p1 p3 p4 p5, q⟩⟩
end
/-- what is come to, from first ones -/
structure Rc (E : Nat → List Nat) (n : Nat) (F S A : List Nat) : Prop where
  nd : S.Nodup
  lt : ∀ x, x ∈ S → x < n
  sub : ∀ x, x ∈ A → x ∈ S
  frm : ∀ x, x ∈ F → x ∈ S
  r : ∀ x, x ∈ S → ∃ f, f ∈ F ∧ RT E f x
  cl : ∀ x, x ∈ S → x ∉ A → ∀ y, y ∈ E x → y ∈ S
theorem Rc.start {E : Nat → List Nat} {n : Nat} {F : List Nat} (hF : F.Nodup) (hl : ∀ x, x ∈ F → x < n) : Rc E n F F F :=
  ⟨hF, hl, fun _ h => h, fun _ h => h, fun x h => ⟨x, h, .refl _⟩, fun x h g => absurd h g⟩
theorem Rc.turn {E : Nat → List Nat} {n : Nat} {F S A : List Nat} {x : Nat} (h : Rc E n F S (A ++ [x])) (hE : ∀ y, y ∈ E x → y < n) : Rc E n F (S ++ adds [] S (E x)) (A ++ adds [] S (E x)) := by
  have hx : x ∈ S := h.sub x (by simp)
  refine ⟨adds_nd h.nd, fun y hy => ?_, fun y hy => ?_, fun y hy => List.mem_append_left _ (h.frm y hy), fun y hy => ?_, fun y hy ha z hz => ?_⟩
  · rcases List.mem_append.mp hy with hy | hy
    · exact h.lt y hy
    · exact hE y (adds_mem hy).1
  · rcases List.mem_append.mp hy with hy | hy
    · exact List.mem_append_left _ (h.sub y (List.mem_append_left _ hy))
    · exact List.mem_append_right _ hy
  · rcases List.mem_append.mp hy with hy | hy
    · exact h.r y hy
    · obtain ⟨f, hf, r⟩ := h.r x hx
      exact ⟨f, hf, r.snoc (adds_mem hy).1⟩
  · have hyS : y ∈ S := by
      rcases List.mem_append.mp hy with hy | hy
      · exact hy
      · exact absurd (List.mem_append_right _ hy) ha
    by_cases e : y = x
    · subst e
      rcases adds_all (P0 := []) (T := S) hz with q | q
      · cases q
      · exact q
    · exact List.mem_append_left _ (h.cl y hyS (fun q => by
        rcases List.mem_append.mp q with q | q
        · exact ha (List.mem_append_left _ q)
        · exact e (List.mem_singleton.mp q)) z hz)
theorem Rc.all {E : Nat → List Nat} {n : Nat} {F S : List Nat} (h : Rc E n F S []) : S.length = n ↔ ∀ k, k < n → ∃ f, f ∈ F ∧ RT E f k := by
  have hle : S.length ≤ n := nodup_le h.nd h.lt
  constructor
  · intro e k hk
    refine h.r k ?_
    by_cases q : k ∈ S
    · exact q
    · have : (k :: S).length ≤ n := nodup_le (List.nodup_cons.mpr ⟨q, h.nd⟩) fun x hx => by
        rcases List.mem_cons.mp hx with rfl | hx
        · exact hk
        · exact h.lt x hx
      rw [List.length_cons] at this
      omega
  · intro g
    have hin : ∀ k, k ∈ List.range n → k ∈ S := fun k hk => by
      obtain ⟨f, hf, r⟩ := g k (List.mem_range.mp hk)
      exact RT.closed (p := (· ∈ S)) (fun a b ha hb => h.cl a ha (by simp) b hb) r (h.frm f hf)
    have := nd_le List.nodup_range hin
    rw [List.length_range] at this
    omega
section
variable {P : Program} {w : World} {K : PySem.W.Frag} {mg : Str → Option Value} {base : Heap}
abbrev n_all_come_to : List Str := ["onward", "first", "seen", "number", "ahead"]
theorem sc_all_come_to : FnScope n_all_come_to ["onward", "first"] (defScope s_all_come_to) := ⟨rfl, rfl, rfl, by decide +kernel, rfl, by decide +kernel, by decide +kernel⟩
def EB (B : List (List Nat)) (x : Nat) : List Nat := B.getD x []
def spAllCome : Sp := fun vs H Q _ => ∃ (ol fl : Addr) (as : List Addr) (B : List (List Nat)) (F : List Nat), vs = [.ref ol, .ref fl] ∧ H ol = some (.lst (as.map V.ref)) ∧ Paired (fun a c => H a = some (.lst (natV c))) as B ∧ (∀ c, c ∈ B → ∀ y, y ∈ c → y < B.length) ∧ B.length ≤ 1000 ∧ H fl = some (.lst (natV F)) ∧ F.Nodup ∧ (∀ x, x ∈ F → x < B.length) ∧
  ∀ (b : Bool) H', (b = true ↔ ∀ k, k < B.length → ∃ f, f ∈ F ∧ RT (EB B) f k) → Same H H' → Q (.bl b) H'
theorem ok_all_come_to (F : DefAt K mg "_all_come_to" s_all_come_to ["onward", "first"]) (b_len : mg "len" = none) (b_list : mg "list" = none) : DefOk P w K mg base "_all_come_to" 1 ["onward", "first"] spAllCome := by
  refine F.ok sc_all_come_to (fun vs H Q E h => ?_) (fun f cdv A outer s H vs Q E hr h => ?_)
  · obtain ⟨_, _, _, _, _, rfl, _⟩ := h
    rfl
  obtain ⟨ol, fl, as, B, Fs, rfl, hol, hB, hBm, hBl, hfl, hFn, hFl, k⟩ := h
  have hu := hu_of hr
  have hal := pairedLen hB
  refine ⟨_, (pss_cons (ps_setDc (i := 2) (own := [("number", 3)]) (g := gName 3) rfl sc_all_come_to.nd rfl rfl (swD_true rfl rfl rfl (by decide +kernel)) (pi_list (pv 1)) (blkOk_by (own := [("number", 3)]) (N := n_all_come_to) (sc := defScope s_all_come_to) (by decide +kernel)) (fun _ _ _ _ _ => (pg_name (i := 3) sc_all_come_to.nd rfl (Or.inl rfl))) (fun _ _ _ _ _ => pts_nil) (fun _ _ _ _ _ => pv 3) (fun _ _ _ _ _ => pe_bl))
    (pss_cons (ps_set (i := 4) sc_all_come_to.nd rfl (Or.inl rfl) (pe_callTy call_list_of (by rfl) b_list (by decide +kernel) (pa_cons (pv 1) pa_nil)))
    (pss_cons (ps_while PassesOwn.never (pt_truth (pv 4) (by intro _; rfl)) (pss_one (ps_for PassesOwn.never rfl (pi_list (pe_ix ix_list (pv 0) (pe_bm0 PySem.F.plainAttrs_list PySem.F.slot_list_pop PySem.F.type_list_pop mt_pop (pv 4)) (fun _ _ => rfl))) (pg_name (i := 3) sc_all_come_to.nd rfl (Or.inl rfl))
      (pss_one (ps_if (pt_cmp (pc_dnotin hu (pv 3) (pv 2)) rfl) (pss_cons (ps_dput hu (pv 2) (pv 3) pe_bl rfl)
    (pss_one (ps_expr (pe_bm PySem.F.plainAttrs_list PySem.F.slot_list_append PySem.F.type_list_append mt_append (pv 4) (pa_cons (pv 3) pa_nil))))) pss_nil)))))
    (pss_one (ps_ret (pe_cmpR op_eq (pe_callB call_lenD (by rfl) b_len PySem.boot_len (pa_cons (pv 2) pa_nil)) (pe_callB call_len_seq (by rfl) b_len PySem.boot_len (pa_cons (pv 0) pa_nil)) (nomark _))))))), ?_⟩
  refine ⟨_, rfl, fl, rfl, ⟨_, sL hfl⟩, fun pd npd => ?_⟩
  refine dc_list (K := K) (a := fl) (xs := natV Fs) (fun j H' => Same H H' ∧ H' pd = some (.dK (pdK (Fs.take j)))) ⟨.new npd, upd_same⟩ (fun j H' _ ⟨g, _⟩ => sL (g _ _ hfl)) ?_ ?_
  · rintro j v H1 hv ⟨s1, hpd⟩
    obtain ⟨x, hx, rfl⟩ := ints_get hv
    have hFle : Fs.length ≤ 1000 := Nat.le_trans (nodup_le hFn hFl) hBl
    refine ⟨rfl, _, rfl, _, .inl (x : Int), rfl, hpd, szb (by rw [pdK_len, List.length_take]; omega), s1.mut npd, ?_⟩
    rw [upd_same, pdK_put, take_snoc hx]
    intro hm
    rw [← List.take_append_drop j Fs, List.drop_eq_getElem_cons (List.getElem?_eq_some_iff.mp hx).1] at hFn
    rw [(List.getElem?_eq_some_iff.mp hx).2] at hFn
    exact (List.nodup_append.mp hFn).2.2 x hm x (by simp) rfl
  rintro H1 ⟨s1, hpd⟩
  rw [ints_len, List.take_length] at hpd
  refine ⟨_, rfl, fl, _, rfl, .inl (sL (s1 _ _ hfl)), fun al nal => ?_⟩
  have npa : al ≠ pd := (ne_of_none hpd nal).symm
  have nalH : H al = none := by
    cases e : H al with
    | none => rfl
    | some o => rw [s1 _ _ e] at nal; cases nal
  have s2 : Same H1 (upd H1 al (.lst (natV Fs))) := .new nal
  have hFle : Fs.length ≤ 1000 := Nat.le_trans (nodup_le hFn hFl) hBl
  refine ⟨fun m σ H' => ∃ (S A : List Nat) (o3 : Option V), σ = [some (.ref ol), some (.ref fl), some (.ref pd), o3, some (.ref al)] ∧ m = 2 * (B.length - S.length) + A.length ∧ Same H H' ∧ H' pd = some (.dK (pdK S)) ∧ H' al = some (.lst (natV A)) ∧ Rc (EB B) B.length Fs S A ∧ A.length ≤ S.length,
    ⟨_, Fs, Fs, none, rfl, rfl, s1.trans s2, s2 _ _ hpd, upd_same, .start hFn hFl, Nat.le_refl _⟩, ?_⟩
  rintro m σ H3 ⟨S, A, o3, rfl, rfl, s3, hpd3, hal3, hR, hAS⟩
  refine ⟨_, rfl, _, .inl ⟨_, sL hal3, rfl⟩, ?_⟩
  have hSl : S.length ≤ B.length := nodup_le hR.nd hR.lt
  rcases List.eq_nil_or_concat A with rfl | ⟨A', x, rfl⟩
  · refine iteF ⟨_, rfl, pd, _, rfl, hpd3, ?_⟩
    rw [pdK_len]
    refine ⟨_, rfl, ol, _, rfl, .inl (sL (s3 _ _ hol)), rfl, ?_⟩
    refine k _ H3 ?_ s3
    rw [← hR.all, List.length_map, hal]
    constructor
    · intro q
      have := V.int.inj (of_decide_eq_true q)
      omega
    · intro q
      rw [q]
      exact decide_eq_true rfl
  · rw [List.concat_eq_append] at hal3 hR hAS ⊢
    rw [List.length_append, List.length_singleton] at hAS
    refine iteT' (by rw [natV_snoc]; simp) ?_
    have hxS : x ∈ S := hR.sub x (by simp)
    have hxn := hR.lt x hxS
    obtain ⟨ys, hys⟩ : ∃ ys, B[x]? = some ys := ⟨_, List.getElem?_eq_getElem hxn⟩
    obtain ⟨ax, hax, hya⟩ := pairedAtL' hB hys
    have eE : EB B x = ys := by unfold EB; rw [List.getD_eq_getElem?_getD, hys]; rfl
    have hym : ∀ y, y ∈ ys → y < B.length := hBm ys (List.mem_of_getElem? hys)
    have nax : ax ≠ al := ne_of_none hya nalH
    have nol : ol ≠ al := ne_of_none hol nalH
    have addlt : ∀ j, (S ++ adds [] S (ys.take j)).length ≤ B.length := fun j => nodup_le (adds_nd hR.nd) fun y hy => by
      rcases List.mem_append.mp hy with hy | hy
      · exact hR.lt y hy
      · exact hym y (List.mem_of_mem_take (adds_mem hy).1)
    refine ⟨fun σ' H' => ∃ (o3 : Option V), σ' = [some (.ref ol), some (.ref fl), some (.ref pd), o3, some (.ref al)] ∧ Same H H' ∧ H' pd = some (.dK (pdK (S ++ adds [] S ys))) ∧ H' al = some (.lst (natV (A' ++ adds [] S ys))), ?_, ?_⟩
    · rintro σ' H' ⟨o3, rfl, g1, g2, g3⟩
      have hR' : Rc (EB B) B.length Fs (S ++ adds [] S ys) (A' ++ adds [] S ys) := by
        have := hR.turn (by rw [eE]; exact hym)
        rw [eE] at this
        exact this
      have hl' := nodup_le hR'.nd hR'.lt
      rw [List.length_append] at hl'
      refine ⟨_, ?_, S ++ adds [] S ys, A' ++ adds [] S ys, o3, rfl, rfl, g1, g2, g3, hR', by rw [List.length_append, List.length_append]; omega⟩
      rw [List.length_append, List.length_append, List.length_append, List.length_singleton]
      omega
    refine ⟨_, rfl, _, rfl, .inl ⟨rfl, _, .inl (.inl hal3)⟩, al, _, .int (x : Int), rfl, rfl, hal3, by rw [natV_snoc]; simp, ?_⟩
    rw [natV_snoc, List.dropLast_concat]
    have s4 : Same H (upd H3 al (.lst (natV A'))) := s3.mut nalH
    have hpd4 : (upd H3 al (.lst (natV A'))) pd = some (.dK (pdK S)) := by rw [upd_ne npa.symm]; exact hpd3
    have hal4 : (upd H3 al (.lst (natV A'))) al = some (.lst (natV A')) := upd_same
    generalize upd H3 al (.lst (natV A')) = H4 at s4 hpd4 hal4 ⊢
    refine ⟨ol, _, _, _, rfl, rfl, sL (s4 _ _ hol), atI_nat (by rw [List.getElem?_map, hax]; rfl), ax, rfl, ⟨_, sL (s4 _ _ hya)⟩, ?_⟩
    refine for_list (K := K) (a := ax) (xs := natV ys) (fun j σ H' => ∃ (o3 : Option V), σ = [some (.ref ol), some (.ref fl), some (.ref pd), o3, some (.ref al)] ∧ Same H H' ∧ H' pd = some (.dK (pdK (S ++ adds [] S (ys.take j)))) ∧ H' al = some (.lst (natV (A' ++ adds [] S (ys.take j)))))
      ⟨o3, rfl, s4, by simpa [adds] using hpd4, by simpa [adds] using hal4⟩ (fun j σ H' _ ⟨_, _, g, _⟩ => sL (g _ _ hya)) ?_ ?_
    · rintro j v σ H5 hv ⟨o3, rfl, s5, hpd5, hal5⟩
      obtain ⟨y, hy, rfl⟩ := ints_get hv
      have hal' := addlt j
      refine ⟨_, rfl, _, rfl, pd, _, rfl, DGet.k (k := .inl (y : Int)) hpd5, _, rfl, ?_⟩
      rw [pdK_get]
      have enext : adds [] S (ys.take (j + 1)) = if y ∈ S ++ adds [] S (ys.take j) then adds [] S (ys.take j) else adds [] S (ys.take j) ++ [y] := by
        rw [take_snoc hy, adds_cons]
        by_cases q : y ∈ S ++ adds [] S (ys.take j)
        · rw [if_pos (.inr q), if_pos q]
        · rw [if_neg (fun z => z.elim (fun q' => by cases q') q), if_neg q]
      refine ite2 (fun hn => ?_) (fun hy' => ?_)
      · have hn' : y ∉ S ++ adds [] S (ys.take j) := by simpa using hn
        rw [if_neg hn'] at enext
        rw [enext]
        refine ⟨_, rfl, _, rfl, pd, _, rfl, DPut.k (k := .inl (y : Int)) hpd5 (szb (by rw [pdK_len]; omega)), ?_⟩
        rw [pdK_put hn']
        have s6 : Same H (upd H5 pd (.dK (pdK (S ++ adds [] S (ys.take j) ++ [y])))) := s5.mut npd
        have hpd6 : (upd H5 pd (.dK (pdK (S ++ adds [] S (ys.take j) ++ [y])))) pd = some (.dK (pdK (S ++ adds [] S (ys.take j) ++ [y]))) := upd_same
        have hal6 : (upd H5 pd (.dK (pdK (S ++ adds [] S (ys.take j) ++ [y])))) al = some (.lst (natV (A' ++ adds [] S (ys.take j)))) := by rw [upd_ne npa]; exact hal5
        generalize upd H5 pd (.dK (pdK (S ++ adds [] S (ys.take j) ++ [y]))) = H6 at s6 hpd6 hal6 ⊢
        rw [List.length_append] at hal'
        refine ⟨_, rfl, .inl ⟨rfl, _, .inl (.inl hal6)⟩, _, rfl, al, _, _, rfl, rfl, hal6, szb (by rw [ints_len, List.length_append]; omega), ?_⟩
        refine ⟨_, rfl, s6.mut nalH, ?_, ?_⟩
        · rw [upd_ne npa.symm, hpd6, List.append_assoc]
        · rw [upd_same, ← natV_snoc, List.append_assoc]
      · have hy2 : y ∈ S ++ adds [] S (ys.take j) := Decidable.of_not_not fun q => hy' (by rw [decide_eq_false q]; rfl)
        rw [if_pos hy2] at enext
        rw [enext]
        exact ⟨_, rfl, s5, hpd5, hal5⟩
    · rintro σ H5 ⟨o3, rfl, s5, hpd5, hal5⟩
      rw [ints_len, List.take_length] at hpd5 hal5
      exact ⟨_, rfl, s5, hpd5, hal5⟩
end
end Sw
set_option Elab.async false
set_option maxRecDepth 100000
set_option maxHeartbeats 8000000
namespace Sw
open PySem L2 PySem.Spec PyProof.Rows
theorem pairedMapM {α β : Type} {F G : α → β → Prop} : ∀ {l₁ : List α} {l₂ : List β}, Paired F l₁ l₂ → (∀ a b, a ∈ l₁ → F a b → G a b) → Paired G l₁ l₂
  | _, _, .nil, _ => .nil
  | _, _, .cons r t, f => .cons (f _ _ List.mem_cons_self r) (pairedMapM t fun a b h => f a b (List.mem_cons_of_mem _ h))
theorem pairedSet {H : Hp} {a : Addr} {c' : List Nat} : ∀ {as : List Addr} {B : List (List Nat)} {x : Nat}, Paired (fun b c => H b = some (.lst (natV c))) as B → as.Nodup → as[x]? = some a → Paired (fun b c => (upd H a (.lst (natV c'))) b = some (.lst (natV c))) as (B.set x c')
  | _, _, _, .nil, _, h => by simp at h
  | b :: as, c :: B, 0, .cons r t, nd, h => by
    simp at h
    subst h
    rw [List.nodup_cons] at nd
    refine .cons upd_same ?_
    have : ∀ {as : List Addr} {B : List (List Nat)}, b ∉ as → Paired (fun b c => H b = some (.lst (natV c))) as B → Paired (fun b' c => (upd H b (.lst (natV c'))) b' = some (.lst (natV c))) as B := by
      intro as B hb h
      induction h with
      | nil => exact .nil
      | cons r t ih =>
        rename_i a' c'' as' B'
        exact .cons (by rw [upd_ne (fun e => hb (by rw [e]; simp))]; exact r) (ih fun q => hb (List.mem_cons_of_mem _ q))
    exact this nd.1 t
  | b :: as, c :: B, x + 1, .cons r t, nd, h => by
    simp at h
    rw [List.nodup_cons] at nd
    exact .cons (by rw [upd_ne (fun e => nd.1 (by rw [e]; exact List.mem_of_getElem? h))]; exact r) (pairedSet t nd.2 h)
theorem lc_enumT {K : PySem.W.Frag} {a : Addr} {xs : List V} {g : TG} {tt : TT} {te : TE} {vs : List Nat} {σ : L2.St} {H1 : Hp} {D : Addr} {Qd : Hp → Prop} (Pv : Nat → Hp → Prop) (h0 : Pv 0 (upd H1 D (.lst []))) (hl : ∀ i H, i ≤ xs.length → Pv i H → SqT K H a xs)
    (hs : ∀ i x T H, xs[i]? = some x → Pv i H → H T = none → g (.ref T) (wipe σ vs) (upd H T (.tup [.int (i : Nat), x])) fun σ2 H2 => wipe σ2 vs = wipe σ vs ∧ tt σ2 H2 fun b H3 => if b = true then te σ2 H3 fun y H4 => ∃ acc, H4 D = some (.lst acc) ∧ acc.length < sizeLine ∧ Pv (i + 1) (upd H4 D (.lst (acc ++ [y]))) else Pv (i + 1) H3)
    (hd : ∀ H, Pv xs.length H → Qd H) : ∃ W : Nat → Nat → Hp → Prop, (∃ m, W 0 m (upd H1 D (.lst []))) ∧ ∀ i m H, W i m H →
      ((IteT K a).stop i H ∧ Qd H) ∨ ((IteT K a).go i H ∧ ∃ Nx : Hp → Prop, (∀ H', Nx H' → ∃ m', m' < m ∧ W (i + 1) m' H') ∧ ∀ x H', (IteT K a).yld i H x H' → g x (wipe σ vs) H' fun σ2 H2 => wipe σ2 vs = wipe σ vs ∧ tt σ2 H2 fun b H3 =>
        if b = true then te σ2 H3 fun y H4 => ∃ acc, H4 D = some (.lst acc) ∧ acc.length < sizeLine ∧ Nx (upd H4 D (.lst (acc ++ [y]))) else Nx H3) := by
  refine ⟨fun i m H => m = xs.length - i ∧ i ≤ xs.length ∧ Pv i H, ⟨xs.length, by simp, Nat.zero_le _, h0⟩, ?_⟩
  rintro i m H ⟨rfl, hi, hp⟩
  have hL := hl i H hi hp
  by_cases e : i = xs.length
  · exact .inl ⟨⟨xs, hL, by omega⟩, hd H (by rw [← e]; exact hp)⟩
  · have hlt : i < xs.length := by omega
    refine .inr ⟨⟨xs, xs[i], hL, List.getElem?_eq_getElem hlt⟩, Pv (i + 1), fun H' hq => ⟨_, by omega, rfl, hlt, hq⟩, fun x H' hy => ?_⟩
    obtain ⟨T, y, rfl, hT, rfl, hx⟩ := hy
    exact hs i y T H (hx xs hL) hp hT
theorem filter_snoc {α : Type} (f : α → Bool) (l : List α) (p : α) : (l ++ [p]).filter f = l.filter f ++ (if f p = true then [p] else []) := by
  rw [List.filter_append]
  congr 1
  by_cases q : f p = true
  · rw [if_pos q, List.filter_cons_of_pos q]; rfl
  · rw [if_neg q, List.filter_cons_of_neg q]; rfl
/-! ### machines -/
structure IsM (M : List Rm) : Prop where
  pos : 0 < M.length
  le : M.length ≤ 200
  rm : ∀ r, r ∈ M → (∀ p, p ∈ r.2 → signS p.1 = true ∧ p.2 < M.length) ∧ Inc r.2
  few : (nubL (sgs M)).length ≤ 6
  from0 : ∀ k, k < M.length → RT (Eg M) 0 k
  toEnd : ∀ k, k < M.length → ∃ e, e < M.length ∧ endsOf M e = true ∧ RT (Eg M) k e
def IsMach (d : PyData) : Prop := ∃ M, d = maD M ∧ IsM M
theorem rooms_of {n : Nat} : ∀ {ds : List PyData}, (∀ d, d ∈ ds → RoomP n d) → ∃ M : List Rm, ds = M.map rmD ∧ ∀ r, r ∈ M → (∀ p, p ∈ r.2 → signS p.1 = true ∧ p.2 < n) ∧ Inc r.2
  | [], _ => ⟨[], rfl, fun r h => by cases h⟩
  | d :: ds, h => by
    obtain ⟨r, e, h1, h2⟩ := h d (by simp)
    obtain ⟨M, e2, h3⟩ := rooms_of fun d hd => h d (List.mem_cons_of_mem _ hd)
    refine ⟨r :: M, by rw [List.map_cons, e, e2], fun q hq => ?_⟩
    rcases List.mem_cons.mp hq with rfl | hq
    · exact ⟨h1, h2⟩
    · exact h3 q hq
theorem rmD_inj : ∀ {M N : List Rm}, M.map rmD = N.map rmD → M = N
  | [], [], _ => rfl
  | [], _ :: _, h => by cases h
  | _ :: _, [], h => by cases h
  | (a, b) :: M, (c, d) :: N, h => by
    rw [List.map_cons, List.map_cons] at h
    unfold rmD at h
    simp only [List.cons.injEq, PyData.tuple.injEq, PyData.bool.injEq] at h
    obtain ⟨⟨h1, h2, _⟩, h3⟩ := h
    have e2 : b = d := stD_inj h2
    rw [rmD_inj (M := M) (N := N) h3, h1, e2]
theorem maD_inj {M N : List Rm} (h : maD M = maD N) : M = N := by
  unfold maD at h
  exact rmD_inj (PyData.tuple.inj h)
theorem nub_mono {L L' : List Str} (h : ∀ t, t ∈ L → t ∈ L') : (nubL L).length ≤ (nubL L').length := nd_le (nubL_nd _) fun x hx => nubL_mem.mpr (h x (nubL_mem.mp hx))
theorem sgs_take {M : List Rm} {i : Nat} {t : Str} (h : t ∈ sgs (M.take i)) : t ∈ sgs M := by
  unfold sgs at h ⊢
  obtain ⟨l, hl, ht⟩ := List.mem_flatten.mp h
  obtain ⟨r, hr, rfl⟩ := List.mem_map.mp hl
  exact List.mem_flatten.mpr ⟨_, List.mem_map.mpr ⟨r, List.mem_of_mem_take hr, rfl⟩, ht⟩
end Sw
set_option Elab.async false
set_option maxRecDepth 100000
set_option maxHeartbeats 8000000
namespace Sw
open PySem L2 PySem.Spec PyProof.Rows
theorem EB_on (M : List Rm) : EB (M.map fun r => r.2.map (·.2)) = Eg M := by
  funext x
  unfold EB Eg stepsOf
  rw [List.getD_eq_getElem?_getD, List.getD_eq_getElem?_getD, List.getElem?_map]
  cases M[x]? <;> rfl
theorem rt_back {M : List Rm} {B : List (List Nat)} (hB : ∀ (x : Nat) (ys : List Nat), B[x]? = some ys → ∀ y, y ∈ ys ↔ y < M.length ∧ x ∈ Eg M y) {a b : Nat} (h : RT (EB B) a b) : RT (Eg M) b a := by
  induction h with
  | refl a => exact .refl a
  | step e _ ih =>
    rename_i a b c _
    refine ih.trans (.one ?_)
    unfold EB at e
    rw [List.getD_eq_getElem?_getD] at e
    cases q : B[a]? with
    | none => rw [q] at e; cases e
    | some ys =>
      rw [q] at e
      exact ((hB a ys q b).mp e).2
theorem rt_forth {M : List Rm} {B : List (List Nat)} (hl : B.length = M.length) (hE : ∀ k, k < M.length → ∀ j, j ∈ Eg M k → j < M.length) (hB : ∀ (x : Nat) (ys : List Nat), B[x]? = some ys → ∀ y, y ∈ ys ↔ y < M.length ∧ x ∈ Eg M y) {a b : Nat} (h : RT (Eg M) b a) : b < M.length → RT (EB B) a b := by
  induction h with
  | refl a => exact fun _ => .refl a
  | step e _ ih =>
    rename_i a b c _
    intro ha
    have hb := hE a ha b e
    refine (ih hb).snoc ?_
    have q : B[b]? = some (EB B b) := by
      unfold EB
      rw [List.getD_eq_getElem?_getD, List.getElem?_eq_getElem (by omega)]
      rfl
    exact (hB b _ q a).mpr ⟨ha, e⟩
section
variable {P : Program} {w : World} {K : PySem.W.Frag} {mg : Str → Option Value} {base : Heap}
def rLenX (K : PySem.W.Frag) : List V → Hp → VK → Prop := fun xs H Q => ∃ p ys, xs = [V.ref p] ∧ (SqL K H p ys ∨ SqT K H p ys) ∧ Q (V.int ys.length) H
abbrev n_is_machine : List Str := ["thing", "room", "_", "steps", "sign", "onward", "behind", "back", "number", "led_to", "ending", "ends"]
theorem sc_is_machine : FnScope n_is_machine ["thing"] (defScope s_is_machine) := ⟨rfl, rfl, rfl, by decide +kernel, rfl, by decide +kernel, by decide +kernel⟩
abbrev lc2_onward : Scope := { kind := .function, names := [(".0", .local), ("_", .local), ("steps", .local)], isGenerator := false, isCoroutine := false }
def spIsMach (K : PySem.W.Frag) (T R S : Addr) : Sp := fun vs H Q _ => ∃ (v : V) (d : PyData), vs = [v] ∧ Dp K H v d ∧ bdD d = true ∧ (∀ M, d = maD M → (nubL (sgs M)).length ≤ 4000) ∧ H T = some (TabE T) ∧ H R = some (TabE R) ∧ H S = some (TabE S) ∧ ∀ (b : Bool) H', (b = true ↔ IsMach d) → Same H H' → Q (.bl b) H'
theorem ok_is_machine {T R S : Addr} (F : DefTab K mg base "is_machine" s_is_machine ["thing"] S) (d__is_room : DefOk P w K mg base "_is_room" 5 ["thing", "many"] (spRoom K T R)) (d__all_come_to : DefOk P w K mg base "_all_come_to" 1 ["onward", "first"] spAllCome)
    (b_all : mg "all" = none) (b_enumerate : mg "enumerate" = none) (b_isinstance : mg "isinstance" = none) (b_tuple : mg "tuple" = none) (b_len : mg "len" = none) (g_mr : ∃ t, mg "_MOST_ROOMS" = some (.int 200 t)) (g_ms : ∃ t, mg "_MOST_SIGNS" = some (.int 6 t)) :
    DefOk P w K mg base "is_machine" 7 ["thing"] (spIsMach K T R S) := by
  obtain ⟨tmr, g_mr⟩ := g_mr
  obtain ⟨tms, g_ms⟩ := g_ms
  refine F.ok sc_is_machine (fun vs H Q E h => ?_) (fun f c A outer s H vs Q E TB hr h => ?_)
  · obtain ⟨_, _, rfl, _⟩ := h
    rfl
  obtain ⟨v, d, rfl, hd, hbd, hfew, hT, hR, hS, k⟩ := h
  refine ⟨_, (pss_cons (ps_if (PW.pt (pw_or (pt_not (pt_val (pe_callB call_isi (by rfl) b_isinstance (by decide +kernel) (pa_cons (pv 0) (pa_cons (pe_bltn (v := .ty "tuple") (by rfl) b_tuple (by decide +kernel) rfl) pa_nil))))) (pw_or1 (pt_not (pt_chain op_le op_le pe_int (pe_callB call_len_seq (by rfl) b_len PySem.boot_len (pa_cons (pv 0) pa_nil)) (pe_glob (v := .int 200) rfl g_mr ⟨_, rfl⟩)))))) (pss_one (ps_ret pe_bl)) pss_nil)
    (pss_cons (ps_if (pt_not (pt_val (pe_allG rfl hr rfl b_all sc_is_machine.nd TB rfl (blkOk_by (own := [("room", 1)]) (N := n_is_machine) (sc := defScope s_is_machine) (by decide +kernel)) ⟨rfl, by decide +kernel, by rfl⟩ (pi_tup (pv 0)) (fun _ _ _ _ _ _ _ _ => (pg_name (i := 1) sc_is_machine.nd rfl (Or.inl rfl))) (fun _ _ _ _ _ _ _ hr' => (pe_callD d__is_room hr' rfl (pa_cons (pv 1) (pa_cons (pe_callB (r := rLenX K) call_len_seq (by rfl) b_len PySem.boot_len (pa_cons (pv 0) pa_nil)) pa_nil))))))) (pss_one (ps_ret pe_bl)) pss_nil)
    (pss_cons (ps_if (pt_cmpR op_gt (pe_callB cr_lenSk (by rfl) b_len PySem.boot_len (pa_cons (pe_set2 (own := [("_", 2), ("steps", 3), ("sign", 4)]) (wi1 := iTup K (tVar 3)) (vs1 := [4, 2]) (g := gTup K 2 (gCons (gName 2) (gCons (gName 3) gNil))) (g1 := gTup K 2 (gCons (gName 4) (gCons (gName 2) gNil))) rfl sc_is_machine.nd (pi_tup (pv 0)) (blkOk_by (own := [("_", 2), ("steps", 3), ("sign", 4)]) (N := n_is_machine) (sc := defScope s_is_machine) (by decide +kernel)) (by decide)
      (fun _ _ _ _ _ => (pg_tup rfl (pgs_cons (pg_name (i := 2) sc_is_machine.nd rfl (Or.inl rfl)) (pgs_cons (pg_name (i := 3) sc_is_machine.nd rfl (Or.inl rfl)) pgs_nil)))) (fun _ _ _ _ _ => pts_nil) (fun _ _ _ _ _ => pi_tup (pv 3)) (fun _ _ _ _ _ => (pg_tup rfl (pgs_cons (pg_name (i := 4) sc_is_machine.nd rfl (Or.inl rfl)) (pgs_cons (pg_name (i := 2) sc_is_machine.nd rfl (Or.inl rfl)) pgs_nil)))) (fun _ _ _ _ _ => pts_nil) (fun _ _ _ _ _ => (pv 4))) pa_nil)) (pe_glob (v := .int 6) rfl g_ms ⟨_, rfl⟩) (nomark _)) (pss_one (ps_ret pe_bl)) pss_nil)
    (pss_cons (ps_setLc (i := 5) (own := [("_", 2), ("steps", 3)]) (g := gTup K 2 (gCons (gName 2) (gCons (gName 3) gNil))) rfl sc_is_machine.nd rfl rfl (sw_true rfl rfl rfl (by decide +kernel)) (pi_tup (pv 0)) (blkOk_by (own := [("_", 2), ("steps", 3)]) (N := n_is_machine) (sc := defScope s_is_machine) (by decide +kernel)) (fun _ _ _ _ _ => (pg_tup rfl (pgs_cons (pg_name (i := 2) sc_is_machine.nd rfl (Or.inl rfl)) (pgs_cons (pg_name (i := 3) sc_is_machine.nd rfl (Or.inl rfl)) pgs_nil)))) (fun _ _ _ _ _ => pts_nil) (fun _ _ _ _ _ => (pe_lc (wi := iTup K (tVar 3)) (own := [("_", 2), ("behind", 6)]) (g := gTup K 2 (gCons (gName 2) (gCons (gName 6) gNil))) rfl sc_is_machine.nd (pi_tup (pv 3)) (blkOk_by (own := [("_", 2), ("behind", 6)]) (N := n_is_machine) (sc := lc2_onward) (by decide +kernel)) (fun _ _ _ _ _ => (pg_tup rfl (pgs_cons (pg_name (i := 2) sc_is_machine.nd rfl (Or.inl rfl)) (pgs_cons (pg_name (i := 6) sc_is_machine.nd rfl (Or.inl rfl)) pgs_nil)))) (fun _ _ _ _ _ => pts_nil) (fun _ _ _ _ _ => (pv 6)))))
    (pss_cons (ps_setLc (i := 7) (own := [("_", 2)]) (g := gName 2) rfl sc_is_machine.nd rfl rfl (sw_true rfl rfl rfl (by decide +kernel)) (pi_tup (pv 0)) (blkOk_by (own := [("_", 2)]) (N := n_is_machine) (sc := defScope s_is_machine) (by decide +kernel)) (fun _ _ _ _ _ => (pg_name (i := 2) sc_is_machine.nd rfl (Or.inl rfl))) (fun _ _ _ _ _ => pts_nil) (fun _ _ _ _ _ => (pe_lst pa_nil)))
    (pss_cons (ps_for PassesOwn.never rfl (pi_enum (by rfl) b_enumerate (pa_cons (pv 5) pa_nil)) (pg_tup rfl (pgs_cons (pg_name (i := 8) sc_is_machine.nd rfl (Or.inl rfl)) (pgs_cons (pg_name (i := 9) sc_is_machine.nd rfl (Or.inl rfl)) pgs_nil)))
      (pss_one (ps_for PassesOwn.never rfl (pi_list (pv 9)) (pg_name (i := 6) sc_is_machine.nd rfl (Or.inl rfl))
      (pss_one (ps_expr (pe_bm PySem.F.plainAttrs_list PySem.F.slot_list_append PySem.F.type_list_append mt_append (pe_ix ix_list (pv 7) (pv 6) (fun _ _ => rfl)) (pa_cons (pv 8) pa_nil)))))))
    (pss_cons (ps_setLc (i := 10) (own := [("number", 8), ("ends", 11), ("_", 2)]) (g := gTup K 2 (gCons (gName 8) (gCons (gTup K 2 (gCons (gName 11) (gCons (gName 2) gNil))) gNil))) rfl sc_is_machine.nd rfl rfl (sw_true rfl rfl rfl (by decide +kernel)) (pi_enumT (by rfl) b_enumerate (pa_cons (pv 0) pa_nil)) (blkOk_by (own := [("number", 8), ("ends", 11), ("_", 2)]) (N := n_is_machine) (sc := defScope s_is_machine) (by decide +kernel)) (fun _ _ _ _ _ => (pg_tup rfl (pgs_cons (pg_name (i := 8) sc_is_machine.nd rfl (Or.inl rfl)) (pgs_cons (pg_tup rfl (pgs_cons (pg_name (i := 11) sc_is_machine.nd rfl (Or.inl rfl)) (pgs_cons (pg_name (i := 2) sc_is_machine.nd rfl (Or.inl rfl)) pgs_nil))) pgs_nil)))) (fun _ _ _ _ _ => (pts_one (pt_val (pv 11)))) (fun _ _ _ _ _ => (pv 8)))
    (pss_one (ps_ret (pe_and (pe_callD d__all_come_to (hr.mono (by decide)) rfl (pa_cons (pv 5) (pa_cons (pe_lst (pa_cons pe_int pa_nil)) pa_nil))) (pe_one (pe_callD d__all_come_to (hr.mono (by decide)) rfl (pa_cons (pv 7) (pa_cons (pv 10) pa_nil)))))))))))))), ?_⟩
  have no : ∀ H', Same H H' → (¬ IsMach d) → Q (.bl false) H' := fun H' s h => k false H' ⟨fun e => (by cases e), fun e => absurd e h⟩ s
  refine ⟨v, rfl, v, .ty "tuple", _, _, _, rfl, .ty _, tyX hd, isTup hd, _, rfl, ?_⟩
  by_cases ht : ∃ ds, d = .tuple ds
  case neg =>
    have e : isTupD d = false := by cases d <;> first | rfl | exact absurd ⟨_, rfl⟩ ht
    rw [e]
    refine iteT (no H (Same.refl _) ?_)
    rintro ⟨M, rfl, _⟩
    exact ht ⟨_, rfl⟩
  obtain ⟨ds, rfl⟩ := ht
  obtain ⟨ma, rs, rfl, hma, hrs, hl⟩ := dpTup2 hd
  obtain ⟨hb1, hb2⟩ := bdTup hbd
  have noL : (¬ (1 ≤ ds.length ∧ ds.length ≤ 200)) → ¬ IsMach (.tuple ds) := fun h => by
    rintro ⟨M, e, hM⟩
    have e' := PyData.tuple.inj e
    rw [e', List.length_map] at h
    exact h ⟨hM.pos, hM.le⟩
  refine iteF ?_
  refine ⟨_, rfl, ma, _, rfl, .inr hma, _, _, rfl, rfl, _, rfl, ?_⟩
  refine ite2 (fun q1 => ?_) (fun q1 => ?_)
  case refine_2 =>
    refine ⟨_, rfl, iteT (no H (Same.refl _) (noL fun h => q1 (decide_eq_true (by omega))))⟩
  have q1' : (1 : Int) ≤ (rs.length : Int) := of_decide_eq_true q1
  refine ⟨_, _, rfl, rfl, _, rfl, ?_⟩
  by_cases q2 : rs.length ≤ 200
  case neg =>
    rw [decide_eq_false (by omega)]
    exact iteT (no H (Same.refl _) (noL fun h => q2 (by omega)))
  rw [decide_eq_true (show (rs.length : Int) ≤ 200 by omega)]
  refine iteF ?_
  refine ⟨_, rfl, ma, rfl, ⟨_, hma⟩, hS, ?_⟩
  refine gw_tup (K := K) (a := ma) (xs := rs) (fun i H' => Same H H' ∧ ∀ d, d ∈ ds.take i → RoomP ds.length d) ⟨.refl _, fun d h => (by simp at h)⟩ (fun i H' _ ⟨g, _⟩ => g.sqT hma) ?_ ?_
  · rintro i x H1 hx ⟨s1, hall⟩
    obtain ⟨e, he, pe⟩ := dpsAtV hrs hx
    refine ⟨rfl, _, rfl, _, rfl, ma, rs, rfl, .inr (s1.sqT hma), x, e, ds.length, by rw [hl]; rfl, dpS s1 pe, bdDs_mem hb2 (List.mem_of_getElem? he), s1 _ _ hT, s1 _ _ hR, fun b H2 hb' s2 => ⟨_, rfl, ?_⟩⟩
    cases eb : b with
    | true =>
      rw [if_pos rfl]
      refine ⟨s1.trans s2, fun d hd => ?_⟩
      rw [take_snoc he] at hd
      rcases List.mem_append.mp hd with hd | hd
      · exact hall d hd
      · rw [List.mem_singleton.mp hd]
        exact hb'.mp eb
    | false =>
      rw [if_neg (by decide)]
      refine ⟨_, rfl, iteT (no H2 (s1.trans s2) ?_)⟩
      rintro ⟨M, e', hM⟩
      have e2 := PyData.tuple.inj e'
      rw [e2, List.length_map] at hb'
      rw [e2] at he
      have hm := List.mem_of_getElem? he
      obtain ⟨r, hr', rfl⟩ := List.mem_map.mp hm
      have := hb'.mpr ⟨r, rfl, (hM.rm r hr').1, (hM.rm r hr').2⟩
      rw [eb] at this
      cases this
  rintro H1 ⟨s1, hall⟩
  rw [hl, List.take_length] at hall
  obtain ⟨M, rfl, hM⟩ := rooms_of hall
  rw [List.length_map] at hl hM
  rw [List.length_map] at noL
  have hM1 : 1 ≤ M.length := by omega
  have hM2 : M.length ≤ 200 := by omega
  have hSg := hfew M rfl
  refine ⟨_, rfl, iteF ?_⟩
  refine ⟨_, rfl, ma, rfl, ⟨_, s1.sqT hma⟩, fun D nD => ?_⟩
  refine cw_tup (K := K) (a := ma) (xs := rs) (fun i H' => Same H1 H' ∧ TxK P w H' D (sgs (M.take i))) ⟨.new nD, _, upd_same, fun k => ⟨fun h => (by cases h), ?_⟩⟩ (fun i H' _ ⟨g, _⟩ => (s1.trans g).sqT hma) ?_ ?_
  · rintro ⟨t, ht, _⟩
    cases ht
  · rintro i v H2 hv1 ⟨s2, hD⟩
    have hi := (List.getElem?_eq_some_iff.mp hv1).1
    obtain ⟨r, hr'⟩ : ∃ r, M[i]? = some r := ⟨_, List.getElem?_eq_getElem (by omega)⟩
    have s12 := s1.trans s2
    obtain ⟨ra, b, ls, e1, e2, e3, e4⟩ := rmsAt hrs hr'
    have ev : v = .ref ra := by rw [hv1] at e1; exact Option.some.inj e1
    subst ev
    have hls := dpsLen e4
    rw [List.length_map] at hls
    refine ⟨ra, _, rfl, s12.sqT e2, rfl, _, _, rfl, _, _, rfl, rfl, rfl, ?_⟩
    refine ⟨_, rfl, b, rfl, ⟨_, s12.sqT e3⟩, ?_⟩
    refine cw_tup (K := K) (a := b) (xs := ls) (fun j H' => Same H1 H' ∧ TxK P w H' D (sgs (M.take i) ++ (r.2.take j).map Prod.fst)) ⟨s2, by simpa using hD⟩ (fun j H' _ ⟨g, _⟩ => ?_) ?_ ?_
    · exact (s1.trans g).sqT e3
    · rintro j v H3 hv3 ⟨s3, S3, hD3, hS3⟩
      obtain ⟨p, pa, hp, rfl, hpa⟩ := stsAt e4 hv3
      refine ⟨pa, _, rfl, (s1.trans s3).sqT hpa, rfl, _, _, rfl, _, _, rfl, rfl, rfl, ?_⟩
      have hle : (nubL (sgs (M.take i) ++ (r.2.take j).map Prod.fst)).length ≤ 4000 := Nat.le_trans (nub_mono fun t ht => ?_) hSg
      refine ⟨_, rfl, Sum.inr p.1, S3, _, rfl, hD3, by unfold scanBound; omega, s3.mut nD, ?_⟩
      · rw [take_snoc hp, List.map_append, ← List.append_assoc]
        exact TxK.add p.1 S3 hS3
      · rcases List.mem_append.mp ht with ht | ht
        · exact sgs_take ht
        · refine sgs_take (i := i + 1) ?_
          rw [take_snoc hr', sgs_snoc]
          obtain ⟨q, hq, rfl⟩ := List.mem_map.mp ht
          exact List.mem_append_right _ (List.mem_map_of_mem (List.mem_of_mem_take hq))
    · rintro H3 ⟨s3, hD3⟩
      rw [hls, List.take_length, ← sgs_snoc, ← take_snoc hr'] at hD3
      exact ⟨s3, hD3⟩
  rintro H2 ⟨s2, hD⟩
  rw [hl, List.take_length] at hD
  have hdeg : ∀ r, r ∈ M → r.2.length ≤ 10000 := fun r hr => by
    have h1 := bdDs_mem hb2 (List.mem_map_of_mem (f := rmD) hr)
    have h2 := bdDs_mem (bdTup h1).2 (d := .tuple (r.2.map stD)) (by simp)
    have h3 := (bdTup h2).1
    rw [List.length_map] at h3
    exact h3
  obtain ⟨S2, hD2, _⟩ := hD
  refine ⟨D, S2, _, rfl, hD2, by omega, _, _, rfl, rfl, _, rfl, ?_⟩
  have s12 := s1.trans s2
  refine ite2 (fun q => no H2 s12 ?_) (fun q => ?_)
  · rintro ⟨N, e, hN⟩
    have e2 : M = N := maD_inj e
    subst e2
    have := hN.few
    have := of_decide_eq_true q
    omega
  have hf6 : (nubL (sgs M)).length ≤ 6 := by
    have : ¬ (6 : Int) < ((nubL (sgs M)).length : Int) := fun z => q (decide_eq_true z)
    omega
  -- onward
  refine ⟨_, rfl, ma, rfl, ⟨_, s12.sqT hma⟩, fun ol nol => ?_⟩
  refine lc_tup (K := K) (a := ma) (xs := rs) (fun i H' => ∃ as : List Addr, Same H2 H' ∧ H' ol = some (.lst (as.map V.ref)) ∧ ol ∉ as ∧ Paired (fun a c => H' a = some (.lst (natV c))) as ((M.take i).map fun r => r.2.map (·.2))) ⟨[], .new nol, upd_same, by simp, .nil⟩ (fun i H' _ ⟨_, g, _⟩ => (s12.trans g).sqT hma) ?_ ?_
  · rintro i v H3 hv1 ⟨as, s3, hol, noas, has⟩
    have hi := (List.getElem?_eq_some_iff.mp hv1).1
    obtain ⟨r, hr'⟩ : ∃ r, M[i]? = some r := ⟨_, List.getElem?_eq_getElem (by omega)⟩
    have s13 := s12.trans s3
    obtain ⟨ra, b, ls, e1, e2, e3, e4⟩ := rmsAt hrs hr'
    have ev : v = .ref ra := by rw [hv1] at e1; exact Option.some.inj e1
    subst ev
    have hls := dpsLen e4
    rw [List.length_map] at hls
    have hrd := hdeg r (List.mem_of_getElem? hr')
    have hasl := pairedLen has
    rw [List.length_map, List.length_take] at hasl
    refine ⟨ra, _, rfl, s13.sqT e2, rfl, _, _, rfl, _, _, rfl, rfl, rfl, ?_⟩
    refine ⟨_, rfl, b, rfl, ⟨_, s13.sqT e3⟩, fun ll nll => ?_⟩
    have nlo : ll ≠ ol := (ne_of_none hol nll).symm
    refine lc_tup (K := K) (a := b) (xs := ls) (fun j H' => Same H3 H' ∧ H' ll = some (.lst (natV ((r.2.take j).map (·.2))))) ⟨.new nll, upd_same⟩ (fun j H' _ ⟨g, _⟩ => (s13.trans g).sqT e3) ?_ ?_
    · rintro j v H4 hv4 ⟨s4, hll⟩
      obtain ⟨p, pa, hp, rfl, hpa⟩ := stsAt e4 hv4
      refine ⟨pa, _, rfl, (s13.trans s4).sqT hpa, rfl, _, _, rfl, _, _, rfl, rfl, rfl, ?_⟩
      refine ⟨_, rfl, _, hll, szb (by rw [ints_len, List.length_map, List.length_take]; omega), s4.mut nll, ?_⟩
      rw [upd_same, take_snoc hp, List.map_append, ← natV_snoc]
      rfl
    · rintro H4 ⟨s4, hll⟩
      rw [hls, List.take_length] at hll
      refine ⟨_, s4 _ _ hol, szb (by rw [List.length_map]; omega), as ++ [ll], (s3.trans s4).mut nol, by rw [upd_same, List.map_append]; rfl, ?_, ?_⟩
      · intro h
        rcases List.mem_append.mp h with h | h
        · exact noas h
        · exact nlo (List.mem_singleton.mp h).symm
      · rw [take_snoc hr', List.map_append]
        exact pairedApp (pairedMapM has fun a c ha h => by rw [upd_ne (fun e => noas (by rw [← e]; exact ha))]; exact s4 _ _ h) (.cons (by rw [upd_ne nlo]; exact hll) .nil)
  rintro H3 ⟨as, s3, hol, noas, has⟩
  rw [hl, List.take_length] at has
  have s13 := s12.trans s3
  have hasl := pairedLen has
  rw [List.length_map] at hasl
  -- back
  refine ⟨_, rfl, ma, rfl, ⟨_, s13.sqT hma⟩, fun bl nbl => ?_⟩
  refine lc_tup (K := K) (a := ma) (xs := rs) (fun j H' => ∃ bs : List Addr, Same H3 H' ∧ H' bl = some (.lst (bs.map V.ref)) ∧ Paired (fun a c => H' a = some (.lst (natV c))) bs (List.replicate j ([] : List Nat)) ∧ bs.Nodup ∧ bl ∉ bs ∧ (∀ a, a ∈ bs → H3 a = none)) ⟨[], .new nbl, upd_same, .nil, .nil, by simp, fun a h => (by cases h)⟩ (fun j H' _ ⟨_, g, _⟩ => (s13.trans g).sqT hma) ?_ ?_
  · rintro j u H4 hu1 ⟨bs, s4, hbl, hbs, nd, nob, nbs⟩
    have hj := (List.getElem?_eq_some_iff.mp hu1).1
    have hal := pairedLen hbs
    rw [List.length_replicate] at hal
    refine ⟨rfl, ?_⟩
    refine ⟨(by show 0 ≤ sizeLine; decide), fun q nq => ?_⟩
    have sq : Same H4 (upd H4 q (.lst [])) := .new nq
    have nqb : q ≠ bl := (ne_of_none hbl nq).symm
    have nqH : H3 q = none := by
      cases e : H3 q with
      | none => rfl
      | some o => rw [s4 _ _ e] at nq; cases nq
    have nqbs : q ∉ bs := fun h => by
      obtain ⟨i, hi, e⟩ := List.getElem_of_mem h
      obtain ⟨c, hc1, hc2⟩ := pairedAtL hbs (i := i) (a := q) (by rw [List.getElem?_eq_getElem hi, e])
      rw [nq] at hc2
      cases hc2
    refine ⟨_, sq _ _ hbl, szb (by rw [List.length_map]; omega), bs ++ [q], (s4.trans sq).mut nbl, by rw [upd_same, List.map_append]; rfl, ?_, ?_, ?_, ?_⟩
    · rw [List.replicate_succ']
      refine pairedApp ?_ (.cons (by rw [upd_ne nqb, upd_same]; rfl) .nil)
      exact pairedMapM hbs fun a c ha h => by rw [upd_ne (fun e => nob (by rw [← e]; exact ha))]; exact sq _ _ h
    · rw [(List.perm_append_singleton q bs).nodup_iff, List.nodup_cons]
      exact ⟨nqbs, nd⟩
    · intro h
      rcases List.mem_append.mp h with h | h
      · exact nob h
      · exact nqb (List.mem_singleton.mp h).symm
    · intro a ha
      rcases List.mem_append.mp ha with ha | ha
      · exact nbs a ha
      · rw [List.mem_singleton.mp ha]; exact nqH
  rintro H4 ⟨bs, s4, hbl, hbs, nd, nob, nbs⟩
  have hal := pairedLen hbs
  rw [List.length_replicate, hl] at hal
  have s14 := s13.trans s4
  refine ⟨_, rfl, ol, _, rfl, sL (s4 _ _ hol), ?_⟩
  refine for_enum (K := K) (a := ol) (xs := as.map V.ref) (fun i σ H' => ∃ (B : List (List Nat)) (o6 o8 o9 : Option V), σ = [some (.ref ma), none, none, none, none, some (.ref ol), o6, some (.ref bl), o8, o9, none, none] ∧ Same H3 H' ∧ H' bl = some (.lst (bs.map V.ref)) ∧ Paired (fun a c => H' a = some (.lst (natV c))) bs B ∧ ∀ (x : Nat) (ys : List Nat), B[x]? = some ys → ys.length ≤ 10000 * i ∧ ∀ y, y ∈ ys ↔ y < i ∧ x ∈ Eg M y)
    ⟨List.replicate rs.length [], none, none, none, rfl, s4, hbl, hbs, fun x ys h => ?_⟩ (fun i σ H' _ ⟨_, _, _, _, _, g, _⟩ => sL (g _ _ hol)) ?_ ?_
  · have : ys = [] := (List.mem_replicate.mp (List.mem_of_getElem? h)).2
    subst this
    exact ⟨by simp, fun y => ⟨fun h => (by cases h), fun h => absurd h.1 (Nat.not_lt_zero _)⟩⟩
  · rintro i u T5 σ H5 hu1 ⟨B, o6, o8, o9, rfl, s5, hbl5, hB, hBm⟩ nT
    rw [List.getElem?_map] at hu1
    obtain ⟨a, ha, rfl⟩ := Option.map_eq_some_iff.mp hu1
    have hi := (List.getElem?_eq_some_iff.mp ha).1
    obtain ⟨c, hc, hca⟩ := pairedAtL has ha
    rw [List.getElem?_map] at hc
    obtain ⟨r, hr', rfl⟩ := Option.map_eq_some_iff.mp hc
    have hrM := List.mem_of_getElem? hr'
    have hrd := hdeg r hrM
    have hEgi : Eg M i = r.2.map (·.2) := by unfold Eg; rw [stepsOf_at hr']
    have sT' : Same H5 (upd H5 T5 (.tup [.int (i : Nat), .ref a])) := .new nT
    have hT5 : SqT K (upd H5 T5 (.tup [.int (i : Nat), .ref a])) T5 [.int (i : Nat), .ref a] := sT upd_same
    generalize upd H5 T5 (.tup [.int (i : Nat), .ref a]) = H6 at sT' hT5 ⊢
    have s6 := s5.trans sT'
    refine ⟨T5, _, rfl, hT5, rfl, _, _, rfl, _, _, rfl, rfl, ?_⟩
    refine ⟨_, rfl, a, rfl, ⟨_, sL (s6 _ _ hca)⟩, ?_⟩
    refine for_list (K := K) (a := a) (xs := natV (r.2.map (·.2))) (fun j σ H' => ∃ (B : List (List Nat)) (o6 : Option V), σ = [some (.ref ma), none, none, none, none, some (.ref ol), o6, some (.ref bl), some (.int (i : Nat)), some (.ref a), none, none] ∧ Same H3 H' ∧ H' bl = some (.lst (bs.map V.ref)) ∧ Paired (fun a c => H' a = some (.lst (natV c))) bs B ∧ ∀ (x : Nat) (ys : List Nat), B[x]? = some ys → ys.length ≤ 10000 * i + j ∧ ∀ y, y ∈ ys ↔ (y < i ∧ x ∈ Eg M y) ∨ (y = i ∧ x ∈ (r.2.take j).map (·.2)))
      ⟨B, o6, rfl, s6, sT' _ _ hbl5, pairedMap hB fun a c h => sT' _ _ h, fun x ys h => ?_⟩ (fun j σ H' _ ⟨_, _, _, g, _⟩ => sL (g _ _ hca)) ?_ ?_
    · obtain ⟨h1, h2⟩ := hBm x ys h
      refine ⟨by omega, fun y => ?_⟩
      rw [h2 y]
      simp
    · rintro j w' σ H7 hv ⟨B, o6, rfl, s7, hbl7, hB7, hBm7⟩
      obtain ⟨t, ht, rfl⟩ := ints_get hv
      rw [List.getElem?_map] at ht
      obtain ⟨p, hp, rfl⟩ := Option.map_eq_some_iff.mp ht
      have hj := (List.getElem?_eq_some_iff.mp hp).1
      have hpM := List.mem_of_getElem? hp
      have hpn : p.2 < bs.length := by have := ((hM r hrM).1 p hpM).2; omega
      have hBl := pairedLen hB7
      obtain ⟨ba, hba⟩ : ∃ a, bs[p.2]? = some a := ⟨_, List.getElem?_eq_getElem hpn⟩
      obtain ⟨ys, hys, hya⟩ := pairedAtL hB7 hba
      obtain ⟨hyl, hym⟩ := hBm7 p.2 ys hys
      have hbas := List.mem_of_getElem? hba
      refine ⟨_, rfl, _, rfl, bl, _, _, V.ref ba, rfl, rfl, sL hbl7, atI_nat (v := V.ref ba) (by rw [List.getElem?_map, hba]; rfl), .inl ⟨rfl, _, .inl (.inl hya)⟩, _, rfl, ba, _, _, rfl, rfl, hya, szb (by rw [ints_len]; omega), ?_⟩
      rw [show natV ys ++ [V.int ((i : Nat) : Int)] = natV (ys ++ [i]) from (natV_snoc ys i).symm]
      refine ⟨B.set p.2 (ys ++ [i]), _, rfl, s7.mut (nbs ba hbas), by rw [upd_ne (fun e => nob (by rw [e]; exact hbas))]; exact hbl7, pairedSet hB7 nd hba, fun x zs hz => ?_⟩
      by_cases ex : x = p.2
      · subst ex
        rw [List.getElem?_set_self (by omega)] at hz
        have ez : zs = ys ++ [i] := (Option.some.inj hz).symm
        subst ez
        refine ⟨by rw [List.length_append, List.length_singleton]; omega, fun y => ?_⟩
        rw [List.mem_append, hym y, List.mem_singleton, take_snoc hp, List.map_append, List.mem_append]
        simp only [List.map_cons, List.map_nil, List.mem_singleton]
        constructor
        · rintro ((h | h) | h)
          · exact .inl h
          · exact .inr ⟨h.1, .inl h.2⟩
          · exact .inr ⟨h, .inr trivial⟩
        · rintro (h | ⟨h, h' | h'⟩)
          · exact .inl (.inl h)
          · exact .inl (.inr ⟨h, h'⟩)
          · exact .inr h
      · rw [List.getElem?_set_ne (fun e => ex e.symm)] at hz
        obtain ⟨h1, h2⟩ := hBm7 x zs hz
        refine ⟨by omega, fun y => ?_⟩
        rw [h2 y, take_snoc hp, List.map_append, List.mem_append]
        simp only [List.map_cons, List.map_nil, List.mem_singleton]
        constructor
        · rintro (h | h)
          · exact .inl h
          · exact .inr ⟨h.1, .inl h.2⟩
        · rintro (h | ⟨h, h' | h'⟩)
          · exact .inl h
          · exact .inr ⟨h, h'⟩
          · exact absurd h' ex
    · rintro σ H7 ⟨B, o6, rfl, s7, hbl7, hB7, hBm7⟩
      refine ⟨B, _, _, _, rfl, s7, hbl7, hB7, fun x ys h => ?_⟩
      obtain ⟨h1, h2⟩ := hBm7 x ys h
      rw [ints_len, List.length_map, List.take_length, ← hEgi] at h2
      rw [ints_len, List.length_map] at h1
      refine ⟨by omega, fun y => ?_⟩
      rw [h2 y]
      constructor
      · rintro (h | ⟨rfl, h⟩)
        · exact ⟨by omega, h.2⟩
        · exact ⟨by omega, h⟩
      · rintro ⟨g1, g2⟩
        by_cases e : y = i
        · exact .inr ⟨e, by rw [← e]; exact g2⟩
        · exact .inl ⟨by omega, g2⟩
  rintro σ H5 ⟨B, o6, o8, o9, rfl, s5, hbl5, hB, hBm⟩
  rw [List.length_map, hasl] at hBm
  have s15 := s13.trans s5
  have hBl := pairedLen hB
  -- ending
  refine ⟨_, rfl, ma, _, rfl, s15.sqT hma, fun el nel => ?_⟩
  refine lc_enumT (K := K) (a := ma) (xs := rs) (fun i H' => Same H5 H' ∧ H' el = some (.lst (natV ((List.range i).filter (endsOf M))))) ⟨.new nel, upd_same⟩ (fun i H' _ ⟨g, _⟩ => (s15.trans g).sqT hma) ?_ ?_
  · rintro i v T6 H6 hv6 ⟨s6, hel⟩ nT
    have hi := (List.getElem?_eq_some_iff.mp hv6).1
    obtain ⟨r, hr'⟩ : ∃ r, M[i]? = some r := ⟨_, List.getElem?_eq_getElem (by omega)⟩
    obtain ⟨ra, b, ls, e1, e2, e3, e4⟩ := rmsAt hrs hr'
    have ev : v = .ref ra := by rw [hv6] at e1; exact Option.some.inj e1
    subst ev
    have sT' : Same H6 (upd H6 T6 (.tup [.int (i : Nat), .ref ra])) := .new nT
    have hT6 : SqT K (upd H6 T6 (.tup [.int (i : Nat), .ref ra])) T6 [.int (i : Nat), .ref ra] := sT upd_same
    generalize upd H6 T6 (.tup [.int (i : Nat), .ref ra]) = H7 at sT' hT6 ⊢
    have s7 := s6.trans sT'
    have hel7 := sT' _ _ hel
    have hfl : ((List.range i).filter (endsOf M)).length ≤ i := by
      have := List.length_filter_le (endsOf M) (List.range i)
      rw [List.length_range] at this
      exact this
    have et : (List.range (i + 1)).filter (endsOf M) = (List.range i).filter (endsOf M) ++ (if r.1 = true then [i] else []) := by
      rw [List.range_succ, filter_snoc, (show endsOf M i = r.1 from endR_at hr')]
    refine ⟨T6, _, rfl, hT6, rfl, _, _, rfl, _, _, rfl, ra, _, rfl, (s15.trans s7).sqT e2, rfl, _, _, rfl, _, _, rfl, rfl, rfl, rfl, ?_⟩
    refine ⟨_, rfl, r.1, rfl, ?_⟩
    cases eb : r.1 with
    | true =>
      rw [eb, if_pos rfl] at et
      refine iteT ⟨_, rfl, _, hel7, szb (by rw [ints_len]; omega), s7.mut nel, ?_⟩
      rw [upd_same, et, natV_snoc]
    | false =>
      rw [eb, if_neg (by decide), List.append_nil] at et
      refine iteF ⟨s7, ?_⟩
      rw [et]
      exact hel7
  rintro H6 ⟨s6, hel⟩
  rw [hl] at hel
  have s16 := s15.trans s6
  have hE : ∀ k, k < M.length → ∀ j, j ∈ Eg M k → j < M.length := fun k hk j hj => by
    unfold Eg at hj
    obtain ⟨p, hp, rfl⟩ := List.mem_map.mp hj
    rw [stepsOf_at (List.getElem?_eq_getElem hk)] at hp
    exact ((hM _ (List.getElem_mem hk)).1 p hp).2
  have hBm' : ∀ (x : Nat) (ys : List Nat), B[x]? = some ys → ∀ y, y ∈ ys ↔ y < M.length ∧ x ∈ Eg M y := fun x ys h => (hBm x ys h).2
  have hEm : ∀ e, e ∈ (List.range M.length).filter (endsOf M) ↔ e < M.length ∧ endsOf M e = true := fun e => by rw [List.mem_filter, List.mem_range]
  have isM : (∀ k, k < M.length → RT (Eg M) 0 k) → (∀ k, k < M.length → ∃ e, e < M.length ∧ endsOf M e = true ∧ RT (Eg M) k e) → IsM M := fun h1 h2 => ⟨hM1, hM2, hM, hf6, h1, h2⟩
  refine ⟨_, rfl, (by show 1 ≤ sizeLine; decide), fun zl nzl => ?_⟩
  have sz : Same H6 (upd H6 zl (.lst [.int 0])) := .new nzl
  have hzl : (upd H6 zl (.lst [.int 0])) zl = some (.lst (natV [0])) := upd_same
  generalize upd H6 zl (.lst [.int 0]) = H7 at sz hzl ⊢
  have s37 := s5.trans (s6.trans sz)
  refine ⟨ol, zl, as, M.map fun r => r.2.map (·.2), [0], rfl, s37 _ _ hol, pairedMap has fun a c h => s37 _ _ h, fun c hc y hy => ?_, by rw [List.length_map]; omega, hzl, by simp, fun x hx => ?_, fun b1 H8 hb1 s8 => ⟨b1, rfl, ?_⟩⟩
  · obtain ⟨r, hr, rfl⟩ := List.mem_map.mp hc
    obtain ⟨p, hp, rfl⟩ := List.mem_map.mp hy
    rw [List.length_map]
    exact ((hM r hr).1 p hp).2
  · rw [List.mem_singleton.mp hx, List.length_map]
    exact hM1
  rw [EB_on, List.length_map] at hb1
  have s18 := s16.trans (sz.trans s8)
  have sub1 : (b1 = true) ↔ ∀ k, k < M.length → RT (Eg M) 0 k := hb1.trans ⟨fun h k hk => by
    obtain ⟨f, hf, r⟩ := h k hk
    rw [List.mem_singleton.mp hf] at r
    exact r, fun h k hk => ⟨0, by simp, h k hk⟩⟩
  cases e1 : b1 with
  | false =>
    refine iteF (no H8 s18 ?_)
    rintro ⟨N, e, hN⟩
    have e2 : M = N := maD_inj e
    subst e2
    have := sub1.mpr hN.from0
    rw [e1] at this
    cases this
  | true =>
    have f0 := sub1.mp e1
    refine iteT ?_
    have s58 := s6.trans (sz.trans s8)
    refine ⟨_, rfl, _, rfl, bl, el, bs, B, _, rfl, s58 _ _ hbl5, pairedMap hB fun a c h => s58 _ _ h, fun c hc y hy => ?_, by omega, (sz.trans s8) _ _ hel, List.nodup_range.filter _, fun x hx => ?_, fun b2 H9 hb2 s9 => ?_⟩
    · obtain ⟨i, hi⟩ := List.getElem?_of_mem hc
      have := ((hBm' i c hi y).mp hy).1
      omega
    · have := ((hEm x).mp hx).1
      omega
    · refine k b2 H9 ?_ (s18.trans s9)
      rw [hb2]
      constructor
      · intro h
        refine ⟨M, rfl, isM f0 fun k hk => ?_⟩
        obtain ⟨f, hf, r⟩ := h k (by omega)
        exact ⟨f, ((hEm f).mp hf).1, ((hEm f).mp hf).2, rt_back hBm' r⟩
      · rintro ⟨N, e, hN⟩ k hk
        have e2 : M = N := maD_inj e
        subst e2
        obtain ⟨f, h1, h2, r⟩ := hN.toEnd k (by omega)
        exact ⟨f, (hEm f).mpr ⟨h1, h2⟩, rt_forth (by omega) hE hBm' r (by omega)⟩
end
end Sw
set_option Elab.async false
set_option maxRecDepth 100000
set_option maxHeartbeats 8000000
namespace Sw
open PySem L2 PySem.Spec PyProof.Rows
/-! ### the pen: a list of the cells, a place in them, and what is left of a cell -/
def penL (sp : Addr) (i : Nat) (z : Int) : List V := [.ref sp, .int (i : Int), .int z]
def PenAt (H : Hp) (pen sp : Addr) : Prop := ∃ (ns : List Int) (i : Nat) (z : Int), H pen = some (.lst (penL sp i z)) ∧ H sp = some (.lst (ns.map V.int)) ∧ ns.length ≤ 63
theorem penNe {H : Hp} {pen sp : Addr} {i : Nat} {z : Int} {ns : List Int} (h1 : H pen = some (.lst (penL sp i z))) (h2 : H sp = some (.lst (ns.map V.int))) : sp ≠ pen := by
  rintro rfl
  rw [h1] at h2
  injection h2 with h2
  injection h2 with h2
  cases ns with
  | nil => cases h2
  | cons n r => injection h2 with a b; cases a
theorem PenAt.same {H H' : Hp} {pen sp : Addr} (h : PenAt H pen sp) (s : Same H H') : PenAt H' pen sp := by
  obtain ⟨ns, i, z, h1, h2, h3⟩ := h
  exact ⟨ns, i, z, s _ _ h1, s _ _ h2, h3⟩
/-- another list may be written -/
theorem PenAt.w {H0 H : Hp} {pen sp D : Addr} {o : HO} (h : PenAt H pen sp) (h0 : PenAt H0 pen sp) (hD : H0 D = none) : PenAt (upd H D o) pen sp := by
  obtain ⟨ns, i, z, h1, h2, h3⟩ := h
  obtain ⟨_, _, _, h4, h5, _⟩ := h0
  exact ⟨ns, i, z, by rw [upd_ne (ne_of_none h4 hD)]; exact h1, by rw [upd_ne (ne_of_none h5 hD)]; exact h2, h3⟩
theorem butW {H0 H : Hp} {st D : Addr} {o : HO} (b : But st H0 H) (hD : H0 D = none) : But st H0 (upd H D o) := fun x u e n => by
  rw [upd_ne (ne_of_none e hD)]
  exact b x u e n
theorem PenAt.sqT {K : PySem.W.Frag} {H H' : Hp} {pen sp a : Addr} {xs : List V} (h : PenAt H pen sp) (b : But pen H H') (hq : SqT K H a xs) : SqT K H' a xs := by
  obtain ⟨ns, i, z, h1, h2, h3⟩ := h
  have n : ∀ u, H a = some u → (∀ l, u ≠ .lst l) → a ≠ pen := fun u r e hm => by
    rw [hm, h1] at r
    exact e _ (Option.some.inj r).symm
  rcases hq with hq | hq
  · rcases hq with hq | ⟨o, hq⟩
    · exact .inl (.inl (b _ _ hq (n _ hq (fun l e => by cases e))))
    · exact .inl (.inr ⟨o, b _ _ hq (n _ hq (fun l e => by cases e))⟩)
  · exact .inr hq
/-- lists of texts, of addresses stay -/
theorem PenAt.strs {H H' : Hp} {pen sp a : Addr} {ss : List Str} (h : PenAt H pen sp) (b : But pen H H') (hq : H a = some (.lst (ss.map V.str))) : H' a = some (.lst (ss.map V.str)) := by
  obtain ⟨ns, i, z, h1, h2, h3⟩ := h
  refine b _ _ hq ?_
  rintro rfl
  rw [h1] at hq
  injection hq with hq
  injection hq with hq
  cases ss with
  | nil => cases hq
  | cons n r => injection hq with a b; cases a
theorem PenAt.refs {H H' : Hp} {pen sp a : Addr} {as : List Addr} (h : PenAt H pen sp) (b : But pen H H') (hq : H a = some (.lst (as.map V.ref))) : H' a = some (.lst (as.map V.ref)) := by
  obtain ⟨ns, i, z, h1, h2, h3⟩ := h
  refine b _ _ hq ?_
  rintro rfl
  rw [h1] at hq
  injection hq with hq
  injection hq with hq
  match as, hq with
  | [], hq => cases hq
  | [_], hq => injection hq with a b; cases b
  | _ :: _ :: _, hq => injection hq with a b; injection b with c d; cases c
theorem PenAt.dp {K : PySem.W.Frag} {H H' : Hp} {pen sp : Addr} {v : V} {d : PyData} (h : PenAt H pen sp) (b : But pen H H') (n : noL d = true) (hd : Dp K H v d) : Dp K H' v d := dpSameT (fun _ _ q => h.sqT b q) d v n hd
theorem PenAt.dps {K : PySem.W.Frag} {H H' : Hp} {pen sp : Addr} {vs : List V} {ds : List PyData} (h : PenAt H pen sp) (b : But pen H H') (n : noLs ds = true) (hd : DpAll K H vs ds) : DpAll K H' vs ds := dpAllSameT (fun _ _ q => h.sqT b q) ds vs n hd
section
variable {P : Program} {w : World} {K : PySem.W.Frag} {mg : Str → Option Value} {base : Heap}
abbrev n_law_e_pen : List Str := ["script"]
theorem sc_law_e_pen : FnScope n_law_e_pen ["script"] (defScope s_law_e_pen) := ⟨rfl, rfl, rfl, by decide +kernel, rfl, by decide +kernel, by decide +kernel⟩
def spPen (K : PySem.W.Frag) : Sp := fun vs H Q _ => ∃ (a : Addr) (ns : List Int), vs = [.ref a] ∧ SqL K H a (ns.map V.int) ∧ ns.length ≤ 63 ∧ ∀ H' pen sp, Same H H' → H pen = none → PenAt H' pen sp → Q (.ref pen) H'
theorem ok_law_e_pen (F : DefAt K mg "_law_e_pen" s_law_e_pen ["script"]) (b_list : mg "list" = none) : DefOk P w K mg base "_law_e_pen" 1 ["script"] (spPen K) := by
  refine F.ok sc_law_e_pen (fun vs H Q E h => ?_) (fun f cdv A outer s H vs Q E hr h => ?_)
  · obtain ⟨_, _, rfl, _⟩ := h
    rfl
  obtain ⟨a, ns, rfl, hS, hlen, k⟩ := h
  refine ⟨_, (pss_one (ps_ret (pe_lst (pa_cons (pe_callTy call_list_of (by rfl) b_list (by decide +kernel) (pa_cons (pe_slice sl_list (pv 0) po_none (po_some pe_int)) pa_nil)) (pa_cons pe_int (pa_cons pe_int pa_nil)))))), ?_⟩
  refine ⟨_, rfl, _, rfl, a, _, rfl, hS, fun p hp => ?_⟩
  have e63 : cutV (ns.map V.int) none (some 63) = ns.map V.int := by
    have := cut_take (ns.map V.int) 63
    rw [show ((63 : Nat) : Int) = 63 from rfl] at this
    rw [this, List.take_of_length_le (by rw [List.length_map]; exact hlen)]
  dsimp only
  rw [e63]
  refine ⟨p, _, rfl, .inl (sL upd_same), fun l hl => ⟨(by show 3 ≤ sizeLine; decide), fun q hq => ?_⟩⟩
  have nl : l ≠ q := ne_of_none upd_same hq
  have s3 := ((Same.new (o := .lst (ns.map V.int)) hp).trans (.new (o := .lst (ns.map V.int)) hl)).trans (.new (o := .lst [.ref l, .int 0, .int 0]) hq)
  have nqH : H q = none := by
    cases e : H q with
    | none => rfl
    | some o => rw [((Same.new (o := .lst (ns.map V.int)) hp).trans (.new (o := .lst (ns.map V.int)) hl)) _ _ e] at hq; cases hq
  exact k _ q l s3 nqH ⟨ns, 0, 0, upd_same, by rw [upd_ne nl]; exact upd_same, hlen⟩
end
end Sw
set_option Elab.async false
set_option maxRecDepth 100000
set_option maxHeartbeats 8000000
namespace Sw
open PySem L2 PySem.Spec PyProof.Rows
def thenOf : Stmt → List Stmt
  | .If _ b _ _ => b
  | _ => []
theorem modLt (c : Int) {m : Int} (h : 0 < m) : 0 ≤ c % m ∧ c % m < m := ⟨Int.emod_nonneg _ (by omega), Int.emod_lt_of_pos _ h⟩
section
variable {P : Program} {w : World} {K : PySem.W.Frag} {mg : Str → Option Value} {base : Heap}
abbrev n_law_e_take : List Str := ["pen", "many", "at", "cell", "mixed", "found"]
theorem sc_law_e_take : FnScope n_law_e_take ["pen", "many"] (defScope s_law_e_take) := ⟨rfl, rfl, rfl, by decide +kernel, rfl, by decide +kernel, by decide +kernel⟩
def spTake : Sp := fun vs H Q _ => ∃ (pen sp : Addr) (m : Nat), vs = [.ref pen, .int (m : Int)] ∧ 0 < m ∧ m ≤ 1000 ∧ PenAt H pen sp ∧ ∀ H' (k : Nat), k < m → But pen H H' → PenAt H' pen sp → Q (.int (k : Int)) H'
theorem ok_law_e_take (F : DefAt K mg "_law_e_take" s_law_e_take ["pen", "many"]) (b_len : mg "len" = none) : DefOk P w K mg base "_law_e_take" 1 ["pen", "many"] spTake := by
  refine F.ok sc_law_e_take (fun vs H Q E h => ?_) (fun f cdv A outer s H vs Q E hr h => ?_)
  · obtain ⟨_, _, _, rfl, _⟩ := h
    rfl
  obtain ⟨pen, sp, m, rfl, hm0, hm1, hp, k⟩ := h
  -- the last three
  obtain ⟨t2, h2, f2⟩ : ∃ t2, PSs (cxOf CX0 P w K mg base n_law_e_take "_law_e_take" (defScope s_law_e_take) f cdv A outer s H E).nox ((defBody s_law_e_take).drop 1) t2 ∧
      ∀ (o2 o3 o4 : Option V) (H' : Hp), But pen H H' → PenAt H' pen sp → t2 { nx := fun _ H' => Q .non H', rt := Q } [some (.ref pen), some (.int (m : Int)), o2, o3, o4, none] H' := by
    refine ⟨_, (pss_cons (ps_set (i := 5) sc_law_e_take.nd rfl (Or.inl rfl) (pe_op op_mod (pe_ix ix_list (pv 0) pe_int (fun _ _ => rfl)) (pv 1)))
      (pss_cons (ps_asg (pe_op op_fdiv (pe_ix ix_list (pv 0) pe_int (fun _ _ => rfl)) (pv 1)) (pg_sub (pv 0) pe_int set_list))
      (pss_one (ps_ret (pv 5))))), ?_⟩
    rintro o2 o3 o4 H' b ⟨ns, i, z, h1, hs, hl⟩
    refine ⟨_, rfl, pen, _, 2, _, rfl, rfl, sL h1, atI_nat (j := 2) rfl, _, rfl, _, _, rfl, rfl, (by show (0 : Int) < (m : Int); omega), ?_⟩
    refine ⟨_, rfl, pen, _, 2, _, rfl, rfl, sL h1, atI_nat (j := 2) rfl, _, rfl, _, _, rfl, rfl, ⟨(by show (0 : Int) < (m : Int); omega), (by show (m : Int) < 1073741824; omega)⟩, ?_⟩
    refine ⟨_, rfl, pen, _, 2, 2, rfl, rfl, h1, rfl, _, rfl, ?_⟩
    obtain ⟨q1, q2⟩ := modLt z (m := (m : Int)) (by omega)
    obtain ⟨j, hj⟩ : ∃ j : Nat, z % (m : Int) = (j : Int) := ⟨(z % (m : Int)).toNat, by omega⟩
    have nsp := penNe h1 hs
    show Q (V.int (z % (m : Int))) _
    rw [hj]
    refine k _ j (by omega) b.upd ⟨ns, i, z / (m : Int), upd_same, by rw [upd_ne nsp]; exact hs, hl⟩
  obtain ⟨ns, i, z, h1, hs, hl⟩ := id hp
  have nsp := penNe h1 hs
  -- behind the cell
  obtain ⟨t3, h3, f3⟩ : ∃ t3, PSs (cxOf CX0 P w K mg base n_law_e_take "_law_e_take" (defScope s_law_e_take) f cdv A outer s H E).nox ((thenOf ((defBody s_law_e_take).headD (.Pass ⟨0, 0, 0, 0⟩))).drop 3) t3 ∧
      ∀ (D : Ends), (∀ (o2 o3 o4 : Option V) (H' : Hp), But pen H H' → PenAt H' pen sp → D.nx [some (.ref pen), some (.int (m : Int)), o2, o3, o4, none] H') → ∀ c : Int, t3 D [some (.ref pen), some (.int (m : Int)), some (.int (i : Int)), some (.int c), none, none] H := by
    refine ⟨_, (pss_cons (ps_asg (pe_op op_add (pv 2) pe_int) (pg_sub (pv 0) pe_int set_list))
    (pss_cons (ps_asg (pv 3) (pg_sub (pv 0) pe_int set_list))
    (pss_one (ps_if (pt_cmpR op_lt (pv 3) (pe_op op_pow pe_int pe_int) (nomark _)) (pss_cons (ps_set (i := 4) sc_law_e_take.nd rfl (Or.inl rfl) (pe_op op_mod (pe_op op_add (pe_op op_add (pe_op op_mul (pe_op op_mod (pv 3) pe_int) pe_int) (pe_op op_mul (pv 2) pe_int)) pe_int) pe_int))
    (pss_cons (ps_set (i := 4) sc_law_e_take.nd rfl (Or.inl rfl) (pe_op op_mod (pe_op op_add (pe_op op_add (pe_op op_mul (pv 4) (pv 4)) (pe_op op_mul (pv 2) pe_int)) pe_int) pe_int))
    (pss_one (ps_asg (pe_op op_add (pe_op op_mul (pv 4) pe_int) (pe_op op_mod (pe_op op_add (pe_op op_mul (pv 4) (pv 4)) (pe_op op_mul pe_int (pv 2))) pe_int)) (pg_sub (pv 0) pe_int set_list))))) pss_nil)))), ?_⟩
    intro D f2 c
    have w1 : (upd (upd H pen (.lst ((penL sp i z).set 1 (.int ((i : Int) + 1))))) pen (.lst (((penL sp i z).set 1 (.int ((i : Int) + 1))).set 2 (.int c)))) pen = some (.lst (penL sp (i + 1) c)) := by
      rw [upd_same]
      unfold penL
      rw [Int.natCast_add]
      rfl
    have w2 : PenAt (upd (upd H pen (.lst ((penL sp i z).set 1 (.int ((i : Int) + 1))))) pen (.lst (((penL sp i z).set 1 (.int ((i : Int) + 1))).set 2 (.int c)))) pen sp := ⟨ns, i + 1, c, w1, by rw [upd_ne nsp, upd_ne nsp]; exact hs, hl⟩
    refine ⟨_, rfl, _, _, rfl, rfl, _, rfl, pen, _, 1, 1, rfl, rfl, h1, rfl, ?_⟩
    refine ⟨_, rfl, _, rfl, pen, _, 2, 2, rfl, rfl, upd_same, rfl, ?_⟩
    refine ⟨_, rfl, _, _, rfl, rfl, ⟨by decide, by decide, by decide⟩, _, _, rfl, rfl, _, rfl, ite2 (fun _ => ?_) (fun _ => f2 _ _ _ _ (But.refl.upd.upd) w2)⟩
    refine ⟨_, rfl, _, _, rfl, rfl, (by show (0 : Int) < 2147483629; decide), _, _, rfl, rfl, .inr ⟨by decide, by decide⟩, _, rfl, _, _, rfl, rfl, .inr ⟨by decide, by decide⟩, _, _, rfl, rfl, _, _, rfl, rfl, _, _, rfl, rfl, (by show (0 : Int) < 2147483587; decide), ?_⟩
    dsimp only
    obtain ⟨m1, m2⟩ := modLt (c % 2147483629 * 48271 + (i : Int) * 69621 + 101) (m := 2147483587) (by decide)
    generalize (c % 2147483629 * 48271 + (i : Int) * 69621 + 101) % 2147483587 = x at m1 m2 ⊢
    refine ⟨_, rfl, _, rfl, _, _, rfl, rfl, .inl ⟨by omega, by omega⟩, _, rfl, _, _, rfl, rfl, .inr ⟨by decide, by decide⟩, _, _, rfl, rfl, _, _, rfl, rfl, _, _, rfl, rfl, (by show (0 : Int) < 2147483563; decide), ?_⟩
    dsimp only
    obtain ⟨m3, m4⟩ := modLt (x * x + (i : Int) * 40014 + 7) (m := 2147483563) (by decide)
    generalize (x * x + (i : Int) * 40014 + 7) % 2147483563 = y at m3 m4 ⊢
    refine ⟨_, rfl, _, _, rfl, rfl, .inr ⟨by decide, by decide⟩, _, rfl, _, rfl, _, _, rfl, rfl, .inl ⟨by omega, by omega⟩, _, rfl, _, _, rfl, rfl, .inl ⟨by decide, by decide⟩, _, _, rfl, rfl, _, _, rfl, rfl, (by show (0 : Int) < 2147483549; decide), _, _, rfl, rfl, ?_⟩
    refine ⟨_, rfl, pen, _, 2, 2, rfl, rfl, upd_same, rfl, ?_⟩
    refine f2 _ _ _ _ But.refl.upd.upd.upd ⟨ns, i + 1, _, by rw [upd_same]; unfold penL; rw [Int.natCast_add]; rfl, by rw [upd_ne nsp, upd_ne nsp, upd_ne nsp]; exact hs, hl⟩
  refine ⟨_, (pss_cons (ps_if (pt_cmpR op_lt (pe_ix ix_list (pv 0) pe_int (fun _ _ => rfl)) (pv 1) (nomark _)) (pss_cons (ps_set (i := 2) sc_law_e_take.nd rfl (Or.inl rfl) (pe_ix ix_list (pv 0) pe_int (fun _ _ => rfl)))
    (pss_cons (ps_set (i := 3) sc_law_e_take.nd rfl (Or.inl rfl) pe_int)
    (pss_cons (ps_if (pt_cmpR op_lt (pv 2) (pe_callB call_len_seq (by rfl) b_len PySem.boot_len (pa_cons (pe_ix ix_list (pv 0) pe_int (fun _ _ => rfl)) pa_nil)) (nomark _)) (pss_one (ps_set (i := 3) sc_law_e_take.nd rfl (Or.inl rfl) (pe_ix ix_list (pe_ix ix_list (pv 0) pe_int (fun _ _ => rfl)) (pv 2) (fun _ _ => rfl)))) (pss_one (ps_if (pt_cmpR op_gt (pe_callB call_len_seq (by rfl) b_len PySem.boot_len (pa_cons (pe_ix ix_list (pv 0) pe_int (fun _ _ => rfl)) pa_nil)) pe_int (nomark _)) (pss_one (ps_set (i := 3) sc_law_e_take.nd rfl (Or.inl rfl) (pe_op op_mod (pe_ix ix_list (pe_ix ix_list (pv 0) pe_int (fun _ _ => rfl)) (pe_op op_mod (pe_op op_mul (pv 2) pe_int) (pe_callB call_len_seq (by rfl) b_len PySem.boot_len (pa_cons (pe_ix ix_list (pv 0) pe_int (fun _ _ => rfl)) pa_nil))) (fun _ _ => rfl)) pe_int))) pss_nil)))
    h3))) pss_nil)
    h2), ?_⟩
  refine ⟨_, rfl, pen, _, 2, _, rfl, rfl, sL h1, atI_nat (j := 2) rfl, _, rfl, _, _, rfl, rfl, _, rfl, ite2 (fun _ => ?_) (fun _ => f2 _ _ _ H .refl hp)⟩
  refine ⟨_, rfl, pen, _, 1, _, rfl, rfl, sL h1, atI_nat (j := 1) rfl, ?_⟩
  refine ⟨_, rfl, _, rfl, pen, _, 0, _, rfl, rfl, sL h1, atI_nat (j := 0) rfl, sp, _, rfl, .inl (sL hs), _, _, rfl, rfl, _, rfl, ?_⟩
  rw [List.length_map]
  refine ite2 (fun hlt => ?_) (fun hlt => ?_)
  · have hlt' : (i : Int) < (ns.length : Int) := of_decide_eq_true hlt
    obtain ⟨c, hc⟩ : ∃ c, ns[i]? = some c := ⟨_, List.getElem?_eq_getElem (by omega)⟩
    refine ⟨_, rfl, pen, _, 0, _, rfl, rfl, sL h1, atI_nat (j := 0) rfl, _, rfl, sp, _, _, _, rfl, rfl, sL hs, atI_nat (j := i) (v := V.int c) (by rw [List.getElem?_map, hc]; rfl), ?_⟩
    exact f3 _ (fun o2 o3 o4 H' b q => f2 o2 o3 o4 H' b q) c
  · refine ⟨_, rfl, pen, _, 0, _, rfl, rfl, sL h1, atI_nat (j := 0) rfl, sp, _, rfl, .inl (sL hs), _, _, rfl, rfl, _, rfl, ?_⟩
    rw [List.length_map]
    refine ite2 (fun hpos => ?_) (fun _ => f3 _ (fun o2 o3 o4 H' b q => f2 o2 o3 o4 H' b q) 0)
    have hpos' : (0 : Int) < (ns.length : Int) := of_decide_eq_true hpos
    obtain ⟨q1, q2⟩ := modLt ((i : Int) * 5) hpos'
    obtain ⟨j, hj⟩ : ∃ j : Nat, (i : Int) * 5 % (ns.length : Int) = (j : Int) := ⟨((i : Int) * 5 % (ns.length : Int)).toNat, by omega⟩
    obtain ⟨c, hc⟩ : ∃ c, ns[j]? = some c := ⟨_, List.getElem?_eq_getElem (by omega)⟩
    refine ⟨_, rfl, pen, _, 0, _, rfl, rfl, sL h1, atI_nat (j := 0) rfl, _, rfl, _, _, rfl, rfl, .inr ⟨by decide, by decide⟩, _, rfl, pen, _, 0, _, rfl, rfl, sL h1, atI_nat (j := 0) rfl, sp, _, rfl, .inl (sL hs), _, _, rfl, rfl, ?_⟩
    rw [List.length_map]
    refine ⟨hpos', sp, _, _, _, rfl, rfl, sL hs, at_of (j := j) (v := V.int c) hj (by rw [List.getElem?_map, hc]; rfl), _, _, rfl, rfl, (by show (0 : Int) < 1000000007; decide), ?_⟩
    exact f3 _ (fun o2 o3 o4 H' b q => f2 o2 o3 o4 H' b q) _
end
end Sw
set_option Elab.async false
set_option maxRecDepth 100000
set_option maxHeartbeats 8000000
namespace Sw
open PySem L2 PySem.Spec PyProof.Rows TL
instance decSL (x y : Str) : Decidable (SL x y) := inferInstanceAs (Decidable (x.cps.toList < y.cps.toList))
theorem join_one : ∀ cs : List Nat, joinL [] (cs.map fun c => [c]) = cs
  | [] => rfl
  | [c] => rfl
  | c :: d :: cs => by
    have ih := join_one (d :: cs)
    show [c] ++ ([] ++ joinL [] ((d :: cs).map fun c => [c])) = _
    rw [ih]
    rfl
def oneS (c : Nat) : Str := ⟨#[c]⟩
theorem join_word (cs : List Nat) : tl (Txt.join "" (cs.map oneS)) = cs := by
  rw [join_eq, tl_join, List.map_map]
  exact join_one cs
theorem word_sign {cs : List Nat} (h : cs.all letter = true) (h1 : 1 ≤ cs.length) (h6 : cs.length ≤ 6) : signS (Txt.join "" (cs.map oneS)) = true := by
  have e := join_word cs
  unfold signS
  have hl : (Txt.join "" (cs.map oneS)).length = cs.length := by rw [len_tl, e]
  rw [hl, decide_eq_true h1, decide_eq_true h6]
  show (true && true && (tl (Txt.join "" (cs.map oneS))).all letter) = true
  rw [e, h]
  rfl
def abc : Str := "abcdefghijklmnopqrstuvwxyz"
theorem abc_at (j : Nat) (h : j < 26) : ∃ c, (tl abc)[j]? = some c ∧ letter c = true := by
  have : ∀ j : Fin 26, (match (tl abc)[j.val]? with | some c => letter c | none => false) = true := by decide +kernel
  have := this ⟨j, h⟩
  cases e : (tl abc)[j]? with
  | none => rw [e] at this; cases this
  | some c => rw [e] at this; exact ⟨c, rfl, this⟩
theorem putKeys {kvs : List (Key × V)} {ks : List Str} {s : Str} {v : V} (h : kvs.map (·.1) = ks.map Sum.inr) (nd : ks.Nodup) (hs : signS s = true) (hk : ∀ t, t ∈ ks → signS t = true) : ∃ ks' : List Str, (putK kvs (.inr s) v).map (·.1) = ks'.map Sum.inr ∧ ks'.length ≤ ks.length + 1 ∧ ks' ≠ [] ∧ ks'.Nodup ∧ ∀ t, t ∈ ks' → signS t = true := by
  unfold putK
  split
  · rename_i hany
    refine ⟨ks, ?_, by omega, ?_, nd, hk⟩
    · rw [List.map_map, ← h]
      refine List.map_congr_left fun kv _ => ?_
      dsimp only [Function.comp]
      split <;> rfl
    · rintro rfl
      cases kvs with
      | nil => cases hany
      | cons a b => cases h
  · rename_i hany
    refine ⟨ks ++ [s], by rw [List.map_append, List.map_append, h]; rfl, by simp, by simp, ?_, fun t ht => ?_⟩
    · rw [List.nodup_append]
      refine ⟨nd, by simp, fun a ha b hb => ?_⟩
      rw [List.mem_singleton.mp hb]
      rintro rfl
      refine hany (List.any_eq_true.mpr ?_)
      have : (Sum.inr a : Key) ∈ kvs.map (·.1) := by rw [h]; exact List.mem_map.mpr ⟨a, ha, rfl⟩
      obtain ⟨kv, h1, h2⟩ := List.mem_map.mp this
      exact ⟨kv, h1, decide_eq_true h2⟩
    · rcases List.mem_append.mp ht with ht | ht
      · exact hk t ht
      · rw [List.mem_singleton.mp ht]; exact hs
section
variable {P : Program} {w : World} {K : PySem.W.Frag} {mg : Str → Option Value} {base : Heap}
abbrev n_law_e_signs : List Str := ["pen", "way", "letters", "found", "k", "word", "j"]
theorem sc_law_e_signs : FnScope n_law_e_signs ["pen"] (defScope s_law_e_signs) := ⟨rfl, rfl, rfl, by decide +kernel, rfl, by decide +kernel, by decide +kernel⟩
def spSigns : Sp := fun vs H Q _ => ∃ (pen sp : Addr), vs = [.ref pen] ∧ PenAt H pen sp ∧ ∀ H' sg (ss : List Str), But pen H H' → PenAt H' pen sp → H' sg = some (.lst (ss.map V.str)) → 0 < ss.length → ss.length ≤ 3 → ss.Pairwise SL → (∀ t, t ∈ ss → signS t = true) → Q (.ref sg) H'
theorem ok_law_e_signs (F : DefAt K mg "_law_e_signs" s_law_e_signs ["pen"]) (d__law_e_take : DefOk P w K mg base "_law_e_take" 1 ["pen", "many"] spTake) (b_range : mg "range" = none) (b_sorted : mg "sorted" = none) : DefOk P w K mg base "_law_e_signs" 2 ["pen"] spSigns := by
  refine F.ok sc_law_e_signs (fun vs H Q E h => ?_) (fun f cdv A outer s H vs Q E hr h => ?_)
  · obtain ⟨_, _, rfl, _⟩ := h
    rfl
  obtain ⟨pen, sp, rfl, hp, k⟩ := h
  have hu := hu_of hr
  refine ⟨_, (pss_cons (ps_set (i := 1) sc_law_e_signs.nd rfl (Or.inl rfl) (pe_callD d__law_e_take (hr.mono (by decide)) rfl (pa_cons (pv 0) (pa_cons pe_int pa_nil))))
    (pss_cons (ps_if (pt_cmpR op_lt (pv 1) pe_int (nomark _)) (pss_one (ps_ret (pe_ix ix_list (pe_lst (pa_cons (pe_lst (pa_cons pe_str (pa_cons pe_str pa_nil))) (pa_cons (pe_lst (pa_cons pe_str (pa_cons pe_str (pa_cons pe_str pa_nil)))) (pa_cons (pe_lst (pa_cons pe_str (pa_cons pe_str (pa_cons pe_str pa_nil)))) (pa_cons (pe_lst (pa_cons pe_str (pa_cons pe_str (pa_cons pe_str pa_nil)))) pa_nil))))) (pv 1) (fun _ _ => rfl)))) pss_nil)
    (pss_cons (ps_set (i := 2) sc_law_e_signs.nd rfl (Or.inr rfl) pe_str)
    (pss_cons (ps_set (i := 3) sc_law_e_signs.nd rfl (Or.inl rfl) pe_dnewK)
    (pss_cons (ps_for PassesOwn.never rfl (pi_range1 rfl b_range (pa_cons (pe_op op_add pe_int (pe_op op_mod (pv 1) pe_int)) pa_nil)) (pg_name (i := 4) sc_law_e_signs.nd rfl (Or.inl rfl))
      (pss_cons (ps_setLc (i := 5) (own := [("j", 6)]) (g := gName 6) rfl sc_law_e_signs.nd rfl rfl (sw_true rfl rfl rfl (by decide +kernel)) (pi_range1 rfl b_range (pa_cons (pe_op op_add pe_int (pe_callD d__law_e_take (hr.mono (by decide)) rfl (pa_cons (pv 0) (pa_cons pe_int pa_nil)))) pa_nil)) (blkOk_by (own := [("j", 6)]) (N := n_law_e_signs) (sc := defScope s_law_e_signs) (by decide +kernel)) (fun _ _ _ _ _ => (pg_name (i := 6) sc_law_e_signs.nd rfl (Or.inl rfl))) (fun _ _ _ _ _ => pts_nil) (fun _ _ _ _ _ => (pe_ix ix_str (pv 2) (pe_callD d__law_e_take (hr.mono (by decide)) rfl (pa_cons (pv 0) (pa_cons pe_int pa_nil))) (fun _ _ => rfl))))
    (pss_one (ps_dput hu (pv 3) (pe_join pe_str (pv 5)) pe_bl rfl))))
    (pss_one (ps_ret (pe_callB (call_sortedD rfl) (by rfl) b_sorted (by decide +kernel) (pa_cons (pv 3) pa_nil))))))))), ?_⟩
  refine ⟨_, rfl, pen, sp, 8, rfl, by decide, by decide, hp, fun H1 y hy b1 p1 => ?_⟩
  refine ⟨_, rfl, _, _, rfl, rfl, _, rfl, ite2 (fun hlt => ?_) (fun _ => ?_)⟩
  · have hy4 : y < 4 := by have := of_decide_eq_true hlt; omega
    refine ⟨(by show 2 ≤ sizeLine; decide), fun l1 n1 => ⟨(by show 3 ≤ sizeLine; decide), fun l2 n2 => ⟨(by show 3 ≤ sizeLine; decide), fun l3 n3 => ⟨(by show 3 ≤ sizeLine; decide), fun l4 n4 => ⟨(by show 4 ≤ sizeLine; decide), fun L nL => ?_⟩⟩⟩⟩⟩
    have q1 : Same H1 (upd H1 l1 (.lst [.str "a", .str "b"])) := .new n1
    have t1 : (upd H1 l1 (.lst [.str "a", .str "b"])) l1 = some (.lst [.str "a", .str "b"]) := upd_same
    generalize upd H1 l1 (.lst [.str "a", .str "b"]) = A1 at *
    have q2 : Same A1 (upd A1 l2 (.lst [.str "a", .str "ab", .str "b"])) := .new n2
    have t2 : (upd A1 l2 (.lst [.str "a", .str "ab", .str "b"])) l2 = some (.lst [.str "a", .str "ab", .str "b"]) := upd_same
    generalize upd A1 l2 (.lst [.str "a", .str "ab", .str "b"]) = A2 at *
    have q3 : Same A2 (upd A2 l3 (.lst [.str "b", .str "ba", .str "c"])) := .new n3
    have t3 : (upd A2 l3 (.lst [.str "b", .str "ba", .str "c"])) l3 = some (.lst [.str "b", .str "ba", .str "c"]) := upd_same
    generalize upd A2 l3 (.lst [.str "b", .str "ba", .str "c"]) = A3 at *
    have q4 : Same A3 (upd A3 l4 (.lst [.str "z", .str "zz", .str "zzzzzz"])) := .new n4
    have t4 : (upd A3 l4 (.lst [.str "z", .str "zz", .str "zzzzzz"])) l4 = some (.lst [.str "z", .str "zz", .str "zzzzzz"]) := upd_same
    generalize upd A3 l4 (.lst [.str "z", .str "zz", .str "zzzzzz"]) = A4 at *
    have q5 : Same A4 (upd A4 L (.lst [.ref l1, .ref l2, .ref l3, .ref l4])) := .new nL
    have tL : (upd A4 L (.lst [.ref l1, .ref l2, .ref l3, .ref l4])) L = some (.lst [.ref l1, .ref l2, .ref l3, .ref l4]) := upd_same
    generalize upd A4 L (.lst [.ref l1, .ref l2, .ref l3, .ref l4]) = A5 at *
    have q15 := ((((q1.trans q2).trans q3).trans q4).trans q5)
    have hall : ∀ m : Nat, m < 4 → ∃ (li : Addr) (ss : List Str), ([.ref l1, .ref l2, .ref l3, .ref l4] : List V)[m]? = some (.ref li) ∧ A5 li = some (.lst (ss.map V.str)) ∧ 0 < ss.length ∧ ss.length ≤ 3 ∧ ss.Pairwise SL ∧ (∀ t, t ∈ ss → signS t = true) := by
      have sgAll : ∀ l : List Str, l.all signS = true → ∀ t, t ∈ l → signS t = true := fun l h => List.all_eq_true.mp h
      intro m hm
      match m, hm with
      | 0, _ => exact ⟨l1, ["a", "b"], rfl, q5 _ _ (q4 _ _ (q3 _ _ (q2 _ _ t1))), by decide, by decide, by decide +kernel, sgAll _ (by decide +kernel)⟩
      | 1, _ => exact ⟨l2, ["a", "ab", "b"], rfl, q5 _ _ (q4 _ _ (q3 _ _ t2)), by decide, by decide, by decide +kernel, sgAll _ (by decide +kernel)⟩
      | 2, _ => exact ⟨l3, ["b", "ba", "c"], rfl, q5 _ _ (q4 _ _ t3), by decide, by decide, by decide +kernel, sgAll _ (by decide +kernel)⟩
      | 3, _ => exact ⟨l4, ["z", "zz", "zzzzzz"], rfl, q5 _ _ t4, by decide, by decide, by decide +kernel, sgAll _ (by decide +kernel)⟩
    obtain ⟨li, ss, e1, e2, e3, e4, e5, e6⟩ := hall y hy4
    refine ⟨_, rfl, L, _, _, _, rfl, rfl, sL tL, atI_nat (j := y) e1, ?_⟩
    exact k A5 li ss (b1.trans (.of q15)) (p1.same q15) e2 e3 e4 e5 e6
  · intro d nd
    obtain ⟨r1, r2⟩ := modLt (y : Int) (m := 2) (by decide)
    refine ⟨_, rfl, _, _, rfl, rfl, (by show (0 : Int) < 2; decide), _, _, rfl, rfl, _, rfl, by omega, by omega, ?_⟩
    have hn1 : 0 < (2 + (y : Int) % 2).toNat ∧ (2 + (y : Int) % 2).toNat ≤ 3 := by omega
    refine for_range (lo := 0) (n := (2 + (y : Int) % 2).toNat) (fun i σ H' => ∃ (kvs : List (Key × V)) (ks : List Str) (o4 o5 : Option V), σ = [some (.ref pen), some (.int (y : Int)), some (.str "abcdefghijklmnopqrstuvwxyz"), some (.ref d), o4, o5, none] ∧ But pen H1 H' ∧ PenAt H' pen sp ∧ H' d = some (.dK kvs) ∧ kvs.map (·.1) = ks.map Sum.inr ∧ ks.length ≤ i ∧ (0 < i → ks ≠ []) ∧ ks.Nodup ∧ ∀ t, t ∈ ks → signS t = true)
      ⟨[], [], none, none, rfl, .of (.new nd), p1.same (.new nd), upd_same, rfl, Nat.zero_le _, fun h => absurd h (by omega), by simp, fun t h => by cases h⟩ ?_ ?_
    · rintro i σ H2 hi ⟨kvs, ks, o4, o5, rfl, b2, p2, hd, hk, hl, _, hknd, hksg⟩
      refine ⟨_, rfl, pen, sp, 6, rfl, by decide, by decide, p2, fun H3 u hu6 b3 p3 => ⟨_, _, rfl, rfl, _, rfl, by omega, by omega, fun D hD => ?_⟩⟩
      have nd' : d ≠ pen := by
        obtain ⟨_, _, _, x1, _⟩ := p2
        rintro rfl
        rw [x1] at hd
        cases hd
      have hd3 := b3 _ _ hd nd'
      have hm : (1 + (u : Int)).toNat ≤ 6 := by omega
      refine lc_range (lo := 0) (n := (1 + (u : Int)).toNat) (fun i H' => ∃ ws : List Nat, But pen H3 H' ∧ PenAt H' pen sp ∧ H' D = some (.lst ((ws.map oneS).map V.str)) ∧ ws.length = i ∧ ws.all letter = true)
        ⟨[], .of (.new hD), p3.same (.new hD), upd_same, rfl, rfl⟩ ?_ ?_
      · rintro j H4 hj ⟨ws, b4, p4, hw, hwl, hw1⟩
        refine ⟨rfl, ?_⟩
        refine ⟨_, rfl, _, rfl, pen, sp, 26, rfl, by decide, by decide, p4, fun H5 c hc b5 p5 => ?_⟩
        obtain ⟨ch, hch, hlt⟩ := abc_at c hc
        refine ⟨_, _, ch, rfl, rfl, by decide +kernel, atI_nat hch, ?_⟩
        have hw5 := p4.strs b5 hw
        refine ⟨_, hw5, szb (by rw [List.length_map, List.length_map]; omega), ws ++ [ch], butW (b4.trans b5) hD, p5.w p3 hD, by rw [upd_same, List.map_append, List.map_append]; rfl, by rw [List.length_append, hwl]; rfl, ?_⟩
        rw [List.all_append, hw1]
        show (true && (letter ch && true)) = true
        rw [hlt]
        rfl
      · rintro H4 ⟨ws, b4, p4, hw, hwl, hw1⟩
        have hd4 := b4 _ _ hd3 nd'
        have hsum : ((ws.map oneS).map (·.length)).sum = ws.length := by
          clear hw hwl hw1
          induction ws with
          | nil => rfl
          | cons x l ih => simp only [List.map_cons, List.sum_cons, ih, List.length_cons]; show 1 + _ = _; omega
        refine ⟨_, rfl, ⟨_, rfl⟩, _, rfl, "", D, ws.map oneS, rfl, rfl, .inl (sL hw), ?_, d, _, rfl, DPut.k (k := .inr _) hd4 (szb (by have := congrArg List.length hk; rw [List.length_map, List.length_map] at this; omega)), ?_⟩
        · rw [hsum]
          have : (Str.ofString "").length = 0 := rfl
          rw [this]
          omega
        · obtain ⟨ks', g1, g2, g3, g4, g5⟩ := putKeys (s := Txt.join "" (ws.map oneS)) (v := V.bl true) hk hknd (word_sign hw1 (by omega) (by omega)) hksg
          have nl : ∀ l, (HO.dK kvs) ≠ .lst l := fun l e => by cases e
          obtain ⟨ns, ii, z, x1, x2, x3⟩ := id p4
          have nsd : sp ≠ d := by rintro rfl; rw [hd4] at x2; cases x2
          refine ⟨_, ks', _, _, rfl, ?_, ⟨ns, ii, z, by rw [upd_ne nd'.symm]; exact x1, by rw [upd_ne nsd]; exact x2, x3⟩, upd_same, g1, by omega, fun _ => g3, g4, g5⟩
          exact butW (b2.trans (b3.trans b4)) nd
    · rintro σ H2 ⟨kvs, ks, o4, o5, rfl, b2, p2, hd, hk, hl, hne, hknd, hksg⟩
      refine ⟨_, rfl, d, kvs, ks, rfl, .inl hd, hk, by omega, fun ys p hperm hsort hp' => ?_⟩
      have hlen := hperm.length_eq
      have hpos : 0 < ks.length := by
        cases ks with
        | nil => exact absurd rfl (hne hn1.1)
        | cons a b => simp
      exact k _ p ys (b1.trans (b2.trans (.of (.new hp')))) (p2.same (.new hp')) upd_same (by omega) (by omega) (sortedS_up hsort (hperm.nodup_iff.mpr hknd)) fun t ht => hksg t (hperm.mem_iff.mp ht)
end
end Sw
set_option Elab.async false
set_option maxRecDepth 100000
set_option maxHeartbeats 8000000
namespace Sw
open PySem L2 PySem.Spec PyProof.Rows
/-- the steps of room i, the first j signs asked -/
structure LG (ss : List Str) (n i along j : Nat) (L : List Stp) : Prop where
  len : L.length ≤ j
  lt : ∀ p, p ∈ L → p.2 < n
  sub : (L.map (·.1)).Sublist (ss.take j)
  on : along < j → i + 1 < n → i + 1 ∈ L.map (·.2)
theorem LG.start {ss : List Str} {n i along : Nat} : LG ss n i along 0 [] := ⟨Nat.le_refl _, (fun p h => by cases h), by simp, fun h => absurd h (by omega)⟩
theorem LG.skip {ss : List Str} {n i along j : Nat} {L : List Stp} (h : LG ss n i along j L) (hj : j = along → ¬ (i + 1 < n)) : LG ss n i along (j + 1) L := by
  refine ⟨by have := h.len; omega, h.lt, h.sub.trans ?_, fun h1 h2 => ?_⟩
  · rw [List.take_add_one]
    exact List.sublist_append_left _ _
  · by_cases e : along < j
    · exact h.on e h2
    · exact absurd h2 (hj (by omega))
theorem LG.add {ss : List Str} {n i along j q : Nat} {L : List Stp} {x : Str} (h : LG ss n i along j L) (hx : ss[j]? = some x) (hq : q < n) (hj : j = along → i + 1 < n → q = i + 1) : LG ss n i along (j + 1) (L ++ [(x, q)]) := by
  refine ⟨by rw [List.length_append, List.length_singleton]; have := h.len; omega, fun p hp => ?_, ?_, fun h1 h2 => ?_⟩
  · rcases List.mem_append.mp hp with hp | hp
    · exact h.lt p hp
    · rw [List.mem_singleton.mp hp]; exact hq
  · rw [List.map_append, List.take_add_one, hx]
    exact List.Sublist.append h.sub (List.Sublist.refl _)
  · rw [List.map_append, List.mem_append]
    by_cases e : along < j
    · exact .inl (h.on e h2)
    · right
      rw [hj (by omega) h2]
      simp
/-- room i of n -/
structure RmG (ss : List Str) (n i : Nat) (r : Rm) : Prop where
  len : r.2.length ≤ 3
  lt : ∀ p, p ∈ r.2 → p.2 < n
  sub : (r.2.map (·.1)).Sublist ss
  on : i + 1 < n → i + 1 ∈ r.2.map (·.2)
  last : i + 1 = n → r.1 = true
def MG (ss : List Str) (n : Nat) (M : List Rm) : Prop := ∀ i r, M[i]? = some r → RmG ss n i r
theorem MG.isM {ss : List Str} {M : List Rm} (h : MG ss M.length M) (h0 : 0 < M.length) (hm : M.length ≤ 200) (h3 : ss.length ≤ 3) (hs : ss.Pairwise SL) (hg : ∀ t, t ∈ ss → signS t = true) : IsM M := by
  have rg : ∀ k, k < M.length → ∃ r, M[k]? = some r ∧ RmG ss M.length k r := fun k hk => ⟨_, List.getElem?_eq_getElem hk, h k _ (List.getElem?_eq_getElem hk)⟩
  have nxt : ∀ k, k + 1 < M.length → k + 1 ∈ Eg M k := fun k hk => by
    obtain ⟨r, hr, g⟩ := rg k (by omega)
    unfold Eg
    rw [stepsOf_at hr]
    exact g.on hk
  refine ⟨h0, hm, fun r hr => ?_, ?_, fun k hk => ?_, fun k hk => ?_⟩
  · obtain ⟨k, hk, e⟩ := List.mem_iff_getElem.mp hr
    obtain ⟨r', hr', g⟩ := rg k hk
    rw [List.getElem?_eq_getElem hk, e] at hr'
    cases hr'
    exact ⟨fun p hp => ⟨hg _ (g.sub.subset (List.mem_map.mpr ⟨p, hp, rfl⟩)), g.lt p hp⟩, List.Pairwise.sublist g.sub hs⟩
  · refine Nat.le_trans (nd_le (nubL_nd _) (L := ss) fun x hx => ?_) (by omega)
    have hx := nubL_mem.mp hx
    unfold sgs at hx
    obtain ⟨l, hl, hxl⟩ := List.mem_flatten.mp hx
    obtain ⟨r, hr, rfl⟩ := List.mem_map.mp hl
    obtain ⟨k, hk, e⟩ := List.mem_iff_getElem.mp hr
    obtain ⟨r', hr', g⟩ := rg k hk
    rw [List.getElem?_eq_getElem hk, e] at hr'
    cases hr'
    exact g.sub.subset hxl
  · induction k with
    | zero => exact .refl _
    | succ k ih => exact (ih (by omega)).snoc (nxt k hk)
  · refine ⟨M.length - 1, by omega, ?_, ?_⟩
    · obtain ⟨r, hr, g⟩ := rg (M.length - 1) (by omega)
      exact (endR_at hr).trans (g.last (by omega))
    · have : ∀ d k, k + d = M.length - 1 → RT (Eg M) k (M.length - 1) := fun d => by
        induction d with
        | zero => intro k e; rw [show k = M.length - 1 by omega]; exact .refl _
        | succ d ih => intro k e; exact RT.trans (RT.one (nxt k (by omega))) (ih (k + 1) (by omega))
      exact this (M.length - 1 - k) k (by omega)
section
variable {P : Program} {w : World} {K : PySem.W.Frag} {mg : Str → Option Value} {base : Heap}
abbrev n_law_e_machine : List Str := ["pen", "signs", "most", "many", "rooms", "k", "along", "led", "at"]
theorem sc_law_e_machine : FnScope n_law_e_machine ["pen", "signs", "most"] (defScope s_law_e_machine) := ⟨rfl, rfl, rfl, by decide +kernel, rfl, by decide +kernel, by decide +kernel⟩
def spMachine (K : PySem.W.Frag) : Sp := fun vs H Q _ => ∃ (pen sp sg : Addr) (ss : List Str) (m : Nat), vs = [.ref pen, .ref sg, .int (m : Int)] ∧ 0 < m ∧ m ≤ 900 ∧ PenAt H pen sp ∧ H sg = some (.lst (ss.map V.str)) ∧ 0 < ss.length ∧ ss.length ≤ 3 ∧
  ∀ H' v M, But pen H H' → PenAt H' pen sp → Dp K H' v (maD M) → 0 < M.length → M.length ≤ m → MG ss M.length M → Q v H'
theorem ok_law_e_machine (F : DefAt K mg "_law_e_machine" s_law_e_machine ["pen", "signs", "most"]) (d__law_e_take : DefOk P w K mg base "_law_e_take" 1 ["pen", "many"] spTake) (b_len : mg "len" = none) (b_range : mg "range" = none) (b_tuple : mg "tuple" = none) : DefOk P w K mg base "_law_e_machine" 2 ["pen", "signs", "most"] (spMachine K) := by
  refine F.ok sc_law_e_machine (fun vs H Q E h => ?_) (fun f cdv A outer s H vs Q E hr h => ?_)
  · obtain ⟨_, _, _, _, _, rfl, _⟩ := h
    rfl
  obtain ⟨pen, sp, sg, ss, m, rfl, hm0, hm1, hp, hsg, hs0, hs3, k⟩ := h
  refine ⟨_, (pss_cons (ps_set (i := 3) sc_law_e_machine.nd rfl (Or.inl rfl) (pe_op op_add pe_int (pe_callD d__law_e_take (hr.mono (by decide)) rfl (pa_cons (pv 0) (pa_cons (pv 2) pa_nil)))))
    (pss_cons (ps_set (i := 4) sc_law_e_machine.nd rfl (Or.inl rfl) (pe_lst pa_nil))
    (pss_cons (ps_for PassesOwn.never rfl (pi_range1 rfl b_range (pa_cons (pv 3) pa_nil)) (pg_name (i := 5) sc_law_e_machine.nd rfl (Or.inl rfl))
      (pss_cons (ps_set (i := 6) sc_law_e_machine.nd rfl (Or.inl rfl) (pe_callD d__law_e_take (hr.mono (by decide)) rfl (pa_cons (pv 0) (pa_cons (pe_callB call_len_seq (by rfl) b_len PySem.boot_len (pa_cons (pv 1) pa_nil)) pa_nil))))
    (pss_cons (ps_set (i := 7) sc_law_e_machine.nd rfl (Or.inl rfl) (pe_lst pa_nil))
    (pss_cons (ps_for PassesOwn.never rfl (pi_range1 rfl b_range (pa_cons (pe_callB call_len_seq (by rfl) b_len PySem.boot_len (pa_cons (pv 1) pa_nil)) pa_nil)) (pg_name (i := 8) sc_law_e_machine.nd rfl (Or.inl rfl))
      (pss_one (ps_if (PW.pt (pw_and (pt_cmpR op_eq (pv 8) (pv 6) (nomark _)) (pw_and1 (pt_cmpR op_lt (pe_op op_add (pv 5) pe_int) (pv 3) (nomark _))))) (pss_one (ps_expr (pe_bm PySem.F.plainAttrs_list PySem.F.slot_list_append PySem.F.type_list_append mt_append (pv 7) (pa_cons (pe_tup (pa_cons (pe_ix ix_list (pv 1) (pv 8) (fun _ _ => rfl)) (pa_cons (pe_op op_add (pv 5) pe_int) pa_nil))) pa_nil)))) (pss_one (ps_if (pt_cmpR op_eq (pe_callD d__law_e_take (hr.mono (by decide)) rfl (pa_cons (pv 0) (pa_cons pe_int pa_nil))) pe_int (nomark _)) (pss_one (ps_expr (pe_bm PySem.F.plainAttrs_list PySem.F.slot_list_append PySem.F.type_list_append mt_append (pv 7) (pa_cons (pe_tup (pa_cons (pe_ix ix_list (pv 1) (pv 8) (fun _ _ => rfl)) (pa_cons (pe_callD d__law_e_take (hr.mono (by decide)) rfl (pa_cons (pv 0) (pa_cons (pv 3) pa_nil))) pa_nil))) pa_nil)))) pss_nil)))))
    (pss_one (ps_expr (pe_bm PySem.F.plainAttrs_list PySem.F.slot_list_append PySem.F.type_list_append mt_append (pv 4) (pa_cons (pe_tup (pa_cons (pe_or (pe_cmpR op_eq (pe_op op_add (pv 5) pe_int) (pv 3) (nomark _)) (pe_one (pe_cmpR op_eq (pe_callD d__law_e_take (hr.mono (by decide)) rfl (pa_cons (pv 0) (pa_cons pe_int pa_nil))) pe_int (nomark _)))) (pa_cons (pe_callTy call_tuple_of (by rfl) b_tuple (by decide +kernel) (pa_cons (pv 7) pa_nil)) pa_nil))) pa_nil))))))))
    (pss_one (ps_ret (pe_callTy call_tuple_of (by rfl) b_tuple (by decide +kernel) (pa_cons (pv 4) pa_nil))))))), ?_⟩
  refine ⟨_, rfl, _, rfl, pen, sp, m, rfl, hm0, by omega, hp, fun H1 y hy b1 p1 => ?_⟩
  have hsg1 := hp.strs b1 hsg
  refine ⟨_, _, rfl, rfl, (by show 0 ≤ sizeLine; decide), fun R nR => ?_⟩
  have nRp : R ≠ pen := by
    obtain ⟨_, _, _, x1, _⟩ := p1
    exact (ne_of_none x1 nR).symm
  refine ⟨_, rfl, _, rfl, by omega, by omega, ?_⟩
  have emany : (1 + (y : Int)) = ((y + 1 : Nat) : Int) := by omega
  refine for_range (lo := 0) (n := (1 + (y : Int)).toNat) (fun i σ H' => ∃ (rs : List V) (M : List Rm) (o5 o6 o7 o8 : Option V), σ = [some (.ref pen), some (.ref sg), some (.int (m : Int)), some (.int (1 + (y : Int))), some (.ref R), o5, o6, o7, o8] ∧ But pen H1 H' ∧ PenAt H' pen sp ∧ H' R = some (.lst rs) ∧ DpAll K H' rs (M.map rmD) ∧ M.length = i ∧ MG ss (y + 1) M)
    ⟨[], [], none, none, none, none, rfl, .of (.new nR), p1.same (.new nR), upd_same, .nil, rfl, fun i r h => by simp at h⟩ ?_ ?_
  · rintro i σ H2 hi ⟨rs, M, o5, o6, o7, o8, rfl, b2, p2, hR, hrs, hMl, hMo⟩
    have hi' : i < y + 1 := by omega
    have hsg2 := p1.strs b2 hsg1
    refine ⟨_, rfl, _, rfl, sg, _, rfl, .inl (sL hsg2), ?_⟩
    refine ⟨pen, sp, ss.length, by rw [List.length_map]; rfl, hs0, by omega, p2, fun H3 along hal b3 p3 => ⟨(by show 0 ≤ sizeLine; decide), fun D nD => ?_⟩⟩
    have hR3 := b3 _ _ hR nRp
    have hrs3 := p2.dps b3 (noLs_rm M) hrs
    have hsg3 := p2.strs b3 hsg2
    have nDp : D ≠ pen := by
      obtain ⟨_, _, _, x1, _⟩ := p3
      exact (ne_of_none x1 nD).symm
    have nDR : D ≠ R := (ne_of_none hR3 nD).symm
    have sD : Same H3 (upd H3 D (.lst [])) := .new nD
    refine ⟨_, rfl, sg, _, rfl, .inl (sL (sD _ _ hsg3)), _, rfl, by omega, by rw [List.length_map]; omega, ?_⟩
    refine for_range (lo := 0) (n := ((List.map V.str ss).length : Int).toNat) (fun j σ H' => ∃ (ls : List V) (L : List Stp) (o8 : Option V), σ = [some (.ref pen), some (.ref sg), some (.int (m : Int)), some (.int (1 + (y : Int))), some (.ref R), some (.int (0 + (i : Int))), some (.int (along : Int)), some (.ref D), o8] ∧ But pen H3 H' ∧ PenAt H' pen sp ∧ H' D = some (.lst ls) ∧ DpAll K H' ls (L.map stD) ∧ LG ss (y + 1) i along j L)
      ⟨[], [], o8, rfl, .of sD, p3.same sD, upd_same, .nil, LG.start⟩ ?_ ?_
    · rintro j σ H4 hj ⟨ls, L, o8, rfl, b4, p4, hD, hls, hLG⟩
      rw [List.length_map, Int.toNat_natCast] at hj
      have hsg4 := p3.strs b4 hsg3
      obtain ⟨x, hx⟩ : ∃ x, ss[j]? = some x := ⟨_, List.getElem?_eq_getElem hj⟩
      have hx' : (ss.map V.str)[j]? = some (V.str x) := by rw [List.getElem?_map, hx]; rfl
      -- one more step
      have one : ∀ (H5 : Hp) (t : Addr) (n : Nat), n < y + 1 → (j = along → i + 1 < y + 1 → n = i + 1) → But pen H4 H5 → PenAt H5 pen sp → H5 t = none → ∃ (ls' : List V) (L' : List Stp) (o8 : Option V), ([some (.ref pen), some (.ref sg), some (.int (m : Int)), some (.int (1 + (y : Int))), some (.ref R), some (.int (0 + (i : Int))), some (.int (along : Int)), some (.ref D), some (.int (0 + (j : Int)))] : L2.St) = [some (.ref pen), some (.ref sg), some (.int (m : Int)), some (.int (1 + (y : Int))), some (.ref R), some (.int (0 + (i : Int))), some (.int (along : Int)), some (.ref D), o8] ∧ But pen H3 (upd (upd H5 t (.tup [.str x, .int (n : Int)])) D (.lst (ls ++ [.ref t]))) ∧ PenAt (upd (upd H5 t (.tup [.str x, .int (n : Int)])) D (.lst (ls ++ [.ref t]))) pen sp ∧ (upd (upd H5 t (.tup [.str x, .int (n : Int)])) D (.lst (ls ++ [.ref t]))) D = some (.lst ls') ∧ DpAll K (upd (upd H5 t (.tup [.str x, .int (n : Int)])) D (.lst (ls ++ [.ref t]))) ls' (L'.map stD) ∧ LG ss (y + 1) i along (j + 1) L' := by
        intro H5 t n hn hon b5 p5 nt
        have s6 : Same H5 (upd H5 t (.tup [.str x, .int (n : Int)])) := .new nt
        have b46 : But pen H4 (upd H5 t (.tup [.str x, .int (n : Int)])) := b5.trans (.of s6)
        have hD6 := b46 _ _ hD nDp
        have hls6 := p4.dps b46 (noLs_st L) hls
        refine ⟨ls ++ [.ref t], L ++ [(x, n)], some (.int (0 + (j : Int))), rfl, butW (b4.trans b46) nD, (p5.same s6).w p3 nD, upd_same, ?_, hLG.add hx hn hon⟩
        rw [List.map_append]
        refine dpsApp (dpsW hD6 (noLs_st L) hls6) (.cons ?_ .nil)
        exact .tup (sqTW hD6 (sT upd_same)) (.cons (.str _) (.cons (.int _) .nil))
      have hlsl : ls.length ≤ j := by rw [dpsLen hls, List.length_map]; exact hLG.len
      have take1 : ∀ (H4' : Hp) (T : Prop), T → T := fun _ _ h => h
      refine ⟨_, rfl, _, rfl, rfl, _, rfl, ite2 (fun hat => ?_) (fun hat => iteF ?_)⟩
      · refine ⟨_, rfl, _, _, rfl, rfl, _, rfl, _, _, rfl, rfl, _, rfl, ite2 (fun hlt => ?_) (fun hnl => ?_)⟩
        · refine ⟨_, rfl, .inl ⟨rfl, _, sL hD⟩, ?_⟩
          refine ⟨_, rfl, _, rfl, sg, _, _, _, rfl, rfl, sL hsg4, at_of (j := j) (by omega) hx', _, rfl, _, _, rfl, rfl, (by show 2 ≤ sizeLine; decide), fun t nt => ?_⟩
          have hlt' := of_decide_eq_true hlt
          have hD5 := (Same.new (o := .tup [.str x, .int ((0 + (i : Int)) + 1)]) nt) _ _ hD
          refine ⟨D, ls, _, rfl, rfl, hD5, szb (by omega), ?_⟩
          have := one H4 t (i + 1) (by omega) (fun _ _ => rfl) .refl p4 nt
          rw [show (((i + 1 : Nat) : Int)) = 0 + (i : Int) + 1 by omega] at this
          exact this
        · refine ⟨_, rfl, pen, sp, 3, rfl, by decide, by decide, p4, fun H5 z hz b5 p5 => ⟨rfl, _, rfl, ite2 (fun _ => ?_) (fun _ => ?_)⟩⟩
          · refine ⟨_, rfl, .inl ⟨rfl, _, sL (b5 _ _ hD nDp)⟩, ?_⟩
            refine ⟨_, rfl, _, rfl, sg, _, _, _, rfl, rfl, sL (p4.strs b5 hsg4), at_of (j := j) (by omega) hx', _, rfl, _, rfl, pen, sp, y + 1, by rw [emany]; rfl, by omega, by omega, p5, fun H6 q hq b6 p6 => ⟨(by show 2 ≤ sizeLine; decide), fun t nt => ?_⟩⟩
            refine ⟨D, ls, _, rfl, rfl, Same.new nt _ _ ((b5.trans b6) _ _ hD nDp), szb (by omega), ?_⟩
            exact one H6 t q hq (fun _ h => absurd (decide_eq_true (show (0 + (i : Int)) + 1 < 1 + (y : Int) by omega)) hnl) (b5.trans b6) p6 nt
          · exact ⟨ls, L, _, rfl, b4.trans b5, p5, b5 _ _ hD nDp, p4.dps b5 (noLs_st L) hls, hLG.skip fun _ h => absurd (decide_eq_true (show (0 + (i : Int)) + 1 < 1 + (y : Int) by omega)) hnl⟩
      · refine ⟨_, rfl, pen, sp, 3, rfl, by decide, by decide, p4, fun H5 z hz b5 p5 => ⟨rfl, _, rfl, ite2 (fun _ => ?_) (fun _ => ?_)⟩⟩
        · refine ⟨_, rfl, .inl ⟨rfl, _, sL (b5 _ _ hD nDp)⟩, ?_⟩
          refine ⟨_, rfl, _, rfl, sg, _, _, _, rfl, rfl, sL (p4.strs b5 hsg4), at_of (j := j) (by omega) hx', _, rfl, _, rfl, pen, sp, y + 1, by rw [emany]; rfl, by omega, by omega, p5, fun H6 q hq b6 p6 => ⟨(by show 2 ≤ sizeLine; decide), fun t nt => ?_⟩⟩
          refine ⟨D, ls, _, rfl, rfl, Same.new nt _ _ ((b5.trans b6) _ _ hD nDp), szb (by omega), ?_⟩
          exact one H6 t q hq (fun e _ => absurd (decide_eq_true (show V.int (0 + (j : Int)) = V.int (along : Int) by rw [e, Int.zero_add])) hat) (b5.trans b6) p6 nt
        · exact ⟨ls, L, _, rfl, b4.trans b5, p5, b5 _ _ hD nDp, p4.dps b5 (noLs_st L) hls, hLG.skip fun e _ => absurd (decide_eq_true (show V.int (0 + (j : Int)) = V.int (along : Int) by rw [e, Int.zero_add])) hat⟩
    · rintro σ H4 ⟨ls, L, o8, rfl, b4, p4, hD, hls, hLG⟩
      have hR4 := b4 _ _ hR3 nRp
      -- one more room
      have one : ∀ (H5 : Hp) (l t : Addr) (bb : Bool), (i + 1 = y + 1 → bb = true) → But pen H4 H5 → PenAt H5 pen sp → H5 l = none → (upd H5 l (.tup ls)) t = none → ∃ (rs' : List V) (M' : List Rm) (o5 o6 o7 o8' : Option V), ([some (.ref pen), some (.ref sg), some (.int (m : Int)), some (.int (1 + (y : Int))), some (.ref R), some (.int (0 + (i : Int))), some (.int (along : Int)), some (.ref D), o8] : L2.St) = [some (.ref pen), some (.ref sg), some (.int (m : Int)), some (.int (1 + (y : Int))), some (.ref R), o5, o6, o7, o8'] ∧
          But pen H1 (upd (upd (upd H5 l (.tup ls)) t (.tup [.bl bb, .ref l])) R (.lst (rs ++ [.ref t]))) ∧ PenAt (upd (upd (upd H5 l (.tup ls)) t (.tup [.bl bb, .ref l])) R (.lst (rs ++ [.ref t]))) pen sp ∧ (upd (upd (upd H5 l (.tup ls)) t (.tup [.bl bb, .ref l])) R (.lst (rs ++ [.ref t]))) R = some (.lst rs') ∧ DpAll K (upd (upd (upd H5 l (.tup ls)) t (.tup [.bl bb, .ref l])) R (.lst (rs ++ [.ref t]))) rs' (M'.map rmD) ∧ M'.length = i + 1 ∧ MG ss (y + 1) M' := by
        intro H5 l t bb hbb b5 p5 nl nt
        have s6 : Same H5 (upd H5 l (.tup ls)) := .new nl
        have s7 : Same (upd H5 l (.tup ls)) (upd (upd H5 l (.tup ls)) t (.tup [.bl bb, .ref l])) := .new nt
        have b47 : But pen H4 (upd (upd H5 l (.tup ls)) t (.tup [.bl bb, .ref l])) := b5.trans (.of (s6.trans s7))
        have b37 := b4.trans b47
        have hR7 := b37 _ _ hR3 nRp
        have hls5 := p4.dps b5 (noLs_st L) hls
        refine ⟨rs ++ [.ref t], M ++ [(bb, L)], _, _, _, _, rfl, butW ((b2.trans b3).trans b37) nR, (p5.same (s6.trans s7)).w p1 nR, upd_same, ?_, by rw [List.length_append, List.length_singleton, hMl], fun u r hr => ?_⟩
        · rw [List.map_append]
          refine dpsApp (dpsW hR7 (noLs_rm M) (p3.dps b37 (noLs_rm M) hrs3)) (.cons ?_ .nil)
          refine .tup (sqTW hR7 (sT upd_same)) (.cons (.bl _) (.cons ?_ .nil))
          exact dpW hR7 (by rw [noL]; exact noLs_st L) (dpS s7 (.tup (sT upd_same) (dpsS s6 hls5)))
        · by_cases hu : u < M.length
          · rw [List.getElem?_append_left hu] at hr
            exact hMo u r hr
          · rw [List.getElem?_append_right (by omega)] at hr
            have hu0 : u - M.length = 0 := by
              cases e : u - M.length with
              | zero => rfl
              | succ d => rw [e] at hr; simp at hr
            rw [hu0] at hr
            simp at hr
            subst hr
            obtain rfl : u = i := by omega
            rw [List.length_map, Int.toNat_natCast] at hLG
            exact ⟨by have := hLG.len; show L.length ≤ 3; omega, hLG.lt, hLG.sub.trans (List.take_sublist _ _), fun h => hLG.on hal h, hbb⟩
      have hrl : rs.length = i := by rw [dpsLen hrs, List.length_map, hMl]
      refine ⟨_, rfl, .inl ⟨rfl, _, sL hR4⟩, ?_⟩
      refine ⟨_, rfl, _, _, rfl, rfl, _, rfl, rfl, _, rfl, ite2 (fun heq => ?_) (fun hne => ?_)⟩
      · refine ⟨_, rfl, D, ls, rfl, .inl ⟨sL hD, fun l nl => ⟨(by show 2 ≤ sizeLine; decide), fun t nt => ?_⟩⟩⟩
        refine ⟨R, rs, _, rfl, rfl, Same.new nt _ _ (Same.new nl _ _ hR4), szb (by omega), ?_⟩
        exact one H4 l t _ (fun _ => rfl) .refl p4 nl nt
      · refine ⟨_, rfl, pen, sp, 3, rfl, by decide, by decide, p4, fun H5 z hz b5 p5 => ⟨rfl, ?_⟩⟩
        refine ⟨_, rfl, D, ls, rfl, .inl ⟨sL (b5 _ _ hD nDp), fun l nl => ⟨(by show 2 ≤ sizeLine; decide), fun t nt => ?_⟩⟩⟩
        refine ⟨R, rs, _, rfl, rfl, Same.new nt _ _ (Same.new nl _ _ (b5 _ _ hR4 nRp)), szb (by omega), ?_⟩
        exact one H5 l t _ (fun e => absurd (decide_eq_true (show V.int ((0 + (i : Int)) + 1) = V.int (1 + (y : Int)) by rw [show (0 + (i : Int)) + 1 = 1 + (y : Int) by omega])) hne) b5 p5 nl nt
  · rintro σ H2 ⟨rs, M, o5, o6, o7, o8, rfl, b2, p2, hR, hrs, hMl, hMo⟩
    have hMl' : M.length = y + 1 := by omega
    refine ⟨_, rfl, R, rs, rfl, .inl ⟨sL hR, fun l nl => ?_⟩⟩
    refine k _ (.ref l) M (b1.trans (b2.trans (.of (.new nl)))) (p2.same (.new nl)) (.tup (sT upd_same) (dpsS (.new nl) hrs)) (by omega) (by omega) (by rw [hMl']; exact hMo)
end
end Sw
set_option Elab.async false
set_option maxRecDepth 100000
set_option maxHeartbeats 4000000
namespace Sw
open PySem L2 PySem.Spec PyProof.Rows
theorem tw_all {p : Nat → Bool} : ∀ l : List Nat, (l.takeWhile p).length = l.length ↔ l.all p = true
  | [] => by simp
  | c :: l => by
    have ih := tw_all (p := p) l
    rw [List.takeWhile_cons, List.all_cons]
    cases e : p c with
    | true => rw [if_pos rfl, Bool.true_and, ← ih, List.length_cons, List.length_cons]; omega
    | false => rw [if_neg (by decide), Bool.false_and]; simp
theorem tw_le {p : Nat → Bool} (l : List Nat) : (l.takeWhile p).length ≤ l.length := by
  have := (List.takeWhile_sublist (p := p) (l := l)).length_le
  exact this
theorem dw_head {p : Nat → Bool} : ∀ l : List Nat, l.all p = false → ∃ c r, l.drop (l.takeWhile p).length = c :: r ∧ p c = false
  | [], h => by cases h
  | c :: l, h => by
    rw [List.all_cons] at h
    cases e : p c with
    | true =>
      rw [e, Bool.true_and] at h
      obtain ⟨d, r, h1, h2⟩ := dw_head l h
      refine ⟨d, r, ?_, h2⟩
      rw [List.takeWhile_cons, e, if_pos rfl, List.length_cons, List.drop_succ_cons]
      exact h1
    | false => exact ⟨c, l, by rw [List.takeWhile_cons, e, if_neg (by decide)]; rfl, e⟩
theorem abc_has (c : Nat) : abc.cps.contains c = letter c := by
  have e : abc.cps.toList = (List.range 26).map (97 + ·) := by decide +kernel
  have h : abc.cps.contains c = true ↔ letter c = true := by
    rw [Array.contains_iff_mem, ← Array.mem_toList_iff, e, List.mem_map]
    unfold letter
    rw [Bool.and_eq_true]
    constructor
    · rintro ⟨j, hj, rfl⟩
      have := List.mem_range.mp hj
      exact ⟨decide_eq_true (by omega), decide_eq_true (by omega)⟩
    · rintro ⟨h1, h2⟩
      have h1 := of_decide_eq_true h1
      have h2 := of_decide_eq_true h2
      exact ⟨c - 97, List.mem_range.mpr (by omega), by omega⟩
  cases e1 : letter c with
  | true => exact h.mpr e1
  | false =>
    cases e2 : abc.cps.contains c with
    | true => rw [h.mp e2] at e1; cases e1
    | false => rfl
theorem strip_len (x : Str) : (Txt.stripChars x abc).length = 0 ↔ x.cps.toList.all letter = true := by
  have hg : (fun c => abc.cps.contains c) = letter := funext abc_has
  have hl : x.length = x.cps.toList.length := by simp [Str.length]
  have hlo : stripLo letter true x = (x.cps.toList.takeWhile letter).length := by unfold stripLo; rw [if_pos rfl]
  have hhi : stripHi letter true x (stripLo letter true x) = x.length - ((x.cps.toList.drop (x.cps.toList.takeWhile letter).length).reverse.takeWhile letter).length := by unfold stripHi; rw [if_pos rfl, hlo]
  have hlen : (Txt.stripChars x abc).length = stripHi letter true x (stripLo letter true x) - stripLo letter true x := by
    unfold Txt.stripChars Txt.stripBy
    have e : abc.cps.contains = letter := hg
    rw [e]
    split
    · rename_i h
      unfold stripSame at h
      rw [Bool.and_eq_true] at h
      have h1 := eq_of_beq h.1
      have h2 := eq_of_beq h.2
      rw [h2, h1]
      rfl
    · unfold stripped
      exact size_strSub _ _ _ (by rw [hhi]; omega)
  rw [hlen, hhi, hlo]
  cases e : x.cps.toList.all letter with
  | true =>
    have := (tw_all x.cps.toList).mpr e
    exact ⟨fun _ => rfl, fun _ => by omega⟩
  | false =>
    obtain ⟨c, r, h1, h2⟩ := dw_head x.cps.toList e
    refine ⟨fun h => ?_, fun h => by cases h⟩
    exfalso
    have hd : (x.cps.toList.drop (x.cps.toList.takeWhile letter).length).length = x.cps.toList.length - (x.cps.toList.takeWhile letter).length := List.length_drop ..
    have na : ¬ ((x.cps.toList.drop (x.cps.toList.takeWhile letter).length).reverse.takeWhile letter).length = (x.cps.toList.drop (x.cps.toList.takeWhile letter).length).reverse.length := fun z => by
      have := (tw_all _).mp z
      rw [List.all_reverse, h1, List.all_cons, h2] at this
      cases this
    have le := tw_le (p := letter) (x.cps.toList.drop (x.cps.toList.takeWhile letter).length).reverse
    rw [List.length_reverse] at na le
    have lw := tw_le (p := letter) x.cps.toList
    omega
theorem strip_ne (x : Str) : decide (V.str (Txt.stripChars x abc) = V.str "") = x.cps.toList.all letter := by
  have h := strip_len x
  have e0 : ∀ s : Str, s = "" ↔ s.length = 0 := fun s => ⟨fun e => by rw [e]; rfl, fun e => by
    obtain ⟨a⟩ := s
    have : a = #[] := Array.eq_empty_of_size_eq_zero e
    rw [this]
    rfl⟩
  cases e : x.cps.toList.all letter with
  | true => exact decide_eq_true (by rw [(e0 _).mpr (h.mpr e)])
  | false =>
    refine decide_eq_false fun z => ?_
    have := h.mp ((e0 _).mp (V.str.inj z))
    rw [e] at this
    cases this
end Sw
set_option Elab.async false
set_option maxRecDepth 100000
set_option maxHeartbeats 8000000
namespace Sw
open PySem L2 PySem.Spec PyProof.Rows
theorem bnot_dec {p : Prop} [Decidable p] (h : p) : ¬ (!decide p) = true := by rw [decide_eq_true h]; decide
theorem bnot_decF {p : Prop} [Decidable p] (h : ¬ p) : (!decide p) = true := by rw [decide_eq_false h]; rfl
/-- rooms whose steps lead among them -/
def RoomsP (d : PyData) : Prop := ∃ M : List Rm, d = maD M ∧ 0 < M.length ∧ ∀ r, r ∈ M → (∀ p, p ∈ r.2 → signS p.1 = true ∧ p.2 < M.length) ∧ Inc r.2
theorem sign_first {s : Str} : SL "" s ↔ 1 ≤ s.length := by
  obtain ⟨⟨l⟩⟩ := s
  cases l with
  | nil => exact ⟨(fun h => by cases h), fun h => absurd h (by decide)⟩
  | cons c l => exact ⟨fun _ => Nat.succ_le_succ (Nat.zero_le _), fun _ => List.Lex.nil⟩
theorem sign_of {s : Str} (h1 : 1 ≤ s.length) (h6 : s.length ≤ 6) (h : s.cps.toList.all letter = true) : signS s = true := by
  unfold signS
  rw [h, decide_eq_true h1, decide_eq_true h6]
  rfl
theorem sign_to {s : Str} (h : signS s = true) : 1 ≤ s.length ∧ s.length ≤ 6 ∧ s.cps.toList.all letter = true := by
  unfold signS at h
  rw [Bool.and_eq_true, Bool.and_eq_true] at h
  exact ⟨of_decide_eq_true h.1.1, of_decide_eq_true h.1.2, h.2⟩
/-- the steps so far rise to the last sign -/
structure Rise (L : List Stp) (last : Str) : Prop where
  inc : Inc L
  le : ∀ p, p ∈ L → p.1 = last ∨ SL p.1 last
  nil : L = [] → last = ""
  mem : L ≠ [] → ∃ p, p ∈ L ∧ p.1 = last
theorem Rise.start : Rise [] "" := ⟨.nil, (fun p h => by cases h), (fun _ => rfl), fun h => absurd rfl h⟩
theorem Rise.add {L : List Stp} {last s : Str} {k : Nat} (h : Rise L last) (hs : SL last s) : Rise (L ++ [(s, k)]) s := by
  obtain ⟨h1, h2, h3, h4⟩ := h
  refine ⟨?_, fun p hp => ?_, (fun e => by simp at e), fun _ => ⟨(s, k), by simp, rfl⟩⟩
  · unfold Inc at h1 ⊢
    rw [List.map_append, List.pairwise_append]
    refine ⟨h1, List.pairwise_singleton _ _, fun a ha b hb => ?_⟩
    obtain ⟨p, hp, rfl⟩ := List.mem_map.mp ha
    rw [List.map_singleton, List.mem_singleton] at hb
    rw [hb]
    rcases h2 p hp with e | e
    · rw [e]; exact hs
    · exact e.trans hs
  · rcases List.mem_append.mp hp with hp | hp
    · rcases h2 p hp with e | e
      · exact .inr (by rw [e]; exact hs)
      · exact .inr (e.trans hs)
    · exact .inl (by rw [List.mem_singleton.mp hp])
theorem inc_after {L' : List Stp} {j : Nat} {p q : Stp} (h : Inc L') (hp : p ∈ L'.take j) (hq : L'[j]? = some q) : SL p.1 q.1 := by
  unfold Inc at h
  rw [← List.take_append_drop j L', List.map_append, List.pairwise_append] at h
  refine h.2.2 _ (List.mem_map.mpr ⟨p, hp, rfl⟩) _ (List.mem_map.mpr ⟨q, ?_, rfl⟩)
  rw [List.mem_iff_getElem?]
  exact ⟨0, by rw [List.getElem?_drop]; exact hq⟩
section
variable {P : Program} {w : World} {K : PySem.W.Frag} {mg : Str → Option Value} {base : Heap}
abbrev n_law_e_whole : List Str := ["thing"]
theorem sc_law_e_whole : FnScope n_law_e_whole ["thing"] (defScope s_law_e_whole) := ⟨rfl, rfl, rfl, by decide +kernel, rfl, by decide +kernel, by decide +kernel⟩
theorem ok_law_e_whole (F : DefAt K mg "_law_e_whole" s_law_e_whole ["thing"]) (b_isinstance : mg "isinstance" = none) (b_int : mg "int" = none) (b_bool : mg "bool" = none) : DefOk P w K mg base "_law_e_whole" 1 ["thing"] (spWhole K) := by
  refine F.ok sc_law_e_whole (fun vs H Q E h => ?_) (fun f cdv A outer s H vs Q E hr h => ?_)
  · obtain ⟨_, _, rfl, _⟩ := h
    rfl
  obtain ⟨v, d, rfl, hd, k⟩ := h
  refine ⟨_, (pss_one (ps_ret (pe_and (pe_callB call_isi (by rfl) b_isinstance (by decide +kernel) (pa_cons (pv 0) (pa_cons (pe_bltn (v := .ty "int") (by rfl) b_int (by decide +kernel) rfl) pa_nil))) (pe_one (pe_not (pe_callB call_isi (by rfl) b_isinstance (by decide +kernel) (pa_cons (pv 0) (pa_cons (pe_bltn (v := .ty "bool") (by rfl) b_bool (by decide +kernel) rfl) pa_nil)))))))), ?_⟩
  refine ⟨_, rfl, v, .ty "int", _, _, _, rfl, .ty _, tyX hd, isInt hd, ?_⟩
  unfold wholeD at k
  cases e : isIntD d with
  | false =>
    rw [e] at k
    exact ⟨_, rfl, iteF k⟩
  | true =>
    rw [e, Bool.true_and] at k
    exact ⟨_, rfl, iteT ⟨_, rfl, v, .ty "bool", _, _, _, rfl, .ty _, tyX hd, isBool hd, _, rfl, k⟩⟩
abbrev n_law_e_is_rooms : List Str := ["thing", "room", "last", "step"]
theorem sc_law_e_is_rooms : FnScope n_law_e_is_rooms ["thing"] (defScope s_law_e_is_rooms) := ⟨rfl, rfl, rfl, by decide +kernel, rfl, by decide +kernel, by decide +kernel⟩
def spIsRooms (K : PySem.W.Frag) : Sp := fun vs H Q _ => ∃ v d, vs = [v] ∧ Dp K H v d ∧ bdD d = true ∧ ∀ b : Bool, (b = true ↔ RoomsP d) → Q (.bl b) H
theorem ok_law_e_is_rooms (F : DefAt K mg "_law_e_is_rooms" s_law_e_is_rooms ["thing"]) (d__law_e_whole : DefOk P w K mg base "_law_e_whole" 1 ["thing"] (spWhole K)) (b_isinstance : mg "isinstance" = none) (b_len : mg "len" = none) (b_tuple : mg "tuple" = none) (b_bool : mg "bool" = none) (b_str : mg "str" = none) :
    DefOk P w K mg base "_law_e_is_rooms" 2 ["thing"] (spIsRooms K) := by
  refine F.ok sc_law_e_is_rooms (fun vs H Q E h => ?_) (fun f cdv A outer s H vs Q E hr h => ?_)
  · obtain ⟨_, _, rfl, _⟩ := h
    rfl
  obtain ⟨v, d, rfl, hd, hbd, k⟩ := h
  have no : ¬ RoomsP d → Q (.bl false) H := fun q => k false ⟨(fun z => by cases z), fun z => absurd z q⟩
  refine ⟨_, (pss_cons (ps_if (PW.pt (pw_or (pt_not (pt_val (pe_callB call_isi (by rfl) b_isinstance (by decide +kernel) (pa_cons (pv 0) (pa_cons (pe_bltn (v := .ty "tuple") (by rfl) b_tuple (by decide +kernel) rfl) pa_nil))))) (pw_or1 (pt_cmpR op_eq (pe_callB call_len_seq (by rfl) b_len PySem.boot_len (pa_cons (pv 0) pa_nil)) pe_int (nomark _))))) (pss_one (ps_ret pe_bl)) pss_nil)
    (pss_cons (ps_for PassesOwn.never rfl (pi_tup (pv 0)) (pg_name (i := 1) sc_law_e_is_rooms.nd rfl (Or.inl rfl))
      (pss_cons (ps_if (PW.pt (pw_or (pt_not (pt_val (pe_callB call_isi (by rfl) b_isinstance (by decide +kernel) (pa_cons (pv 1) (pa_cons (pe_bltn (v := .ty "tuple") (by rfl) b_tuple (by decide +kernel) rfl) pa_nil))))) (pw_or (pt_cmpR op_ne (pe_callB call_len_seq (by rfl) b_len PySem.boot_len (pa_cons (pv 1) pa_nil)) pe_int (nomark _)) (pw_or1 (pt_not (pt_val (pe_callB call_isi (by rfl) b_isinstance (by decide +kernel) (pa_cons (pe_ix ix_tup (pv 1) pe_int (fun _ _ => rfl)) (pa_cons (pe_bltn (v := .ty "bool") (by rfl) b_bool (by decide +kernel) rfl) pa_nil))))))))) (pss_one (ps_ret pe_bl)) pss_nil)
    (pss_cons (ps_if (pt_not (pt_val (pe_callB call_isi (by rfl) b_isinstance (by decide +kernel) (pa_cons (pe_ix ix_tup (pv 1) pe_int (fun _ _ => rfl)) (pa_cons (pe_bltn (v := .ty "tuple") (by rfl) b_tuple (by decide +kernel) rfl) pa_nil))))) (pss_one (ps_ret pe_bl)) pss_nil)
    (pss_cons (ps_set (i := 2) sc_law_e_is_rooms.nd rfl (Or.inl rfl) pe_str)
    (pss_one (ps_for PassesOwn.never rfl (pi_tup (pe_ix ix_tup (pv 1) pe_int (fun _ _ => rfl))) (pg_name (i := 3) sc_law_e_is_rooms.nd rfl (Or.inl rfl))
      (pss_cons (ps_if (PW.pt (pw_or (pt_not (pt_val (pe_callB call_isi (by rfl) b_isinstance (by decide +kernel) (pa_cons (pv 3) (pa_cons (pe_bltn (v := .ty "tuple") (by rfl) b_tuple (by decide +kernel) rfl) pa_nil))))) (pw_or (pt_cmpR op_ne (pe_callB call_len_seq (by rfl) b_len PySem.boot_len (pa_cons (pv 3) pa_nil)) pe_int (nomark _)) (pw_or (pt_not (pt_val (pe_callB call_isi (by rfl) b_isinstance (by decide +kernel) (pa_cons (pe_ix ix_tup (pv 3) pe_int (fun _ _ => rfl)) (pa_cons (pe_bltn (v := .ty "str") (by rfl) b_str (by decide +kernel) rfl) pa_nil))))) (pw_or1 (pt_cmpR op_le_str (pe_ix ix_tup (pv 3) pe_int (fun _ _ => rfl)) (pv 2) (nomark _))))))) (pss_one (ps_ret pe_bl)) pss_nil)
    (pss_cons (ps_if (PW.pt (pw_or (pt_cmpR op_gt (pe_callB call_len_str (by rfl) b_len PySem.boot_len (pa_cons (pe_ix ix_tup (pv 3) pe_int (fun _ _ => rfl)) pa_nil)) pe_int (nomark _)) (pw_or1 (pt_cmpR op_ne (pe_bm PySem.F.plainAttrs_str PySem.F.slot_str_strip PySem.F.type_str_strip mt_stripChars (pe_ix ix_tup (pv 3) pe_int (fun _ _ => rfl)) (pa_cons pe_str pa_nil)) pe_str (nomark _))))) (pss_one (ps_ret pe_bl)) pss_nil)
    (pss_cons (ps_if (PW.pt (pw_or (pt_not (pt_val (pe_callD d__law_e_whole (hr.mono (by decide)) rfl (pa_cons (pe_ix ix_tup (pv 3) pe_int (fun _ _ => rfl)) pa_nil)))) (pw_or1 (pt_not (pt_chain op_le op_lt pe_int (pe_ix ix_tup (pv 3) pe_int (fun _ _ => rfl)) (pe_callB call_len_seq (by rfl) b_len PySem.boot_len (pa_cons (pv 0) pa_nil))))))) (pss_one (ps_ret pe_bl)) pss_nil)
    (pss_one (ps_set (i := 2) sc_law_e_is_rooms.nd rfl (Or.inl rfl) (pe_ix ix_tup (pv 3) pe_int (fun _ _ => rfl)))))))))))))
    (pss_one (ps_ret pe_bl)))), ?_⟩
  refine ⟨v, rfl, v, .ty "tuple", _, _, _, rfl, .ty _, tyX hd, isTup hd, _, rfl, ?_⟩
  by_cases ht : ∃ ds, d = .tuple ds
  rotate_left
  · have e : isTupD d = false := by cases d <;> first | rfl | exact absurd ⟨_, rfl⟩ ht
    rw [e]
    refine iteT (no ?_)
    rintro ⟨M, rfl, _⟩
    exact ht ⟨_, rfl⟩
  obtain ⟨ds, rfl⟩ := ht
  obtain ⟨ma, rs, rfl, hma, hrs⟩ := dpTup hd
  have hrl := dpsLen hrs
  obtain ⟨hdl, hds⟩ := bdTup hbd
  refine iteF ?_
  refine ⟨_, rfl, ma, rs, rfl, .inr hma, rfl, _, rfl, ite2 (fun h0 => no ?_) (fun h0 => ?_)⟩
  · rintro ⟨M, e, hM, _⟩
    have h0 := of_decide_eq_true h0
    have h0 : (rs.length : Int) = 0 := V.int.inj h0
    have := congrArg (fun d => (match d with | PyData.tuple l => l.length | _ => 0)) e
    simp only [maD, List.length_map] at this
    omega
  have hn0 : 0 < ds.length := by
    cases ds with
    | nil =>
      exfalso
      apply h0
      refine decide_eq_true ?_
      rw [hrl]
      rfl
    | cons x l => exact Nat.succ_pos _
  -- a room that is none
  have noR : ∀ (i : Nat) (dx : PyData), ds[i]? = some dx → ¬ RoomP ds.length dx → Q (.bl false) H := fun i dx hx hn => no fun ⟨M, e, hM, hr⟩ => by
    unfold maD at e
    cases e
    rw [List.getElem?_map] at hx
    obtain ⟨r, hr1, rfl⟩ := Option.map_eq_some_iff.mp hx
    obtain ⟨h1, h2⟩ := hr r (List.mem_of_getElem? hr1)
    exact hn ⟨r, rfl, by rw [List.length_map]; exact h1, h2⟩
  refine ⟨_, rfl, ma, rfl, ⟨_, hma⟩, ?_⟩
  refine for_tup (K := K) (a := ma) (xs := rs) (fun i σ H' => ∃ (o1 o2 o3 : Option V) (M : List Rm), σ = [some (.ref ma), o1, o2, o3] ∧ H' = H ∧ ds.take i = M.map rmD ∧ ∀ r, r ∈ M → (∀ p, p ∈ r.2 → signS p.1 = true ∧ p.2 < ds.length) ∧ Inc r.2)
    ⟨none, none, none, [], rfl, rfl, by simp, fun r h => by cases h⟩ (fun i σ H' _ ⟨_, _, _, _, _, e, _⟩ => by rw [e]; exact hma) ?_ ?_
  · rintro i x σ H1 hx ⟨o1, o2, o3, M, rfl, rfl, hM, hMr⟩
    obtain ⟨dx, hdx, hxd⟩ := dpsAtV hrs hx
    have hbx := bdDs_mem hds (List.mem_of_getElem? hdx)
    have nr := noR i dx hdx
    refine ⟨_, rfl, x, .ty "tuple", _, _, _, rfl, .ty _, tyX hxd, isTup hxd, _, rfl, ?_⟩
    by_cases ht : ∃ es, dx = .tuple es
    rotate_left
    · have e : isTupD dx = false := by cases dx <;> first | rfl | exact absurd ⟨_, rfl⟩ ht
      rw [e]
      refine iteT (nr ?_)
      rintro ⟨r, rfl, _⟩
      exact ht ⟨_, rfl⟩
    obtain ⟨es, rfl⟩ := ht
    obtain ⟨ra, ys, rfl, hra, hys⟩ := dpTup hxd
    have hyl := dpsLen hys
    obtain ⟨_, hbe⟩ := bdTup hbx
    refine iteF ?_
    refine ⟨_, rfl, ra, ys, rfl, .inr hra, rfl, _, rfl, ?_⟩
    by_cases h2 : es.length = 2
    rotate_left
    · refine iteT' (by rw [decide_eq_false (fun e => h2 (by have := V.int.inj e; omega))]; rfl) (nr ?_)
      rintro ⟨r, e, _⟩
      unfold rmD at e
      cases e
      exact h2 rfl
    match es, h2, hys, hdx, hbe, nr, hxd, hbx with
    | [d0, d1], _, hys, hdx, hbe, nr, hxd, hbx =>
    obtain ⟨x0, us, rfl, p0, hys⟩ := dpCons hys
    obtain ⟨x1, us, rfl, p1, hys⟩ := dpCons hys
    cases dpNil hys
    refine iteF' (by simp) ?_
    refine ⟨_, rfl, ra, _, 0, _, rfl, rfl, hra, atI_nat (j := 0) rfl, x0, .ty "bool", _, _, _, rfl, .ty _, tyX p0, isBool p0, _, rfl, ?_⟩
    by_cases hb : ∃ b, d0 = .bool b
    rotate_left
    · have e : isBoolD d0 = false := by cases d0 <;> first | rfl | exact absurd ⟨_, rfl⟩ hb
      rw [e]
      refine iteT (nr ?_)
      rintro ⟨r, e, _⟩
      unfold rmD at e
      cases e
      exact hb ⟨_, rfl⟩
    obtain ⟨bb, rfl⟩ := hb
    refine iteF ?_
    refine ⟨_, rfl, ra, _, 1, _, rfl, rfl, hra, atI_nat (j := 1) rfl, x1, .ty "tuple", _, _, _, rfl, .ty _, tyX p1, isTup p1, _, rfl, ?_⟩
    by_cases ht : ∃ es, d1 = .tuple es
    rotate_left
    · have e : isTupD d1 = false := by cases d1 <;> first | rfl | exact absurd ⟨_, rfl⟩ ht
      rw [e]
      refine iteT (nr ?_)
      rintro ⟨r, e, _⟩
      unfold rmD at e
      cases e
      exact ht ⟨_, rfl⟩
    obtain ⟨ls, rfl⟩ := ht
    obtain ⟨la, zs, rfl, hla, hzs⟩ := dpTup p1
    have hzl := dpsLen hzs
    have hbl := bdTup (bdDs_mem hbe (d := .tuple ls) (by simp))
    refine iteF ?_
    -- a step that is none
    have noS : ∀ (j : Nat) (dz : PyData), ls[j]? = some dz → (∀ (L L' : List Stp) (q : Stp), ls.take j = L.map stD → L'.take j = L → dz = stD q → L'[j]? = some q → signS q.1 = true → q.2 < ds.length → Inc L' → False) → (∃ L : List Stp, ls.take j = L.map stD) → Q (.bl false) H1 := fun j dz hj hn ⟨L, hL⟩ => nr fun ⟨r, e, h1, h2⟩ => by
      unfold rmD at e
      simp only [PyData.tuple.injEq, List.cons.injEq, and_true] at e
      obtain ⟨_, e2⟩ := e
      subst e2
      rw [List.getElem?_map] at hj
      obtain ⟨q, hq1, rfl⟩ := Option.map_eq_some_iff.mp hj
      obtain ⟨g1, g2⟩ := h1 q (List.mem_of_getElem? hq1)
      refine hn L r.2 q hL ?_ rfl hq1 g1 g2 h2
      rw [← List.map_take] at hL
      exact stD_inj hL
    refine ⟨_, rfl, ra, _, 1, _, rfl, rfl, hra, atI_nat (j := 1) rfl, la, rfl, ⟨_, hla⟩, ?_⟩
    refine for_tup (K := K) (a := la) (xs := zs) (fun j σ H' => ∃ (last : Str) (o3 : Option V) (L : List Stp), σ = [some (.ref ma), some (.ref ra), some (.str last), o3] ∧ H' = H1 ∧ ls.take j = L.map stD ∧ (∀ p, p ∈ L → signS p.1 = true ∧ p.2 < ds.length) ∧ Rise L last)
      ⟨"", _, [], rfl, rfl, by simp, (fun r h => by cases h), Rise.start⟩ (fun i σ H' _ ⟨_, _, _, _, e, _⟩ => by rw [e]; exact hla) ?_ ?_
    · rintro j z σ H2 hz ⟨last, o3, L, rfl, rfl, hL, hLp, hri⟩
      obtain ⟨dz, hdz, hzd⟩ := dpsAtV hzs hz
      have ns := fun h => noS j dz hdz h ⟨L, hL⟩
      have hbz := bdDs_mem hbl.2 (List.mem_of_getElem? hdz)
      refine ⟨_, rfl, z, .ty "tuple", _, _, _, rfl, .ty _, tyX hzd, isTup hzd, _, rfl, ?_⟩
      by_cases ht : ∃ es, dz = .tuple es
      rotate_left
      · have e : isTupD dz = false := by cases dz <;> first | rfl | exact absurd ⟨_, rfl⟩ ht
        rw [e]
        exact iteT (ns fun _ _ q _ _ e _ _ _ _ => ht ⟨_, e⟩)
      obtain ⟨fs, rfl⟩ := ht
      obtain ⟨sa, ws, rfl, hsa, hws⟩ := dpTup hzd
      have hwl := dpsLen hws
      obtain ⟨_, hbf⟩ := bdTup hbz
      refine iteF ?_
      refine ⟨_, rfl, sa, ws, rfl, .inr hsa, rfl, _, rfl, ?_⟩
      by_cases h2 : fs.length = 2
      rotate_left
      · refine iteT' (by rw [decide_eq_false (fun e => h2 (by have := V.int.inj e; omega))]; rfl) (ns fun _ _ q _ _ e _ _ _ _ => ?_)
        unfold stD at e
        cases e
        exact h2 rfl
      match fs, h2, hws, hdz, ns, hbf, hzd with
      | [e0, e1], _, hws, hdz, ns, hbf, hzd =>
      obtain ⟨y0, us, rfl, q0, hws⟩ := dpCons hws
      obtain ⟨y1, us, rfl, q1, hws⟩ := dpCons hws
      cases dpNil hws
      refine iteF' (by simp) ?_
      refine ⟨_, rfl, sa, _, 0, _, rfl, rfl, hsa, atI_nat (j := 0) rfl, y0, .ty "str", _, _, _, rfl, .ty _, tyX q0, isStr q0, _, rfl, ?_⟩
      by_cases hs : ∃ t, e0 = .str t
      rotate_left
      · have e : isStrD e0 = false := by cases e0 <;> first | rfl | exact absurd ⟨_, rfl⟩ hs
        rw [e]
        refine iteT (ns fun _ _ q _ _ e _ _ _ _ => ?_)
        unfold stD at e
        cases e
        exact hs ⟨_, rfl⟩
      obtain ⟨t, rfl⟩ := hs
      cases q0
      have htl : t.length ≤ 1000 := by
        have := bdDs_mem hbf (d := .str t) (by simp)
        rw [bdD] at this
        exact of_decide_eq_true this
      refine iteF ?_
      refine ⟨_, rfl, sa, _, 0, _, rfl, rfl, hsa, atI_nat (j := 0) rfl, _, rfl, _, _, rfl, rfl, _, rfl, ?_⟩
      by_cases hsl : SL last t
      rotate_left
      · refine iteT' (bnot_decF (p := last.cps.toList < t.cps.toList) hsl) (ns fun L0 L' q hL0 hL' e hq g1 g2 g3 => ?_)
        have eL : L0 = L := stD_inj (by rw [← hL0, hL])
        subst eL
        unfold stD at e
        simp only [PyData.tuple.injEq, List.cons.injEq, PyData.str.injEq] at e
        obtain ⟨e, _⟩ := e
        subst e
        by_cases hne : L0 = []
        · rw [hri.nil hne] at hsl
          exact hsl (sign_first.mpr (sign_to g1).1)
        · obtain ⟨p, hp, e⟩ := hri.mem hne
          rw [← e] at hsl
          rw [← hL'] at hp
          exact hsl (inc_after g3 hp hq)
      refine iteF' (bnot_dec (p := last.cps.toList < t.cps.toList) hsl) ?_
      refine ⟨_, rfl, sa, _, 0, _, rfl, rfl, hsa, atI_nat (j := 0) rfl, t, rfl, szl (by omega), _, _, rfl, rfl, _, rfl, ite2 (fun h6 => ns fun _ _ q _ _ e _ g1 _ _ => ?_) (fun h6 => ?_)⟩
      · unfold stD at e
        simp only [PyData.tuple.injEq, List.cons.injEq, PyData.str.injEq] at e
        obtain ⟨e, _⟩ := e
        subst e
        have h6 := of_decide_eq_true h6
        have := (sign_to g1).2.1
        omega
      have h6' : t.length ≤ 6 := by
        by_cases q : t.length ≤ 6
        · exact q
        · exact absurd (decide_eq_true (by omega)) h6
      refine ⟨_, rfl, sa, _, 0, _, rfl, rfl, hsa, atI_nat (j := 0) rfl, rfl, t, abc, rfl, rfl, szl (by omega), rfl, _, rfl, ?_⟩
      rw [strip_ne]
      cases hlet : t.cps.toList.all letter with
      | false =>
        refine iteT (ns fun _ _ q _ _ e _ g1 _ _ => ?_)
        unfold stD at e
        simp only [PyData.tuple.injEq, List.cons.injEq, PyData.str.injEq] at e
        obtain ⟨e, _⟩ := e
        subst e
        rw [(sign_to g1).2.2] at hlet
        cases hlet
      | true =>
      refine iteF ?_
      have hsg := sign_of (sign_first.mp (by
        by_cases hne : L = []
        · rw [hri.nil hne] at hsl; exact hsl
        · obtain ⟨p, hp, e⟩ := hri.mem hne
          exact (sign_first.mpr (sign_to (hLp p hp).1).1).trans (by rw [e]; exact hsl))) h6' hlet
      refine ⟨_, rfl, sa, _, 1, _, rfl, rfl, hsa, atI_nat (j := 1) rfl, y1, e1, rfl, q1, _, rfl, ?_⟩
      cases ew : wholeD e1 with
      | false =>
        refine iteT (ns fun _ _ q _ _ e _ _ _ _ => ?_)
        unfold stD at e
        cases e
        cases ew
      | true =>
      obtain ⟨z, rfl⟩ : ∃ z, e1 = .int z := by
        cases e1 <;> first | exact ⟨_, rfl⟩ | cases ew
      cases q1
      refine iteF ?_
      refine ⟨_, rfl, sa, _, 1, _, rfl, rfl, hsa, atI_nat (j := 1) rfl, _, _, rfl, rfl, _, rfl, ite2 (fun hz0 => ?_) (fun hz0 => ?_)⟩
      · have hz0' : (0 : Int) ≤ z := of_decide_eq_true hz0
        obtain ⟨m, rfl⟩ : ∃ m : Nat, z = (m : Int) := ⟨z.toNat, by omega⟩
        refine ⟨_, rfl, ma, rs, rfl, .inr hma, _, _, rfl, rfl, ?_⟩
        by_cases hmn : m < ds.length
        · refine ⟨_, rfl, iteF' (bnot_dec (p := (m : Int) < (rs.length : Int)) (by omega)) ?_⟩
          refine ⟨_, rfl, sa, _, 0, _, rfl, rfl, hsa, atI_nat (j := 0) rfl, ?_⟩
          refine ⟨t, _, L ++ [(t, m)], rfl, rfl, ?_, fun p hp => ?_, hri.add hsl⟩
          · rw [List.take_add_one, hdz, hL, List.map_append]
            rfl
          · rcases List.mem_append.mp hp with hp | hp
            · exact hLp p hp
            · rw [List.mem_singleton.mp hp]; exact ⟨hsg, hmn⟩
        · refine ⟨_, rfl, iteT' (bnot_decF (p := (m : Int) < (rs.length : Int)) (by omega)) (ns fun _ _ q _ _ e _ _ g2 _ => ?_)⟩
          unfold stD at e
          simp only [PyData.tuple.injEq, List.cons.injEq, PyData.str.injEq, PyData.int.injEq] at e
          omega
      · refine ⟨_, rfl, iteT (ns fun _ _ q _ _ e _ _ g2 _ => ?_)⟩
        unfold stD at e
        simp only [PyData.tuple.injEq, List.cons.injEq, PyData.str.injEq, PyData.int.injEq] at e
        exact hz0 (decide_eq_true (by omega))
    · rintro σ H2 ⟨last, o3, L, rfl, rfl, hL, hLp, hri⟩
      rw [hzl, List.take_length] at hL
      refine ⟨_, _, _, M ++ [(bb, L)], rfl, rfl, ?_, fun r hr => ?_⟩
      · rw [List.take_add_one, hdx, hM, List.map_append, hL]
        rfl
      · rcases List.mem_append.mp hr with hr | hr
        · exact hMr r hr
        · rw [List.mem_singleton.mp hr]; exact ⟨hLp, hri.inc⟩
  · rintro σ H1 ⟨o1, o2, o3, M, rfl, rfl, hM, hMr⟩
    rw [hrl, List.take_length] at hM
    subst hM
    exact k true ⟨fun _ => ⟨M, rfl, by rw [List.length_map] at hn0; exact hn0, by rw [List.length_map] at hMr; exact hMr⟩, fun _ => rfl⟩
end
end Sw
set_option Elab.async false
set_option maxRecDepth 100000
set_option maxHeartbeats 8000000
namespace Sw
open PySem L2 PySem.Spec PyProof.Rows
theorem freeB {H H' : Hp} {a : Addr} (s : Same H H') (h : H' a = none) : H a = none := by
  cases e : H a with
  | none => rfl
  | some o => rw [s _ _ e] at h; cases h
/-! ### a dict of lists, by numbers -/
def cmK (cs : List (Nat × Addr)) : List (L2.Key × V) := cs.map fun p => (Sum.inl (p.1 : Int), V.ref p.2)
def cmAdd (cm : Nat → List Nat) (x y : Nat) : Nat → List Nat := fun z => if z = x then cm z ++ [y] else cm z
structure Cm (H0 H : Hp) (dc : Addr) (cs : List (Nat × Addr)) (cm : Nat → List Nat) : Prop where
  d : H dc = some (.dK (cmK cs))
  at_ : ∀ p, p ∈ cs → H p.2 = some (.lst (natV (cm p.1))) ∧ H0 p.2 = none
  nd1 : (cs.map (·.1)).Nodup
  nd2 : (cs.map (·.2)).Nodup
  no : ∀ x, x ∉ cs.map (·.1) → cm x = []
theorem Cm.same {H0 H H' : Hp} {dc : Addr} {cs : List (Nat × Addr)} {cm : Nat → List Nat} (h : Cm H0 H dc cs cm) (s : Same H H') : Cm H0 H' dc cs cm := ⟨s _ _ h.d, fun p hp => ⟨s _ _ (h.at_ p hp).1, (h.at_ p hp).2⟩, h.nd1, h.nd2, h.no⟩
theorem Cm.w {H0 H : Hp} {dc q : Addr} {o : HO} {cs : List (Nat × Addr)} {cm : Nat → List Nat} (h : Cm H0 H dc cs cm) (n1 : dc ≠ q) (n2 : ∀ p, p ∈ cs → p.2 ≠ q) : Cm H0 (upd H q o) dc cs cm :=
  ⟨by rw [upd_ne n1]; exact h.d, fun p hp => ⟨by rw [upd_ne (n2 p hp)]; exact (h.at_ p hp).1, (h.at_ p hp).2⟩, h.nd1, h.nd2, h.no⟩
theorem cmK_has {cs : List (Nat × Addr)} {p : Nat × Addr} (nd : (cs.map (·.1)).Nodup) (hp : p ∈ cs) : valV (cmK cs) (.inl (p.1 : Int)) = some (.ref p.2) := by
  induction cs with
  | nil => cases hp
  | cons q cs ih =>
    rw [List.map_cons, List.nodup_cons] at nd
    unfold cmK
    rw [List.map_cons]
    rcases List.mem_cons.mp hp with rfl | hp
    · exact valV_pos rfl
    · rw [valV_neg (fun e => nd.1 (by
        have e1 : (q.1 : Int) = (p.1 : Int) := Sum.inl.inj e
        have e2 : q.1 = p.1 := by omega
        rw [e2]
        exact List.mem_map.mpr ⟨p, hp, rfl⟩))]
      exact ih nd.2 hp
theorem cmK_no {cs : List (Nat × Addr)} {x : Nat} (h : x ∉ cs.map (·.1)) : valV (cmK cs) (.inl (x : Int)) = none := by
  induction cs with
  | nil => rfl
  | cons q cs ih =>
    rw [List.map_cons, List.mem_cons] at h
    unfold cmK
    rw [List.map_cons]
    rw [valV_neg (fun e => h (.inl (by
      have e1 : (q.1 : Int) = (x : Int) := Sum.inl.inj e
      omega)))]
    exact ih fun z => h (.inr z)
theorem cmK_put {cs : List (Nat × Addr)} {x : Nat} {e : Addr} (h : x ∉ cs.map (·.1)) : putK (cmK cs) (.inl (x : Int)) (.ref e) = cmK (cs ++ [(x, e)]) := by
  unfold putK
  rw [if_neg (fun z => by rw [valV_any, cmK_no h] at z; cases z)]
  unfold cmK
  rw [List.map_append]
  rfl
theorem Cm.ne {H0 H : Hp} {dc : Addr} {cs : List (Nat × Addr)} {cm : Nat → List Nat} (h : Cm H0 H dc cs cm) {p : Nat × Addr} (hp : p ∈ cs) : p.2 ≠ dc := fun e => by
  have h1 := (h.at_ p hp).1
  rw [e, h.d] at h1
  cases h1
theorem Cm.old {H0 H : Hp} {dc : Addr} {cs : List (Nat × Addr)} {cm : Nat → List Nat} {p : Nat × Addr} {y : Nat} (h : Cm H0 H dc cs cm) (hp : p ∈ cs) : Cm H0 (upd H p.2 (.lst (natV (cm p.1 ++ [y])))) dc cs (cmAdd cm p.1 y) := by
  refine ⟨by rw [upd_ne (h.ne hp).symm]; exact h.d, fun q hq => ⟨?_, (h.at_ q hq).2⟩, h.nd1, h.nd2, fun x hx => ?_⟩
  · unfold cmAdd
    by_cases e : q.1 = p.1
    · have eq : q = p := by
        obtain ⟨i, hi, ei⟩ := List.mem_iff_getElem.mp hq
        obtain ⟨j, hj, ej⟩ := List.mem_iff_getElem.mp hp
        have nd := List.nodup_iff_pairwise_ne.mp h.nd1
        by_cases hij : i = j
        · subst hij; rw [← ei, ← ej]
        · exfalso
          have pw := List.pairwise_iff_getElem.mp nd
          rcases Nat.lt_or_gt_of_ne hij with hlt | hlt
          · exact pw i j (by rw [List.length_map]; exact hi) (by rw [List.length_map]; exact hj) hlt (by rw [List.getElem_map, List.getElem_map, ei, ej]; exact e)
          · exact pw j i (by rw [List.length_map]; exact hj) (by rw [List.length_map]; exact hi) hlt (by rw [List.getElem_map, List.getElem_map, ei, ej]; exact e.symm)
      subst eq
      rw [upd_same, if_pos rfl]
    · rw [if_neg e, upd_ne]
      · exact (h.at_ q hq).1
      · intro z
        apply e
        obtain ⟨i, hi, ei⟩ := List.mem_iff_getElem.mp hq
        obtain ⟨j, hj, ej⟩ := List.mem_iff_getElem.mp hp
        have nd := List.nodup_iff_pairwise_ne.mp h.nd2
        by_cases hij : i = j
        · subst hij; rw [← ei, ← ej]
        · exfalso
          have pw := List.pairwise_iff_getElem.mp nd
          rcases Nat.lt_or_gt_of_ne hij with hlt | hlt
          · exact pw i j (by rw [List.length_map]; exact hi) (by rw [List.length_map]; exact hj) hlt (by rw [List.getElem_map, List.getElem_map, ei, ej]; exact z)
          · exact pw j i (by rw [List.length_map]; exact hj) (by rw [List.length_map]; exact hi) hlt (by rw [List.getElem_map, List.getElem_map, ei, ej]; exact z.symm)
  · unfold cmAdd
    rw [if_neg (fun e => hx (by rw [e]; exact List.mem_map.mpr ⟨p, hp, rfl⟩))]
    exact h.no x hx
theorem Cm.new {H0 H : Hp} {dc e : Addr} {cs : List (Nat × Addr)} {cm : Nat → List Nat} {x y : Nat} (h : Cm H0 H dc cs cm) (hx : x ∉ cs.map (·.1)) (n1 : e ≠ dc) (n2 : ∀ p, p ∈ cs → p.2 ≠ e) (n0 : H0 e = none) :
    Cm H0 (upd (upd H dc (.dK (putK (cmK cs) (.inl (x : Int)) (.ref e)))) e (.lst (natV [y]))) dc (cs ++ [(x, e)]) (cmAdd cm x y) := by
  refine ⟨by rw [upd_ne n1.symm, upd_same, cmK_put hx], fun q hq => ?_, ?_, ?_, fun z hz => ?_⟩
  · unfold cmAdd
    rcases List.mem_append.mp hq with hq | hq
    · have hne : q.1 ≠ x := fun z => hx (by rw [← z]; exact List.mem_map.mpr ⟨q, hq, rfl⟩)
      rw [if_neg hne, upd_ne (n2 q hq), upd_ne (h.ne hq)]
      exact h.at_ q hq
    · rw [List.mem_singleton.mp hq]
      refine ⟨?_, n0⟩
      show upd _ e _ e = some (.lst (natV (if x = x then cm x ++ [y] else cm x)))
      rw [upd_same, if_pos rfl, h.no x hx]
      rfl
  · rw [List.map_append, List.nodup_append]
    refine ⟨h.nd1, by simp, fun a ha b hb => ?_⟩
    simp at hb
    rw [hb]
    rintro rfl
    exact hx ha
  · rw [List.map_append, List.nodup_append]
    refine ⟨h.nd2, by simp, fun a ha b hb => ?_⟩
    simp at hb
    rw [hb]
    obtain ⟨p, hp, rfl⟩ := List.mem_map.mp ha
    exact n2 p hp
  · rw [List.map_append, List.mem_append] at hz
    unfold cmAdd
    rw [if_neg (fun e => hz (.inr (by rw [e]; simp)))]
    exact h.no z fun w => hz (.inl w)
/-! ### rooms that come to an end -/
def ToE (M : List Rm) (x : Nat) : Prop := ∃ e, e < M.length ∧ endsOf M e = true ∧ RT (Eg M) x e
structure Lv (M : List Rm) (S W : List Nat) : Prop where
  nd : S.Nodup
  lt : ∀ x, x ∈ S ∨ x ∈ W → x < M.length
  live : ∀ x, x ∈ S ∨ x ∈ W → ToE M x
  ends : ∀ e, e < M.length → endsOf M e = true → e ∈ S ∨ e ∈ W
  cl : ∀ x, x ∈ S → ∀ y, y < M.length → x ∈ Eg M y → y ∈ S ∨ y ∈ W
theorem Lv.start (M : List Rm) : Lv M [] ((List.range M.length).filter (endsOf M)) := by
  have hm : ∀ x, x ∈ (List.range M.length).filter (endsOf M) ↔ x < M.length ∧ endsOf M x = true := fun x => by rw [List.mem_filter, List.mem_range]
  refine ⟨.nil, fun x hx => ?_, fun x hx => ?_, fun e h1 h2 => .inr ((hm e).mpr ⟨h1, h2⟩), fun x hx => by cases hx⟩
  · rcases hx with hx | hx
    · cases hx
    · exact ((hm x).mp hx).1
  · rcases hx with hx | hx
    · cases hx
    · exact ⟨x, ((hm x).mp hx).1, ((hm x).mp hx).2, .refl _⟩
theorem Lv.skip {M : List Rm} {S W : List Nat} {x : Nat} (h : Lv M S (W ++ [x])) (hx : x ∈ S) : Lv M S W := by
  have f : ∀ y, y ∈ S ∨ y ∈ W ++ [x] → y ∈ S ∨ y ∈ W := fun y hy => by
    rcases hy with hy | hy
    · exact .inl hy
    · rcases List.mem_append.mp hy with hy | hy
      · exact .inr hy
      · rw [List.mem_singleton.mp hy]; exact .inl hx
  have g : ∀ y, y ∈ S ∨ y ∈ W → y ∈ S ∨ y ∈ W ++ [x] := fun y hy => hy.imp id (List.mem_append_left _)
  exact ⟨h.nd, fun y hy => h.lt y (g y hy), fun y hy => h.live y (g y hy), fun e h1 h2 => f e (h.ends e h1 h2), fun y hy z h1 h2 => f z (h.cl y hy z h1 h2)⟩
theorem Lv.turn {M : List Rm} {S W ys : List Nat} {x : Nat} (h : Lv M S (W ++ [x])) (hx : x ∉ S) (hy : ∀ y, y ∈ ys ↔ y < M.length ∧ x ∈ Eg M y) : Lv M (S ++ [x]) (W ++ ys) := by
  have hxx : x ∈ S ∨ x ∈ W ++ [x] := .inr (by simp)
  have f : ∀ y, y ∈ S ∨ y ∈ W ++ [x] → y ∈ S ++ [x] ∨ y ∈ W ++ ys := fun y hy => by
    rcases hy with hy | hy
    · exact .inl (List.mem_append_left _ hy)
    · rcases List.mem_append.mp hy with hy | hy
      · exact .inr (List.mem_append_left _ hy)
      · exact .inl (List.mem_append_right _ hy)
  have g : ∀ y, y ∈ S ++ [x] ∨ y ∈ W ++ ys → (y ∈ S ∨ y ∈ W ++ [x]) ∨ y ∈ ys := fun y hy => by
    rcases hy with hy | hy
    · rcases List.mem_append.mp hy with hy | hy
      · exact .inl (.inl hy)
      · rw [List.mem_singleton.mp hy]; exact .inl hxx
    · rcases List.mem_append.mp hy with hy | hy
      · exact .inl (.inr (List.mem_append_left _ hy))
      · exact .inr hy
  refine ⟨?_, fun y h1 => ?_, fun y h1 => ?_, fun e h1 h2 => f e (h.ends e h1 h2), fun y h1 z h2 h3 => ?_⟩
  · rw [List.nodup_append]
    refine ⟨h.nd, by simp, fun a ha b hb => ?_⟩
    rw [List.mem_singleton.mp hb]
    rintro rfl
    exact hx ha
  · rcases g y h1 with q | q
    · exact h.lt y q
    · exact ((hy y).mp q).1
  · rcases g y h1 with q | q
    · exact h.live y q
    · obtain ⟨e, e1, e2, e3⟩ := h.live x hxx
      exact ⟨e, e1, e2, .step ((hy y).mp q).2 e3⟩
  · rcases List.mem_append.mp h1 with h1 | h1
    · exact f z (h.cl y h1 z h2 h3)
    · rw [List.mem_singleton.mp h1] at h3
      exact .inr (List.mem_append_right _ ((hy z).mpr ⟨h2, h3⟩))
theorem Lv.done {M : List Rm} {S : List Nat} (h : Lv M S []) (x : Nat) : x ∈ S ↔ x < M.length ∧ ToE M x := by
  have f : ∀ y, y ∈ S ∨ y ∈ ([] : List Nat) → y ∈ S := fun y hy => hy.elim id fun z => by cases z
  refine ⟨fun hx => ⟨h.lt x (.inl hx), h.live x (.inl hx)⟩, fun ⟨_, e, e1, e2, e3⟩ => ?_⟩
  refine RT.back (p := (· ∈ S)) (fun a b hb hab => ?_) e3 (f e (h.ends e e1 e2))
  by_cases ha : a < M.length
  · exact f a (h.cl b hb a ha hab)
  · exfalso
    unfold Eg stepsOf at hab
    rw [List.getD_eq_getElem?_getD, List.getElem?_eq_none (by omega)] at hab
    cases hab
/-! ### what is left -/
def costL (f : Nat → Nat) (S : List Nat) : List Nat → Nat
  | [] => 0
  | x :: l => (if x ∈ S then 0 else f x) + costL f S l
theorem cost_same {f : Nat → Nat} {S : List Nat} {x : Nat} : ∀ {l : List Nat}, x ∉ l → costL f (S ++ [x]) l = costL f S l
  | [], _ => rfl
  | y :: l, h => by
    rw [List.mem_cons] at h
    rw [costL, costL, cost_same fun z => h (.inr z)]
    have : (y ∈ S ++ [x]) ↔ y ∈ S := by
      rw [List.mem_append, List.mem_singleton]
      exact ⟨fun q => q.elim id fun e => absurd e.symm (fun z => h (.inl z)), .inl⟩
    by_cases q : y ∈ S
    · rw [if_pos q, if_pos (this.mpr q)]
    · rw [if_neg q, if_neg fun z => q (this.mp z)]
theorem cost_split {f : Nat → Nat} {S : List Nat} {x : Nat} (hx : x ∉ S) : ∀ {l : List Nat}, l.Nodup → x ∈ l → costL f S l = costL f (S ++ [x]) l + f x
  | [], _, h => by cases h
  | y :: l, nd, h => by
    rw [List.nodup_cons] at nd
    rw [costL, costL]
    rcases List.mem_cons.mp h with rfl | h
    · rw [cost_same nd.1, if_neg hx, if_pos (by simp)]
      omega
    · rw [cost_split hx nd.2 h]
      have hne : y ≠ x := fun e => nd.1 (by rw [e]; exact h)
      have : (y ∈ S ++ [x]) ↔ y ∈ S := by
        rw [List.mem_append, List.mem_singleton]
        exact ⟨fun q => q.elim id fun e => absurd e hne, .inl⟩
      by_cases q : y ∈ S
      · rw [if_pos q, if_pos (this.mpr q)]; omega
      · rw [if_neg q, if_neg fun z => q (this.mp z)]; omega
theorem cost_le {f : Nat → Nat} {S : List Nat} {b : Nat} (h : ∀ x, f x ≤ b) : ∀ l : List Nat, costL f S l ≤ l.length * b
  | [] => by simp [costL]
  | x :: l => by
    have := cost_le (S := S) h l
    have h1 := h x
    rw [costL, List.length_cons, Nat.add_mul]
    split <;> omega
end Sw
set_option Elab.async false
set_option maxRecDepth 100000
set_option maxHeartbeats 8000000
namespace Sw
open PySem L2 PySem.Spec PyProof.Rows
theorem dpIntsL {K : PySem.W.Frag} {H : Hp} : ∀ l : List Nat, DpAll K H (natV l) (l.map fun n : Nat => PyData.int (n : Int))
  | [] => .nil
  | n :: l => .cons (.int _) (dpIntsL l)
theorem shInts (l : List Nat) : SeqAt.shaped (.list (l.map fun n : Nat => PyData.int (n : Int))) = true := by
  have h1 : PyData.canLayAll0 (l.map fun n : Nat => PyData.int (n : Int)) = true := by
    induction l with
    | nil => simp [PyData.canLayAll0]
    | cons n l ih => simp [PyData.canLayAll0, PyData.canLay0, ih]
  have h2 : PyData.depthAll (l.map fun n : Nat => PyData.int (n : Int)) = 0 := by
    clear h1
    induction l with
    | nil => simp [PyData.depthAll]
    | cons n l ih => simp [PyData.depthAll, PyData.depth, ih]
  unfold SeqAt.shaped
  rw [show (PyData.list (l.map fun n : Nat => PyData.int (n : Int))).canLay0 = true by rw [PyData.canLay0]; exact h1, Bool.true_and]
  refine decide_eq_true ?_
  rw [PyData.depth, h2]
  decide
theorem eqvNil (l : List Nat) : PyData.eqv (.list (l.map fun n : Nat => PyData.int (n : Int))) (.list []) = decide (l = []) := by
  cases l with
  | nil => simp [PyData.eqv, PyData.eqvAll]
  | cons n l => simp [PyData.eqv, PyData.eqvAll]
/-- what stands among the comers: y leads to x, the rooms ahead of i and j steps of room i -/
def Cin (M : List Rm) (i j : Nat) (cm : Nat → List Nat) : Prop := ∀ x y, y ∈ cm x ↔ (y < i ∧ x ∈ Eg M y) ∨ (y = i ∧ x ∈ ((stepsOf M i).take j).map (·.2))
section
variable {P : Program} {w : World} {K : PySem.W.Frag} {mg : Str → Option Value} {base : Heap}
abbrev n_law_galive : List Str := ["rooms", "comers", "here", "sign", "there", "waiting", "living"]
theorem sc_law_galive : FnScope n_law_galive ["rooms"] (defScope s_law_galive) := ⟨rfl, rfl, rfl, by decide +kernel, rfl, by decide +kernel, by decide +kernel⟩
def spAlive (K : PySem.W.Frag) : Sp := fun vs H Q _ => ∃ (v : V) (M : List Rm), vs = [v] ∧ Dp K H v (maD M) ∧ M.length ≤ 200 ∧ (∀ r, r ∈ M → r.2.length ≤ 250 ∧ ∀ p, p ∈ r.2 → p.2 < M.length) ∧
  ∀ H' (dl : Addr) (S : List Nat), Same H H' → H dl = none → H' dl = some (.dK (pdK S)) → S.Nodup → (∀ x, x ∈ S ↔ x < M.length ∧ ToE M x) → Q (.ref dl) H'
theorem ok_law_galive (F : DefAt K mg "_law_galive" s_law_galive ["rooms"]) (b_len : mg "len" = none) (b_range : mg "range" = none) : DefOk P w K mg base "_law_galive" 1 ["rooms"] (spAlive K) := by
  refine F.ok sc_law_galive (fun vs H Q E h => ?_) (fun f cdv A outer s H vs Q E hr h => ?_)
  · obtain ⟨_, _, rfl, _⟩ := h
    rfl
  obtain ⟨v, M, rfl, hv, hM2, hMo, k⟩ := h
  have hu := hu_of hr
  obtain ⟨ma, rs, rfl, hma, hrs⟩ := dpTup hv
  have hlen := dpsLen hrs
  rw [List.length_map] at hlen
  refine ⟨_, (pss_cons (ps_set (i := 1) sc_law_galive.nd rfl (Or.inl rfl) pe_dnewK)
    (pss_cons (ps_for PassesOwn.never rfl (pi_range1 rfl b_range (pa_cons (pe_callB call_len_seq (by rfl) b_len PySem.boot_len (pa_cons (pv 0) pa_nil)) pa_nil)) (pg_name (i := 2) sc_law_galive.nd rfl (Or.inl rfl))
      (pss_one (ps_for PassesOwn.never rfl (pi_tup (pe_ix ix_tup (pe_ix ix_tup (pv 0) (pv 2) (fun _ _ => rfl)) pe_int (fun _ _ => rfl))) (pg_tup rfl (pgs_cons (pg_name (i := 3) sc_law_galive.nd rfl (Or.inl rfl)) (pgs_cons (pg_name (i := 4) sc_law_galive.nd rfl (Or.inl rfl)) pgs_nil)))
      (pss_one (ps_expr (pe_bm PySem.F.plainAttrs_list PySem.F.slot_list_append PySem.F.type_list_append mt_append (pe_dsetd (pv 1) (pv 4) (pe_lst pa_nil) ⟨rfl, rfl, rfl, rfl⟩) (pa_cons (pv 2) pa_nil)))))))
    (pss_cons (ps_setLc (i := 5) (own := [("here", 2)]) (g := gName 2) rfl sc_law_galive.nd rfl rfl (sw_true rfl rfl rfl (by decide +kernel)) (pi_range1 rfl b_range (pa_cons (pe_callB call_len_seq (by rfl) b_len PySem.boot_len (pa_cons (pv 0) pa_nil)) pa_nil)) (blkOk_by (own := [("here", 2)]) (N := n_law_galive) (sc := defScope s_law_galive) (by decide +kernel)) (fun _ _ _ _ _ => (pg_name (i := 2) sc_law_galive.nd rfl (Or.inl rfl))) (fun _ _ _ _ _ => (pts_one (pt_val (pe_ix (r := rIxT K) ix_tup (pe_ix (r := rIxT K) ix_tup (pv 0) (pv 2) (fun _ _ => rfl)) pe_int (fun _ _ => rfl))))) (fun _ _ _ _ _ => (pv 2)))
    (pss_cons (ps_set (i := 6) sc_law_galive.nd rfl (Or.inl rfl) pe_dnewK)
    (pss_cons (ps_while PassesOwn.never (pt_cmpR (op_neD hr.units) (pv 5) (pe_lst pa_nil) (nomark _)) (pss_cons (ps_set (i := 2) sc_law_galive.nd rfl (Or.inl rfl) (pe_bm0 PySem.F.plainAttrs_list PySem.F.slot_list_pop PySem.F.type_list_pop mt_pop (pv 5)))
    (pss_one (ps_if (pt_cmp (pc_dnotin hu (pv 2) (pv 6)) rfl) (pss_cons (ps_dput hu (pv 6) (pv 2) pe_bl rfl)
    (pss_one (ps_expr (pe_bm PySem.F.plainAttrs_list PySem.F.slot_list_extend PySem.F.type_list_extend mt_extend (pv 5) (pa_cons (pe_dget2 hu (pv 1) (pv 2) (pe_lst pa_nil) ⟨rfl, rfl, rfl, rfl⟩) pa_nil))))) pss_nil))))
    (pss_one (ps_ret (pv 6)))))))), ?_⟩
  intro dc ndc
  have s1 : Same H (upd H dc (.dK [])) := .new ndc
  refine ⟨_, rfl, ma, rs, rfl, .inr (s1.sqT hma), _, rfl, by omega, by omega, ?_⟩
  refine for_range (lo := 0) (n := ((rs.length : Nat) : Int).toNat) (fun i σ H' => ∃ (cs : List (Nat × Addr)) (cm : Nat → List Nat) (o2 o3 o4 : Option V), σ = [some (.ref ma), some (.ref dc), o2, o3, o4, none, none] ∧ Same H H' ∧ Cm H H' dc cs cm ∧ Cin M i 0 cm ∧ (∀ x, (cm x).length ≤ 250 * i) ∧ cs.length ≤ 250 * i)
    ⟨[], fun _ => [], none, none, none, rfl, s1, ⟨upd_same, (fun p hp => by cases hp), .nil, .nil, fun _ _ => rfl⟩, (fun x y => ⟨(fun h => by cases h), fun h => h.elim (fun z => absurd z.1 (by omega)) fun z => by rw [List.take_zero] at z; cases z.2⟩), (fun _ => Nat.zero_le _), Nat.zero_le _⟩ ?_ ?_
  · rintro i σ H2 hi ⟨cs, cm, o2, o3, o4, rfl, s2, hC, hin, hbd, hcl⟩
    have hi' : i < M.length := by rw [Int.toNat_natCast] at hi; omega
    obtain ⟨r, hr1⟩ : ∃ r, M[i]? = some r := ⟨_, List.getElem?_eq_getElem hi'⟩
    obtain ⟨ra, b, ls, g1, g2, g3, g4⟩ := rmsAt hrs hr1
    have hll := dpsLen g4
    rw [List.length_map] at hll
    obtain ⟨hr100, hrlt⟩ := hMo r (List.mem_of_getElem? hr1)
    have est := stepsOf_at hr1
    refine ⟨_, rfl, _, rfl, ma, rs, _, _, rfl, rfl, s2.sqT hma, at_of (j := i) (by omega) g1, ra, _, 1, _, rfl, rfl, s2.sqT g2, atI_nat (j := 1) rfl, b, rfl, ⟨_, s2.sqT g3⟩, ?_⟩
    refine for_tup (K := K) (a := b) (xs := ls) (fun j σ H' => ∃ (cs : List (Nat × Addr)) (cm : Nat → List Nat) (o3 o4 : Option V), σ = [some (.ref ma), some (.ref dc), some (.int (0 + (i : Int))), o3, o4, none, none] ∧ Same H H' ∧ Cm H H' dc cs cm ∧ Cin M i j cm ∧ (∀ x, (cm x).length ≤ 250 * i + j) ∧ cs.length ≤ 250 * i + j)
      ⟨cs, cm, _, _, rfl, s2, hC, hin, hbd, hcl⟩ (fun j σ H' _ ⟨_, _, _, _, _, s, _⟩ => s.sqT g3) ?_ ?_
    · rintro j x σ H3 hx ⟨cs, cm, o3, o4, rfl, s3, hC, hin, hbd, hcl⟩
      obtain ⟨p, a, hp, rfl, hpa⟩ := stsAt g4 hx
      have hj : j < r.2.length := (List.getElem?_eq_some_iff.mp hp).1
      have bx := hbd p.2
      refine ⟨a, _, rfl, s3.sqT hpa, rfl, _, _, rfl, _, _, rfl, rfl, ?_⟩
      -- more
      have more : ∀ (cs' : List (Nat × Addr)) (H' : Hp), Same H H' → Cm H H' dc cs' (cmAdd cm p.2 i) → cs'.length ≤ cs.length + 1 →
          ∃ (cs : List (Nat × Addr)) (cm : Nat → List Nat) (o3 o4 : Option V), ([some (.ref ma), some (.ref dc), some (.int (0 + (i : Int))), some (.str p.1), some (.int (p.2 : Int)), none, none] : L2.St) = [some (.ref ma), some (.ref dc), some (.int (0 + (i : Int))), o3, o4, none, none] ∧ Same H H' ∧ Cm H H' dc cs cm ∧ Cin M i (j + 1) cm ∧ (∀ x, (cm x).length ≤ 250 * i + (j + 1)) ∧ cs.length ≤ 250 * i + (j + 1) := by
        intro cs' H' s' hC' hl'
        refine ⟨cs', cmAdd cm p.2 i, _, _, rfl, s', hC', fun x y => ?_, fun x => ?_, by omega⟩
        · have e1 : ((stepsOf M i).take (j + 1)).map (·.2) = ((stepsOf M i).take j).map (·.2) ++ [p.2] := by rw [est, take_snoc hp, List.map_append]; rfl
          unfold cmAdd
          by_cases q : x = p.2
          · rw [if_pos q, List.mem_append, hin x y, List.mem_singleton, e1, List.mem_append, List.mem_singleton]
            constructor
            · rintro ((h | h) | h)
              · exact .inl h
              · exact .inr ⟨h.1, .inl h.2⟩
              · exact .inr ⟨h, .inr q⟩
            · rintro (h | ⟨h1, h2 | h2⟩)
              · exact .inl (.inl h)
              · exact .inl (.inr ⟨h1, h2⟩)
              · exact .inr h1
          · rw [if_neg q, hin x y, e1, List.mem_append, List.mem_singleton]
            constructor
            · rintro (h | h)
              · exact .inl h
              · exact .inr ⟨h.1, .inl h.2⟩
            · rintro (h | ⟨h1, h2 | h2⟩)
              · exact .inl h
              · exact .inr ⟨h1, h2⟩
              · exact absurd h2 q
        · have := hbd x
          unfold cmAdd
          split
          · rw [List.length_append, List.length_singleton]; omega
          · omega
      refine ⟨_, rfl, dc, rfl, .inl ⟨_, .inl hC.d⟩, _, rfl, (by show 0 ≤ sizeLine; decide), fun e ne => ?_⟩
      have s4 : Same H3 (upd H3 e (.lst [])) := .new ne
      have he4 : (upd H3 e (.lst [])) e = some (.lst (natV [])) := upd_same
      have hC4 := hC.same s4
      have neH : H e = none := freeB s3 ne
      have nedc : e ≠ dc := (ne_of_none hC.d ne).symm
      have necs : ∀ p, p ∈ cs → p.2 ≠ e := fun p hp => ne_of_none (hC.at_ p hp).1 ne
      generalize upd H3 e (.lst []) = H4 at s4 he4 hC4 ⊢
      refine ⟨_, .inl (p.2 : Int), hC4.d, rfl, szb (by unfold cmK; rw [List.length_map]; omega), fun v hvv => ?_, fun hvv => ?_⟩
      · have hk : p.2 ∈ cs.map (·.1) := Decidable.of_not_not fun z => by rw [cmK_no z] at hvv; cases hvv
        obtain ⟨q, hq, eq⟩ := List.mem_map.mp hk
        have hv2 := cmK_has hC.nd1 hq
        rw [eq, hvv] at hv2
        cases hv2
        have hq4 := (hC4.at_ q hq).1
        have bq := hbd q.1
        refine ⟨.inl ⟨rfl, _, sL hq4⟩, _, rfl, q.2, _, _, rfl, rfl, hq4, szb (by rw [ints_len]; omega), ?_⟩
        have hold := hC4.old (y := i) hq
        rw [eq] at hold
        have e2 : natV (cm q.1) ++ [V.int (0 + (i : Int))] = natV (cm q.1 ++ [i]) := by rw [natV_snoc, Int.zero_add]
        rw [e2]
        refine more cs _ ((s3.trans s4).mut (hC.at_ q hq).2) ?_ (by omega)
        rw [eq]
        exact hold
      · have hk : p.2 ∉ cs.map (·.1) := fun z => by
          obtain ⟨q, hq, eq⟩ := List.mem_map.mp z
          have hv2 := cmK_has hC.nd1 hq
          rw [eq, hvv] at hv2
          cases hv2
        have he5 : (upd H4 dc (.dK (putK (cmK cs) (.inl (p.2 : Int)) (.ref e)))) e = some (.lst (natV [])) := by rw [upd_ne nedc]; exact he4
        refine ⟨.inl ⟨rfl, _, sL he5⟩, _, rfl, e, _, _, rfl, rfl, he5, (by show 0 < sizeLine; decide), ?_⟩
        have e2 : natV [] ++ [V.int (0 + (i : Int))] = natV [i] := by rw [Int.zero_add]; rfl
        rw [e2]
        exact more (cs ++ [(p.2, e)]) _ (((s3.trans s4).mut ndc).mut neH) (hC4.new hk nedc necs neH) (by rw [List.length_append]; exact Nat.le_refl _)
    · rintro σ H3 ⟨cs, cm, o3, o4, rfl, s3, hC, hin, hbd, hcl⟩
      rw [hll] at hin hbd hcl
      refine ⟨cs, cm, _, _, _, rfl, s3, hC, fun x y => ?_, fun x => ?_, by omega⟩
      · rw [hin x y, est, List.take_length]
        have eE : Eg M i = r.2.map (·.2) := by unfold Eg; rw [est]
        constructor
        · rintro (h | ⟨h1, h2⟩)
          · exact .inl ⟨by omega, h.2⟩
          · rw [h1]; exact .inl ⟨by omega, by rw [eE]; exact h2⟩
        · rintro (h | ⟨_, h2⟩)
          · by_cases q : y = i
            · rw [q] at h ⊢
              exact .inr ⟨rfl, by rw [← eE]; exact h.2⟩
            · exact .inl ⟨by omega, h.2⟩
          · rw [List.take_zero] at h2; cases h2
      · have := hbd x; omega
  rintro σ H2 ⟨cs, cm, o2, o3, o4, rfl, s2, hC, hin, hbd, hcl⟩
  rw [Int.toNat_natCast, hlen] at hin hbd hcl
  have hcm : ∀ x y, y ∈ cm x ↔ y < M.length ∧ x ∈ Eg M y := fun x y => by
    rw [hin x y]
    exact ⟨(fun h => h.elim id fun z => by rw [List.take_zero] at z; cases z.2), .inl⟩
  -- waiting
  refine ⟨_, rfl, ma, rs, rfl, .inr (s2.sqT hma), _, rfl, by omega, by omega, fun wl nwl => ?_⟩
  have nwdc : dc ≠ wl := ne_of_none hC.d nwl
  have nwH := freeB s2 nwl
  refine lc_range (lo := 0) (n := ((rs.length : Nat) : Int).toNat) (fun i H' => Same H2 H' ∧ H' wl = some (.lst (natV ((List.range i).filter (endsOf M))))) ⟨.new nwl, upd_same⟩ ?_ ?_
  · rintro i H3 hi ⟨s3, hwl⟩
    have hi' : i < M.length := by rw [Int.toNat_natCast] at hi; omega
    obtain ⟨r, hr1⟩ : ∃ r, M[i]? = some r := ⟨_, List.getElem?_eq_getElem hi'⟩
    obtain ⟨ra, b, ls, g1, g2, g3, g4⟩ := rmsAt hrs hr1
    have s23 := s2.trans s3
    have hfl : ((List.range i).filter (endsOf M)).length ≤ i := by
      have := List.length_filter_le (endsOf M) (List.range i)
      rw [List.length_range] at this
      exact this
    have et : (List.range (i + 1)).filter (endsOf M) = (List.range i).filter (endsOf M) ++ (if r.1 = true then [i] else []) := by
      rw [List.range_succ, filter_snoc, (show endsOf M i = r.1 from endR_at hr1)]
    refine ⟨rfl, ?_⟩
    refine ⟨_, rfl, _, rfl, ma, rs, _, _, rfl, rfl, s23.sqT hma, at_of (j := i) (by omega) g1, ra, _, 0, _, rfl, rfl, s23.sqT g2, atI_nat (j := 0) rfl, r.1, rfl, ?_⟩
    cases eb : r.1 with
    | false =>
      rw [eb, if_neg (by decide), List.append_nil] at et
      refine iteF ⟨s3, by rw [et]; exact hwl⟩
    | true =>
      rw [eb, if_pos rfl] at et
      refine iteT ⟨_, rfl, _, hwl, szb (by rw [ints_len]; omega), s3.mut nwl, ?_⟩
      rw [upd_same, et, natV_snoc, Int.zero_add]
  rintro H3 ⟨s3, hwl⟩
  rw [Int.toNat_natCast, hlen] at hwl
  intro dl ndl
  have ndlw : dl ≠ wl := (ne_of_none hwl ndl).symm
  have ndldc : dl ≠ dc := (ne_of_none (s3 _ _ hC.d) ndl).symm
  have s23 := s2.trans s3
  have ndlH := freeB s23 ndl
  have hC3 := hC.same s3
  have csw : ∀ p, p ∈ cs → p.2 ≠ wl := fun p hp => ne_of_none (hC.at_ p hp).1 nwl
  have csd : ∀ p, p ∈ cs → p.2 ≠ dl := fun p hp => ne_of_none (hC3.at_ p hp).1 ndl
  have hbd' : ∀ x, (cm x).length ≤ 50000 := fun x => by have := hbd x; omega
  have hw0 : ((List.range M.length).filter (endsOf M)).length ≤ 200 := by
    have := List.length_filter_le (endsOf M) (List.range M.length)
    rw [List.length_range] at this
    omega
  have hc0 : costL (fun x => (cm x).length) [] (List.range M.length) ≤ 200 * 50000 := by
    refine Nat.le_trans (cost_le hbd' _) ?_
    rw [List.length_range]
    exact Nat.mul_le_mul_right _ hM2
  refine ⟨fun m σ H' => ∃ (S W : List Nat) (o2 : Option V), m = W.length + costL (fun x => (cm x).length) S (List.range M.length) ∧ m ≤ 10000200 ∧ σ = [some (.ref ma), some (.ref dc), o2, o3, o4, some (.ref wl), some (.ref dl)] ∧ Same H H' ∧ Cm H H' dc cs cm ∧ H' wl = some (.lst (natV W)) ∧ H' dl = some (.dK (pdK S)) ∧ Lv M S W,
    ⟨_, [], _, o2, rfl, by omega, rfl, s23.trans (.new ndl), hC3.w ndldc.symm csd, by rw [upd_ne ndlw.symm]; exact hwl, upd_same, Lv.start M⟩, ?_⟩
  rintro m σ H4 ⟨S, W, o2', rfl, hm, rfl, s4, hC4, hw4, hl4, hLv⟩
  refine ⟨_, rfl, (by show 0 ≤ sizeLine; decide), fun e ne => ?_⟩
  have s5 : Same H4 (upd H4 e (.lst [])) := .new ne
  have he5 : (upd H4 e (.lst [])) e = some (.lst []) := upd_same
  have s45 := s4.trans s5
  have hC5 := hC4.same s5
  have hw5 := s5 _ _ hw4
  have hl5 := s5 _ _ hl4
  generalize upd H4 e (.lst []) = H5 at s5 he5 s45 hC5 hw5 hl5 ⊢
  refine ⟨.list (W.map fun n : Nat => PyData.int (n : Int)), .list [], .lst (sL hw5) (dpIntsL W), .lst (sL he5) .nil, shInts W, shInts [], ?_⟩
  rw [eqvNil]
  rcases List.eq_nil_or_concat W with rfl | ⟨W', x, rfl⟩
  · refine ⟨_, rfl, iteF' (by decide) ?_⟩
    exact ⟨_, rfl, k _ dl S s45 ndlH hl5 hLv.nd hLv.done⟩
  · rw [List.concat_eq_append] at hw5 hLv hm ⊢
    rw [List.length_append, List.length_singleton] at hm
    refine ⟨_, rfl, iteT' (by simp) ?_⟩
    have hxlt := hLv.lt x (.inr (by simp))
    refine ⟨fun σ' H' => ∃ m', m' < (W' ++ [x]).length + costL (fun x => (cm x).length) S (List.range M.length) ∧ ∃ (S W : List Nat) (o2 : Option V), m' = W.length + costL (fun x => (cm x).length) S (List.range M.length) ∧ m' ≤ 10000200 ∧ σ' = [some (.ref ma), some (.ref dc), o2, o3, o4, some (.ref wl), some (.ref dl)] ∧ Same H H' ∧ Cm H H' dc cs cm ∧ H' wl = some (.lst (natV W)) ∧ H' dl = some (.dK (pdK S)) ∧ Lv M S W, fun σ' H' h => h, ?_⟩
    refine ⟨_, rfl, .inl ⟨rfl, _, sL hw5⟩, wl, _, .int (x : Int), rfl, rfl, hw5, by rw [natV_snoc]; simp, ?_⟩
    rw [natV_snoc, List.dropLast_concat]
    have s6 : Same H (upd H5 wl (.lst (natV W'))) := s45.mut nwH
    have hw6 : (upd H5 wl (.lst (natV W'))) wl = some (.lst (natV W')) := upd_same
    have hl6 : (upd H5 wl (.lst (natV W'))) dl = some (.dK (pdK S)) := by rw [upd_ne ndlw]; exact hl5
    have hC6 := hC5.w (o := .lst (natV W')) nwdc csw
    generalize upd H5 wl (.lst (natV W')) = H6 at s6 hw6 hl6 hC6 ⊢
    refine ⟨_, rfl, _, rfl, dl, _, rfl, DGet.k (k := .inl (x : Int)) hl6, _, rfl, ?_⟩
    rw [pdK_get]
    refine ite2 (fun hn => ?_) (fun hy => ?_)
    · have hx : x ∉ S := by simpa using hn
      have hcost := cost_split (f := fun x => (cm x).length) hx List.nodup_range (List.mem_range.mpr hxlt)
      have hsz : S.length ≤ M.length := nodup_le hLv.nd fun y hy => hLv.lt y (.inl hy)
      refine ⟨_, rfl, _, rfl, dl, _, rfl, DPut.k (k := .inl (x : Int)) hl6 (szb (by rw [pdK_len]; omega)), ?_⟩
      rw [pdK_put hx]
      have s7 : Same H (upd H6 dl (.dK (pdK (S ++ [x])))) := s6.mut ndlH
      have hl7 : (upd H6 dl (.dK (pdK (S ++ [x])))) dl = some (.dK (pdK (S ++ [x]))) := upd_same
      have hw7 : (upd H6 dl (.dK (pdK (S ++ [x])))) wl = some (.lst (natV W')) := by rw [upd_ne ndlw.symm]; exact hw6
      have hC7 := hC6.w (o := .dK (pdK (S ++ [x]))) ndldc.symm csd
      generalize upd H6 dl (.dK (pdK (S ++ [x]))) = H7 at s7 hl7 hw7 hC7 ⊢
      refine ⟨_, rfl, .inl ⟨rfl, _, sL hw7⟩, ?_⟩
      refine ⟨_, rfl, dc, rfl, .inl ⟨_, .inl hC7.d⟩, _, rfl, (by show 0 ≤ sizeLine; decide), fun e2 ne2 => ?_⟩
      have s8 : Same H7 (upd H7 e2 (.lst [])) := .new ne2
      have he8 : (upd H7 e2 (.lst [])) e2 = some (.lst (natV [])) := upd_same
      have hC8 := hC7.same s8
      have hl8 := s8 _ _ hl7
      have hw8 := s8 _ _ hw7
      have s78 := s7.trans s8
      generalize upd H7 e2 (.lst []) = H8 at s8 he8 hC8 hl8 hw8 s78 ⊢
      refine ⟨_, DGet.k (k := .inl (x : Int)) hC8.d, ?_⟩
      have fin : ∀ (b : Addr), H8 b = some (.lst (natV (cm x))) → (∃ l b_1 xs zs, V.ref wl = V.ref l ∧ [V.ref b] = [V.ref b_1] ∧ H8 l = some (.lst xs) ∧ H8 b_1 = some (.lst zs) ∧ xs.length + zs.length ≤ sizeLine ∧ (∃ m', m' < (W' ++ [x]).length + costL (fun x => (cm x).length) S (List.range M.length) ∧ ∃ (S W : List Nat) (o2 : Option V), m' = W.length + costL (fun x => (cm x).length) S (List.range M.length) ∧ m' ≤ 10000200 ∧ ([some (.ref ma), some (.ref dc), some (.int (x : Int)), o3, o4, some (.ref wl), some (.ref dl)] : L2.St) = [some (.ref ma), some (.ref dc), o2, o3, o4, some (.ref wl), some (.ref dl)] ∧ Same H (upd H8 l (.lst (xs ++ zs))) ∧ Cm H (upd H8 l (.lst (xs ++ zs))) dc cs cm ∧ (upd H8 l (.lst (xs ++ zs))) wl = some (.lst (natV W)) ∧ (upd H8 l (.lst (xs ++ zs))) dl = some (.dK (pdK S)) ∧ Lv M S W)) := by
        intro b hb
        have hb20 := hbd' x
        refine ⟨wl, b, _, _, rfl, rfl, hw8, hb, szl (by rw [ints_len, ints_len]; omega), _, ?_, S ++ [x], W' ++ cm x, _, rfl, ?_, rfl, s78.mut nwH, hC8.w nwdc csw, by rw [upd_same, ints_app], by rw [upd_ne ndlw]; exact hl8, hLv.turn hx fun y => hcm x y⟩
        · rw [List.length_append, List.length_append, List.length_singleton]; omega
        · rw [List.length_append]; omega
      by_cases hk : x ∈ cs.map (·.1)
      · obtain ⟨q, hq, eq⟩ := List.mem_map.mp hk
        have hv2 := cmK_has hC8.nd1 hq
        rw [eq] at hv2
        rw [hv2]
        have := (hC8.at_ q hq).1
        rw [eq] at this
        exact fin q.2 this
      · rw [cmK_no hk]
        exact fin e2 (by rw [hC8.no x hk]; exact he8)
    · have hx : x ∈ S := Decidable.of_not_not fun q => hy (by rw [decide_eq_false q]; rfl)
      exact ⟨_, by rw [List.length_append, List.length_singleton]; omega, S, W', _, rfl, by omega, rfl, s6, hC6, hw6, hl6, hLv.skip hx⟩
end
end Sw
set_option Elab.async false
set_option maxRecDepth 100000
set_option maxHeartbeats 8000000
namespace Sw
open PySem L2 PySem.Spec PyProof.Rows
theorem inStr (t : Str) (ws : List Str) : inV (.str t) (ws.map V.str) = decide (t ∈ ws) := by
  induction ws with
  | nil => rfl
  | cons x ws ih =>
    unfold inV at ih ⊢
    rw [List.map_cons, List.any_cons, ih]
    by_cases e : t = x
    · subst e
      simp [eqV]
    · have e2 : eqV (.str x) (.str t) = false := by simp [eqV]; exact fun z => e z.symm
      rw [e2, Bool.false_or]
      by_cases q : t ∈ ws
      · rw [decide_eq_true q, decide_eq_true (List.mem_cons_of_mem _ q)]
      · rw [decide_eq_false q, decide_eq_false fun z => (List.mem_cons.mp z).elim e q]
theorem Rc.perm {E : Nat → List Nat} {n : Nat} {F S A A' : List Nat} (h : Rc E n F S A) (p : ∀ y, y ∈ A ↔ y ∈ A') : Rc E n F S A' :=
  ⟨h.nd, h.lt, fun x hx => h.sub x ((p x).mpr hx), h.frm, h.r, fun x hx hn => h.cl x hx fun z => hn ((p x).mp z)⟩
theorem len_all {n : Nat} {S : List Nat} {Pr : Nat → Prop} (nd : S.Nodup) (h : ∀ x, x ∈ S ↔ x < n ∧ Pr x) : S.length = n ↔ ∀ x, x < n → Pr x := by
  have hle : S.length ≤ n := nodup_le nd fun x hx => ((h x).mp hx).1
  constructor
  · intro e x hx
    by_cases q : x ∈ S
    · exact ((h x).mp q).2
    · have : (x :: S).length ≤ n := nodup_le (List.nodup_cons.mpr ⟨q, nd⟩) fun y hy => by
        rcases List.mem_cons.mp hy with rfl | hy
        · exact hx
        · exact ((h y).mp hy).1
      rw [List.length_cons] at this
      omega
  · intro g
    have := nd_le List.nodup_range (L := S) fun k hk => (h k).mpr ⟨List.mem_range.mp hk, g k (List.mem_range.mp hk)⟩
    rw [List.length_range] at this
    omega
/-- the signs so far, each once -/
def Wds (M : List Rm) (i : Nat) (W : List Str) : Prop := W.Nodup ∧ (∀ t, t ∈ W ↔ t ∈ sgs (M.take i)) ∧ W.length ≤ 250 * i
theorem sgs_at {M : List Rm} {i : Nat} {r : Rm} (h : M[i]? = some r) (t : Str) : t ∈ sgs (M.take (i + 1)) ↔ t ∈ sgs (M.take i) ∨ t ∈ r.2.map Prod.fst := by
  unfold sgs
  rw [take_snoc h, List.map_append, List.flatten_append, List.mem_append]
  simp
theorem Wds.add {M : List Rm} {i : Nat} {W : List Str} {r : Rm} (h : Wds M i W) (hr : M[i]? = some r) (hi : Inc r.2) (hl : r.2.length ≤ 250) : Wds M (i + 1) (W ++ (r.2.map Prod.fst).filter fun t => !decide (t ∈ W)) := by
  obtain ⟨h1, h2, h3⟩ := h
  have hm : ∀ t, t ∈ (r.2.map Prod.fst).filter (fun t => !decide (t ∈ W)) ↔ t ∈ r.2.map Prod.fst ∧ t ∉ W := fun t => by rw [List.mem_filter]; simp
  refine ⟨?_, fun t => ?_, ?_⟩
  · rw [List.nodup_append]
    refine ⟨h1, (SL.nd hi).filter _, fun a ha b hb => ?_⟩
    rintro rfl
    exact ((hm a).mp hb).2 ha
  · rw [List.mem_append, hm, sgs_at hr, ← h2]
    by_cases q : t ∈ W
    · simp [q]
    · simp [q]
  · have := List.length_filter_le (fun t => !decide (t ∈ W)) (r.2.map Prod.fst)
    rw [List.length_map] at this
    rw [List.length_append]
    omega
theorem Wds.len {M : List Rm} {W : List Str} (h : Wds M M.length W) : W.length = (nubL (sgs M)).length := by
  obtain ⟨h1, h2, _⟩ := h
  rw [List.take_length] at h2
  exact Nat.le_antisymm (nd_le h1 fun x hx => nubL_mem.mpr ((h2 x).mp hx)) (nd_le (nubL_nd _) fun x hx => (h2 x).mpr (nubL_mem.mp hx))
section
variable {P : Program} {w : World} {K : PySem.W.Frag} {mg : Str → Option Value} {base : Heap}
abbrev n_law_e_is_machine : List Str := ["thing", "words", "room", "sign", "there", "come", "met", "at"]
theorem sc_law_e_is_machine : FnScope n_law_e_is_machine ["thing"] (defScope s_law_e_is_machine) := ⟨rfl, rfl, rfl, by decide +kernel, rfl, by decide +kernel, by decide +kernel⟩
def spEIs (K : PySem.W.Frag) : Sp := fun vs H Q _ => ∃ v d, vs = [v] ∧ Dp K H v d ∧ bdD d = true ∧ (∀ M, d = maD M → ∀ r, r ∈ M → r.2.length ≤ 250) ∧ ∀ (b : Bool) H', Same H H' → (b = true ↔ IsMach d) → Q (.bl b) H'
theorem ok_law_e_is_machine (F : DefAt K mg "_law_e_is_machine" s_law_e_is_machine ["thing"]) (d__law_e_is_rooms : DefOk P w K mg base "_law_e_is_rooms" 2 ["thing"] (spIsRooms K)) (d__law_galive : DefOk P w K mg base "_law_galive" 1 ["rooms"] (spAlive K)) (b_len : mg "len" = none) : DefOk P w K mg base "_law_e_is_machine" 3 ["thing"] (spEIs K) := by
  refine F.ok sc_law_e_is_machine (fun vs H Q E h => ?_) (fun f cdv A outer s H vs Q E hr h => ?_)
  · obtain ⟨_, _, rfl, _⟩ := h
    rfl
  obtain ⟨v, d, rfl, hd, hbd, hst, k⟩ := h
  have hu := hu_of hr
  have no : ∀ H', Same H H' → ¬ IsMach d → Q (.bl false) H' := fun H' s q => k false H' s ⟨(fun z => by cases z), fun z => absurd z q⟩
  refine ⟨_, (pss_cons (ps_if (PW.pt (pw_or (pt_not (pt_val (pe_callD d__law_e_is_rooms (hr.mono (by decide)) rfl (pa_cons (pv 0) pa_nil)))) (pw_or1 (pt_cmpR op_gt (pe_callB call_len_seq (by rfl) b_len PySem.boot_len (pa_cons (pv 0) pa_nil)) pe_int (nomark _))))) (pss_one (ps_ret pe_bl)) pss_nil)
    (pss_cons (ps_set (i := 1) sc_law_e_is_machine.nd rfl (Or.inr rfl) (pe_lst pa_nil))
    (pss_cons (ps_for PassesOwn.never rfl (pi_tup (pv 0)) (pg_name (i := 2) sc_law_e_is_machine.nd rfl (Or.inl rfl))
      (pss_one (ps_set (i := 1) sc_law_e_is_machine.nd rfl (Or.inr rfl) (pe_op op_cat (pv 1) (pe_lc (own := [("sign", 3), ("there", 4)]) (g := gTup K 2 (gCons (gName 3) (gCons (gName 4) gNil))) rfl sc_law_e_is_machine.nd (pi_tup (pe_ix ix_tup (pv 2) pe_int (fun _ _ => rfl))) (blkOk_by (own := [("sign", 3), ("there", 4)]) (N := n_law_e_is_machine) (sc := defScope s_law_e_is_machine) (by decide +kernel)) (fun _ _ _ _ _ => (pg_tup rfl (pgs_cons (pg_name (i := 3) sc_law_e_is_machine.nd rfl (Or.inl rfl)) (pgs_cons (pg_name (i := 4) sc_law_e_is_machine.nd rfl (Or.inl rfl)) pgs_nil)))) (fun _ _ _ _ _ => (pts_one (pt_cmpR (r := rIn K true) op_notIn_seq (pv 3) (pv 1) (by rfl)))) (fun _ _ _ _ _ => (pv 3)))))))
    (pss_cons (ps_if (pt_cmpR op_gt (pe_callB call_len_seq (by rfl) b_len PySem.boot_len (pa_cons (pv 1) pa_nil)) pe_int (nomark _)) (pss_one (ps_ret pe_bl)) pss_nil)
    (pss_cons (ps_set (i := 5) sc_law_e_is_machine.nd rfl (Or.inl rfl) (pe_lst (pa_cons pe_int pa_nil)))
    (pss_cons (ps_set (i := 6) sc_law_e_is_machine.nd rfl (Or.inl rfl) (pe_disp (pps_cons pe_int pe_bl pps_nil) (by rfl) (by rfl) (fun z => by cases z) (by decide)))
    (pss_cons (ps_set (i := 7) sc_law_e_is_machine.nd rfl (Or.inl rfl) pe_int)
    (pss_cons (ps_while PassesOwn.never (pt_cmpR op_lt (pv 7) (pe_callB call_len_seq (by rfl) b_len PySem.boot_len (pa_cons (pv 5) pa_nil)) (nomark _)) (pss_cons (ps_for PassesOwn.never rfl (pi_tup (pe_ix ix_tup (pe_ix ix_tup (pv 0) (pe_ix ix_list (pv 5) (pv 7) (fun _ _ => rfl)) (fun _ _ => rfl)) pe_int (fun _ _ => rfl))) (pg_tup rfl (pgs_cons (pg_name (i := 3) sc_law_e_is_machine.nd rfl (Or.inl rfl)) (pgs_cons (pg_name (i := 4) sc_law_e_is_machine.nd rfl (Or.inl rfl)) pgs_nil)))
      (pss_one (ps_if (pt_cmp (pc_dnotin hu (pv 4) (pv 6)) rfl) (pss_cons (ps_dput hu (pv 6) (pv 4) pe_bl rfl)
    (pss_one (ps_expr (pe_bm PySem.F.plainAttrs_list PySem.F.slot_list_append PySem.F.type_list_append mt_append (pv 5) (pa_cons (pv 4) pa_nil))))) pss_nil)))
    (pss_one (ps_set (i := 7) sc_law_e_is_machine.nd rfl (Or.inl rfl) (pe_op op_add (pv 7) pe_int)))))
    (pss_one (ps_ret (pe_and (pe_cmpR op_eq (pe_callB call_len_seq (by rfl) b_len PySem.boot_len (pa_cons (pv 5) pa_nil)) (pe_callB call_len_seq (by rfl) b_len PySem.boot_len (pa_cons (pv 0) pa_nil)) (nomark _)) (pe_one (pe_cmpR op_eq (pe_callB call_lenD (by rfl) b_len PySem.boot_len (pa_cons (pe_callD d__law_galive (hr.mono (by decide)) rfl (pa_cons (pv 0) pa_nil)) pa_nil)) (pe_callB call_len_seq (by rfl) b_len PySem.boot_len (pa_cons (pv 0) pa_nil)) (nomark _)))))))))))))), ?_⟩
  refine ⟨_, rfl, v, d, rfl, hd, hbd, fun b hb => ⟨_, rfl, ?_⟩⟩
  cases b with
  | false =>
    refine iteT (no H (.refl H) ?_)
    rintro ⟨M, e, hM⟩
    have := hb.mpr ⟨M, e, hM.pos, hM.rm⟩
    cases this
  | true =>
  refine iteF ?_
  obtain ⟨M, rfl, hM0, hMr⟩ := hb.mp rfl
  have hst := hst M rfl
  obtain ⟨ma, rs, rfl, hma, hrs⟩ := dpTup hd
  have hlen := dpsLen hrs
  rw [List.length_map] at hlen
  refine ⟨_, rfl, ma, rs, rfl, .inr hma, _, _, rfl, rfl, _, rfl, ite2 (fun h200 => no H (.refl H) ?_) (fun h200 => ?_)⟩
  · rintro ⟨M', e, hM⟩
    obtain rfl := maD_inj e
    have h200 := of_decide_eq_true h200
    have := hM.le
    omega
  have h200' : M.length ≤ 200 := by
    by_cases q : M.length ≤ 200
    · exact q
    · exact absurd (decide_eq_true (by omega)) h200
  refine ⟨(by show 0 ≤ sizeLine; decide), fun wl nwl => ?_⟩
  have s1 : Same H (upd H wl (.lst [])) := .new nwl
  have hw1 : (upd H wl (.lst [])) wl = some (.lst (([] : List Str).map V.str)) := upd_same
  generalize upd H wl (.lst []) = H1 at s1 hw1 ⊢
  refine ⟨_, rfl, ma, rfl, ⟨_, s1.sqT hma⟩, ?_⟩
  refine for_tup (K := K) (a := ma) (xs := rs) (fun i σ H' => ∃ (wl : Addr) (W : List Str) (o2 : Option V), σ = [some (.ref ma), some (.ref wl), o2, none, none, none, none, none] ∧ Same H H' ∧ H' wl = some (.lst (W.map V.str)) ∧ Wds M i W)
    ⟨wl, [], none, rfl, s1, hw1, .nil, (fun t => by simp [sgs]), Nat.zero_le _⟩ (fun i σ H' _ ⟨_, _, _, _, s, _⟩ => s.sqT hma) ?_ ?_
  · rintro i x σ H2 hx ⟨wl, W, o2, rfl, s2, hw2, hW⟩
    have hi : i < M.length := by rw [← hlen]; exact (List.getElem?_eq_some_iff.mp hx).1
    obtain ⟨r, hr1⟩ : ∃ r, M[i]? = some r := ⟨_, List.getElem?_eq_getElem hi⟩
    obtain ⟨ra, b, ls, g1, g2, g3, g4⟩ := rmsAt hrs hr1
    rw [hx] at g1
    cases g1
    have hrm := List.mem_of_getElem? hr1
    have hll := dpsLen g4
    rw [List.length_map] at hll
    have hr100 := hst r hrm
    refine ⟨_, rfl, _, rfl, ra, _, 1, _, rfl, rfl, s2.sqT g2, atI_nat (j := 1) rfl, b, rfl, ⟨_, s2.sqT g3⟩, fun D nD => ?_⟩
    refine lc_tup (K := K) (a := b) (xs := ls) (fun j H' => Same H2 H' ∧ H' D = some (.lst ((((r.2.take j).map Prod.fst).filter fun t => !decide (t ∈ W)).map V.str))) ⟨.new nD, upd_same⟩ (fun j H' _ ⟨s, _⟩ => (s2.trans s).sqT g3) ?_ ?_
    · rintro j x H3 hx ⟨s3, hD⟩
      obtain ⟨p, a, hp, rfl, hpa⟩ := stsAt g4 hx
      have hj : j < r.2.length := (List.getElem?_eq_some_iff.mp hp).1
      refine ⟨a, _, rfl, (s2.trans s3).sqT hpa, rfl, _, _, rfl, _, _, rfl, rfl, rfl, ?_⟩
      refine ⟨_, rfl, _, rfl, wl, _, rfl, .inl (sL (s3 _ _ hw2)), rfl, flat_strs W, _, rfl, ?_⟩
      rw [inStr]
      have et : ((r.2.take (j + 1)).map Prod.fst).filter (fun t => !decide (t ∈ W)) = ((r.2.take j).map Prod.fst).filter (fun t => !decide (t ∈ W)) ++ (if (!decide (p.1 ∈ W)) = true then [p.1] else []) := by
        rw [take_snoc hp, List.map_append, List.map_singleton, filter_snoc]
      have hfl := List.length_filter_le (fun t => !decide (t ∈ W)) ((r.2.take j).map Prod.fst)
      rw [List.length_map, List.length_take] at hfl
      rw [et]
      refine ite2 (fun hn => ?_) (fun hn => ?_)
      · have hn' : (!decide (p.1 ∈ W)) = true := hn
        rw [if_pos hn']
        refine ⟨_, rfl, _, hD, szb (by rw [List.length_map]; omega), s3.mut nD, ?_⟩
        rw [upd_same, List.map_append]
        rfl
      · have hn' : ¬ (!decide (p.1 ∈ W)) = true := hn
        rw [if_neg hn', List.append_nil]
        exact ⟨s3, hD⟩
    · rintro H3 ⟨s3, hD⟩
      rw [hll, List.take_length] at hD
      have hW3 := hW.2.2
      have hfl := List.length_filter_le (fun t => !decide (t ∈ W)) (r.2.map Prod.fst)
      rw [List.length_map] at hfl
      refine ⟨wl, D, _, _, rfl, rfl, s3 _ _ hw2, hD, szl (by rw [List.length_map, List.length_map]; omega), fun z nz => ?_⟩
      refine ⟨z, _, _, rfl, s2.trans (s3.trans (.new nz)), ?_, hW.add hr1 (hMr r hrm).2 hr100⟩
      rw [upd_same, List.map_append]
  rintro σ H2 ⟨wl, W, o2, rfl, s2, hw2, hW⟩
  rw [hlen] at hW
  have hWl := hW.len
  refine ⟨_, rfl, wl, _, rfl, .inl (sL hw2), _, _, rfl, rfl, _, rfl, ?_⟩
  rw [List.length_map]
  refine ite2 (fun h6 => no H2 s2 ?_) (fun h6 => ?_)
  · rintro ⟨M', e, hM⟩
    obtain rfl := maD_inj e
    have h6 := of_decide_eq_true h6
    have := hM.few
    omega
  have h6' : (nubL (sgs M)).length ≤ 6 := by
    by_cases q : (nubL (sgs M)).length ≤ 6
    · exact q
    · exact absurd (decide_eq_true (by omega)) h6
  refine ⟨(by show 1 ≤ sizeLine; decide), fun cl ncl => ?_⟩
  have s3 : Same H2 (upd H2 cl (.lst [.int 0])) := .new ncl
  have hc3 : (upd H2 cl (.lst [.int 0])) cl = some (.lst (natV [0])) := upd_same
  have nclH := freeB s2 ncl
  have s03 := s2.trans s3
  generalize upd H2 cl (.lst [.int 0]) = H3 at s3 hc3 s03 ⊢
  intro pd npd
  have npdH := freeB s03 npd
  have ncp : cl ≠ pd := ne_of_none hc3 npd
  refine ⟨upd_same, [(.inl 0, .bl true)], rfl, (by show 1 ≤ 15; decide), ?_⟩
  have hpd4 : (upd (upd H3 pd (.dK [])) pd (.dK (mergeK [] [(.inl 0, .bl true)]))) pd = some (.dK (pdK [0])) := upd_same
  have s4 : Same H (upd (upd H3 pd (.dK [])) pd (.dK (mergeK [] [(.inl 0, .bl true)]))) := (s03.trans (.new npd)).mut npdH
  have hc4 : (upd (upd H3 pd (.dK [])) pd (.dK (mergeK [] [(.inl 0, .bl true)]))) cl = some (.lst (natV [0])) := by rw [upd_ne ncp, upd_ne ncp]; exact hc3
  generalize upd (upd H3 pd (.dK [])) pd (.dK (mergeK [] [(.inl 0, .bl true)])) = H4 at hpd4 s4 hc4 ⊢
  have hE : ∀ x, x < M.length → ∀ y, y ∈ Eg M x → y < M.length := fun x hx y hy => by
    obtain ⟨r, hr1⟩ : ∃ r, M[x]? = some r := ⟨_, List.getElem?_eq_getElem hx⟩
    unfold Eg at hy
    rw [stepsOf_at hr1] at hy
    obtain ⟨p, hp, rfl⟩ := List.mem_map.mp hy
    exact ((hMr r (List.mem_of_getElem? hr1)).1 p hp).2
  refine ⟨fun m σ H' => ∃ (C : List Nat) (a : Nat) (o3 o4 : Option V), σ = [some (.ref ma), some (.ref wl), o2, o3, o4, some (.ref cl), some (.ref pd), some (.int (a : Int))] ∧ m = M.length - a ∧ a ≤ C.length ∧ Same H H' ∧ H' pd = some (.dK (pdK C)) ∧ H' cl = some (.lst (natV C)) ∧ Rc (Eg M) M.length [0] C (C.drop a),
    ⟨_, [0], 0, none, none, rfl, rfl, Nat.zero_le _, s4, hpd4, hc4, .start (by simp) (fun x hx => by rw [List.mem_singleton.mp hx]; exact hM0)⟩, ?_⟩
  rintro m σ H5 ⟨C, a, o3, o4, rfl, rfl, haC, s5, hpd5, hc5, hR⟩
  have hCl : C.length ≤ M.length := nodup_le hR.nd hR.lt
  refine ⟨_, rfl, _, rfl, cl, _, rfl, .inl (sL hc5), _, _, rfl, rfl, ?_⟩
  rw [ints_len]
  refine ⟨_, rfl, ite2 (fun hlt => ?_) (fun hlt => ?_)⟩
  · have hlt' : a < C.length := by have := of_decide_eq_true hlt; omega
    obtain ⟨x, hx⟩ : ∃ x, C[a]? = some x := ⟨_, List.getElem?_eq_getElem hlt'⟩
    have hxS := List.mem_of_getElem? hx
    have hxn := hR.lt x hxS
    have hdr : C.drop a = x :: C.drop (a + 1) := by
      rw [List.drop_eq_getElem_cons hlt']
      rw [List.getElem?_eq_getElem hlt'] at hx
      rw [Option.some.inj hx]
    obtain ⟨r, hr1⟩ : ∃ r, M[x]? = some r := ⟨_, List.getElem?_eq_getElem hxn⟩
    obtain ⟨ra, b, ls, g1, g2, g3, g4⟩ := rmsAt hrs hr1
    have hll := dpsLen g4
    rw [List.length_map] at hll
    have eE : Eg M x = r.2.map (·.2) := by unfold Eg; rw [stepsOf_at hr1]
    have hym : ∀ y, y ∈ r.2.map (·.2) → y < M.length := fun y hy => hE x hxn y (by rw [eE]; exact hy)
    have addlt : ∀ j, (C ++ adds [] C ((r.2.map (·.2)).take j)).length ≤ M.length := fun j => nodup_le (adds_nd hR.nd) fun y hy => by
      rcases List.mem_append.mp hy with hy | hy
      · exact hR.lt y hy
      · exact hym y (List.mem_of_mem_take (adds_mem hy).1)
    refine ⟨fun σ' H' => ∃ m', m' < M.length - a ∧ ∃ (C : List Nat) (a : Nat) (o3 o4 : Option V), σ' = [some (.ref ma), some (.ref wl), o2, o3, o4, some (.ref cl), some (.ref pd), some (.int (a : Int))] ∧ m' = M.length - a ∧ a ≤ C.length ∧ Same H H' ∧ H' pd = some (.dK (pdK C)) ∧ H' cl = some (.lst (natV C)) ∧ Rc (Eg M) M.length [0] C (C.drop a), fun σ' H' h => h, ?_⟩
    refine ⟨_, rfl, _, rfl, _, rfl, cl, _, _, _, rfl, rfl, sL hc5, atI_nat (ints_at hx), ma, _, _, _, rfl, rfl, s5.sqT hma, atI_nat g1, ra, _, 1, _, rfl, rfl, s5.sqT g2, atI_nat (j := 1) rfl, b, rfl, ⟨_, s5.sqT g3⟩, ?_⟩
    refine for_tup (K := K) (a := b) (xs := ls) (fun j σ H' => ∃ (o3 o4 : Option V), σ = [some (.ref ma), some (.ref wl), o2, o3, o4, some (.ref cl), some (.ref pd), some (.int (a : Int))] ∧ Same H H' ∧ H' pd = some (.dK (pdK (C ++ adds [] C ((r.2.map (·.2)).take j)))) ∧ H' cl = some (.lst (natV (C ++ adds [] C ((r.2.map (·.2)).take j)))))
      ⟨o3, o4, rfl, s5, by simpa [adds] using hpd5, by simpa [adds] using hc5⟩ (fun j σ H' _ ⟨_, _, _, g, _⟩ => g.sqT g3) ?_ ?_
    · rintro j v σ H6 hv ⟨o3, o4, rfl, s6, hpd6, hc6⟩
      obtain ⟨p, pa, hp, rfl, hpa⟩ := stsAt g4 hv
      have hal' := addlt j
      refine ⟨pa, _, rfl, s6.sqT hpa, rfl, _, _, rfl, _, _, rfl, rfl, ?_⟩
      refine ⟨_, rfl, _, rfl, pd, _, rfl, DGet.k (k := .inl (p.2 : Int)) hpd6, _, rfl, ?_⟩
      rw [pdK_get]
      have hpy : (r.2.map (·.2))[j]? = some p.2 := by rw [List.getElem?_map, hp]; rfl
      have enext : adds [] C ((r.2.map (·.2)).take (j + 1)) = if p.2 ∈ C ++ adds [] C ((r.2.map (·.2)).take j) then adds [] C ((r.2.map (·.2)).take j) else adds [] C ((r.2.map (·.2)).take j) ++ [p.2] := by
        rw [take_snoc hpy, adds_cons]
        by_cases q : p.2 ∈ C ++ adds [] C ((r.2.map (·.2)).take j)
        · rw [if_pos (.inr q), if_pos q]
        · rw [if_neg (fun z => z.elim (fun q' => by cases q') q), if_neg q]
      refine ite2 (fun hn => ?_) (fun hy' => ?_)
      · have hn' : p.2 ∉ C ++ adds [] C ((r.2.map (·.2)).take j) := by simpa using hn
        rw [if_neg hn'] at enext
        rw [enext]
        refine ⟨_, rfl, _, rfl, pd, _, rfl, DPut.k (k := .inl (p.2 : Int)) hpd6 (szb (by rw [pdK_len]; omega)), ?_⟩
        rw [pdK_put hn']
        have s7 : Same H (upd H6 pd (.dK (pdK (C ++ adds [] C ((r.2.map (·.2)).take j) ++ [p.2])))) := s6.mut npdH
        have hpd7 : (upd H6 pd (.dK (pdK (C ++ adds [] C ((r.2.map (·.2)).take j) ++ [p.2])))) pd = some (.dK (pdK (C ++ adds [] C ((r.2.map (·.2)).take j) ++ [p.2]))) := upd_same
        have hc7 : (upd H6 pd (.dK (pdK (C ++ adds [] C ((r.2.map (·.2)).take j) ++ [p.2])))) cl = some (.lst (natV (C ++ adds [] C ((r.2.map (·.2)).take j)))) := by rw [upd_ne ncp]; exact hc6
        generalize upd H6 pd (.dK (pdK (C ++ adds [] C ((r.2.map (·.2)).take j) ++ [p.2]))) = H7 at s7 hpd7 hc7 ⊢
        refine ⟨_, rfl, .inl ⟨rfl, _, sL hc7⟩, _, rfl, cl, _, _, rfl, rfl, hc7, szb (by rw [ints_len]; omega), ?_⟩
        refine ⟨_, _, rfl, s7.mut nclH, ?_, ?_⟩
        · rw [upd_ne ncp.symm, hpd7, List.append_assoc]
        · rw [upd_same, ← natV_snoc, List.append_assoc]
      · have hy2 : p.2 ∈ C ++ adds [] C ((r.2.map (·.2)).take j) := Decidable.of_not_not fun q => hy' (by rw [decide_eq_false q]; rfl)
        rw [if_pos hy2] at enext
        rw [enext]
        exact ⟨_, _, rfl, s6, hpd6, hc6⟩
    · rintro σ H6 ⟨o3, o4, rfl, s6, hpd6, hc6⟩
      rw [hll, show r.2.length = (r.2.map (·.2)).length by rw [List.length_map], List.take_length] at hpd6 hc6
      have hR' := (hR.perm (A' := C.drop (a + 1) ++ [x]) fun y => by rw [hdr]; simp [or_comm]).turn (by rw [eE]; exact hym)
      rw [eE] at hR'
      refine ⟨_, rfl, _, _, rfl, rfl, ?_⟩
      refine ⟨M.length - (a + 1), by omega, _, a + 1, _, _, rfl, rfl, by rw [List.length_append]; omega, s6, hpd6, hc6, ?_⟩
      rw [List.drop_append_of_le_length (by omega)]
      exact hR'
  · have hdrop : C.drop a = [] := List.drop_eq_nil_of_le (by
      by_cases q : a < C.length
      · exact absurd (decide_eq_true (by omega)) hlt
      · omega)
    rw [hdrop] at hR
    have hall := hR.all
    refine ⟨_, rfl, cl, _, rfl, .inl (sL hc5), _, rfl, ma, _, rfl, .inr (s5.sqT hma), rfl, ?_⟩
    rw [ints_len, hlen]
    have isM : (C.length = M.length ∧ ∀ x, x < M.length → ToE M x) ↔ IsMach (maD M) := by
      constructor
      · rintro ⟨h1, h2⟩
        refine ⟨M, rfl, hM0, h200', hMr, h6', fun k hk => ?_, h2⟩
        obtain ⟨f, hf, hrt⟩ := hall.mp h1 k hk
        rw [List.mem_singleton.mp hf] at hrt
        exact hrt
      · rintro ⟨M', e, hM⟩
        obtain rfl := maD_inj e
        exact ⟨hall.mpr fun k hk => ⟨0, by simp, hM.from0 k hk⟩, hM.toEnd⟩
    by_cases hCM : C.length = M.length
    · rw [show decide (V.int (C.length : Int) = V.int (M.length : Int)) = true from decide_eq_true (by rw [hCM])]
      refine ⟨_, rfl, iteT ?_⟩
      refine ⟨_, rfl, .ref ma, M, rfl, dpS s5 hd, h200', fun r hr => ⟨hst r hr, fun p hp => ((hMr r hr).1 p hp).2⟩, fun H6 dl S s6 ndl hdl hSn hSm => ?_⟩
      refine ⟨dl, _, rfl, hdl, _, rfl, ma, _, rfl, .inr ((s5.trans s6).sqT hma), rfl, ?_⟩
      rw [pdK_len, hlen]
      have hla := len_all hSn hSm
      refine k _ H6 (s5.trans s6) ?_
      rw [← isM]
      constructor
      · intro q
        have := V.int.inj (of_decide_eq_true q)
        exact ⟨hCM, hla.mp (by omega)⟩
      · intro q
        rw [hla.mpr q.2]
        exact decide_eq_true rfl
    · rw [show decide (V.int (C.length : Int) = V.int (M.length : Int)) = false from decide_eq_false fun e => hCM (by have := V.int.inj e; omega)]
      exact ⟨_, rfl, iteF (no H5 s5 fun q => hCM (isM.mpr q).1)⟩
end
end Sw
set_option Elab.async false
set_option maxRecDepth 100000
set_option maxHeartbeats 4000000
namespace Sw
open PySem L2 PySem.Spec PyProof.Rows
/-! ### measures of data -/
mutual
def ndD : PyData → Nat
  | .tuple l => 1 + nds l
  | .list l => 1 + nds l
  | _ => 1
def nds : List PyData → Nat
  | [] => 0
  | d :: l => ndD d + nds l
end
mutual
def ekB : PyData → Bool
  | .int i => (decide (-1 ≤ i) && decide (i ≤ 201)) || decide (i = 100000000000000000000)
  | .str t => decide (t.length ≤ 9) && PyData.strOk t
  | .tuple l => decide (l.length ≤ 250) && eks l
  | .list l => decide (l.length ≤ 250) && eks l
  | .dict _ => false
  | _ => true
def eks : List PyData → Bool
  | [] => true
  | d :: l => ekB d && eks l
end
theorem ek_int {i : Int} (h : ((decide (-1 ≤ i) && decide (i ≤ 201)) || decide (i = 100000000000000000000)) = true) : i.natAbs.log2 < 1920 ∧ (PyData.shown (.int i)).length ≤ 25 := by
  rw [shown_leaf.2.2.1]
  rw [Bool.or_eq_true, Bool.and_eq_true] at h
  rcases h with ⟨h1, h2⟩ | h
  · have h1 := of_decide_eq_true h1
    have h2 := of_decide_eq_true h2
    have : ∀ n : Fin 203, (((n.val : Nat) : Int) - 1).natAbs.log2 < 1920 ∧ (Str.ofString (toString (((n.val : Nat) : Int) - 1))).length ≤ 25 := by decide +kernel
    have q := this ⟨(i + 1).toNat, by omega⟩
    have e : (((i + 1).toNat : Nat) : Int) - 1 = i := by omega
    dsimp only at q
    rw [e] at q
    exact q
  · rw [of_decide_eq_true h]
    exact ⟨by decide +kernel, by decide +kernel⟩
mutual
theorem ek_all : ∀ d : PyData, ekB d = true → d.showable = true ∧ d.leavesShort 25 = true ∧ d.canLay0 = true ∧ bdD d = true ∧ d.bulk + 1 ≤ 10 * ndD d
  | .none, _ => by simp [PyData.showable, PyData.leavesShort, PyData.canLay0, bdD, PyData.bulk, ndD]
  | .bool _, _ => by simp [PyData.showable, PyData.leavesShort, PyData.canLay0, bdD, PyData.bulk, ndD]
  | .int i, h => by
    rw [ekB] at h
    obtain ⟨h1, h2⟩ := ek_int h
    simp [PyData.showable, PyData.leavesShort, PyData.canLay0, bdD, PyData.bulk, ndD, h1, h2]
  | .str t, h => by
    rw [ekB, Bool.and_eq_true] at h
    have h1 := of_decide_eq_true h.1
    have h2 := h.2
    have h3 : t.cps.size ≤ 9 := h1
    refine ⟨by simp [PyData.showable], ?_, by rw [PyData.canLay0]; exact h2, by rw [bdD]; exact decide_eq_true (by omega), by simp only [PyData.bulk, ndD]; omega⟩
    rw [PyData.leavesShort]
    unfold PyData.strOk at h2
    rw [← Array.all_toList] at h2
    refine List.all_eq_true.mpr fun c hc => decide_eq_true ?_
    have := of_decide_eq_true (List.all_eq_true.mp h2 c hc)
    have e : (16 : Nat) ^ 8 = 4294967296 := by decide
    omega
  | .tuple l, h => by
    rw [ekB, Bool.and_eq_true] at h
    have hl := of_decide_eq_true h.1
    obtain ⟨h1, h2, h3, h4, h5⟩ := eks_all l h.2
    exact ⟨by rw [PyData.showable]; exact h1, by rw [PyData.leavesShort]; exact h2, by rw [PyData.canLay0]; exact h3, by rw [bdD, h4, decide_eq_true (by omega)]; rfl, by simp only [PyData.bulk, ndD]; omega⟩
  | .list l, h => by
    rw [ekB, Bool.and_eq_true] at h
    have hl := of_decide_eq_true h.1
    obtain ⟨h1, h2, h3, h4, h5⟩ := eks_all l h.2
    exact ⟨by rw [PyData.showable]; exact h1, by rw [PyData.leavesShort]; exact h2, by rw [PyData.canLay0]; exact h3, by rw [bdD, h4, decide_eq_true (by omega)]; rfl, by simp only [PyData.bulk, ndD]; omega⟩
  | .dict _, h => by rw [ekB] at h; cases h
theorem eks_all : ∀ l : List PyData, eks l = true → PyData.showableAll l = true ∧ PyData.leavesShortAll 25 l = true ∧ PyData.canLayAll0 l = true ∧ bdDs l = true ∧ PyData.bulkAll l ≤ 10 * nds l
  | [], _ => by simp [PyData.showableAll, PyData.leavesShortAll, PyData.canLayAll0, bdDs, PyData.bulkAll]
  | d :: l, h => by
    rw [eks, Bool.and_eq_true] at h
    obtain ⟨a1, a2, a3, a4, a5⟩ := ek_all d h.1
    obtain ⟨b1, b2, b3, b4, b5⟩ := eks_all l h.2
    exact ⟨by rw [PyData.showableAll, a1, b1]; rfl, by rw [PyData.leavesShortAll, a2, b2]; rfl, by rw [PyData.canLayAll0, a3, b3]; rfl, by rw [bdDs, a4, b4]; rfl, by rw [PyData.bulkAll, nds]; omega⟩
end
structure Gd (d : PyData) (n e : Nat) : Prop where
  ek : ekB d = true
  nd : ndD d ≤ n
  dp : d.depth ≤ e
structure Ls (l : List PyData) (n e : Nat) : Prop where
  ek : eks l = true
  nd : nds l ≤ n
  dp : PyData.depthAll l ≤ e
theorem Gd.mono {d : PyData} {n e n' e' : Nat} (h : Gd d n e) (h1 : n ≤ n') (h2 : e ≤ e') : Gd d n' e' := ⟨h.ek, by have := h.nd; omega, by have := h.dp; omega⟩
theorem Ls.mono {d : List PyData} {n e n' e' : Nat} (h : Ls d n e) (h1 : n ≤ n') (h2 : e ≤ e') : Ls d n' e' := ⟨h.ek, by have := h.nd; omega, by have := h.dp; omega⟩
theorem ls_nil {e : Nat} : Ls [] 0 e := ⟨rfl, Nat.zero_le _, by rw [PyData.depthAll]; exact Nat.zero_le _⟩
theorem ls_cons {d : PyData} {l : List PyData} {n m e : Nat} (a : Gd d n e) (b : Ls l m e) : Ls (d :: l) (n + m) e :=
  ⟨by rw [eks, a.ek, b.ek]; rfl, by rw [nds]; have := a.nd; have := b.nd; omega, by rw [PyData.depthAll]; have := a.dp; have := b.dp; omega⟩
theorem ls_app {l k : List PyData} {n m e : Nat} (a : Ls l n e) (b : Ls k m e) : Ls (l ++ k) (n + m) e := by
  induction l generalizing n with
  | nil => exact b.mono (by omega) (Nat.le_refl _)
  | cons d l ih =>
    obtain ⟨h1, h2, h3⟩ := a
    rw [eks, Bool.and_eq_true] at h1
    rw [nds] at h2
    rw [PyData.depthAll] at h3
    have q := ih (n := n - ndD d) ⟨h1.2, by omega, by omega⟩
    exact (ls_cons (d := d) (n := ndD d) ⟨h1.1, Nat.le_refl _, by omega⟩ q).mono (by omega) (Nat.le_refl _)
theorem ls_sub : ∀ {l m : List PyData} {n e : Nat}, m.Sublist l → Ls l n e → Ls m n e
  | _, _, n, e, .slnil, h => h
  | _, _, n, e, .cons d s, h => by
    obtain ⟨h1, h2, h3⟩ := h
    rw [eks, Bool.and_eq_true] at h1
    rw [nds] at h2
    rw [PyData.depthAll] at h3
    exact ls_sub s ⟨h1.2, by omega, by omega⟩
  | _, _, n, e, .cons_cons d s, h => by
    obtain ⟨h1, h2, h3⟩ := h
    rw [eks, Bool.and_eq_true] at h1
    rw [nds] at h2
    rw [PyData.depthAll] at h3
    have q := ls_sub (n := n - ndD d) (e := e) s ⟨h1.2, by omega, by omega⟩
    exact (ls_cons (d := d) (n := ndD d) ⟨h1.1, Nat.le_refl _, by omega⟩ q).mono (by omega) (Nat.le_refl _)
theorem ls_mem {l : List PyData} {d : PyData} {n e : Nat} (h : Ls l n e) (hd : d ∈ l) : Gd d n e := by
  have := ls_sub (List.singleton_sublist.mpr hd) h
  obtain ⟨h1, h2, h3⟩ := this
  rw [eks, eks, Bool.and_true] at h1
  rw [nds, nds] at h2
  rw [PyData.depthAll, PyData.depthAll] at h3
  exact ⟨h1, by omega, by omega⟩
theorem gd_tup {l : List PyData} {n e : Nat} (h : Ls l n e) (hl : l.length ≤ 250) : Gd (.tuple l) (n + 1) (e + 1) :=
  ⟨by rw [ekB, h.ek, decide_eq_true hl]; rfl, by rw [ndD]; have := h.nd; omega, by rw [PyData.depth]; have := h.dp; omega⟩
theorem gd_lst {l : List PyData} {n e : Nat} (h : Ls l n e) (hl : l.length ≤ 250) : Gd (.list l) (n + 1) (e + 1) :=
  ⟨by rw [ekB, h.ek, decide_eq_true hl]; rfl, by rw [ndD]; have := h.nd; omega, by rw [PyData.depth]; have := h.dp; omega⟩
theorem gd_tup' {l : List PyData} {n e : Nat} (h : Gd (.tuple l) n e) : Ls l n e ∧ l.length ≤ 250 := by
  obtain ⟨h1, h2, h3⟩ := h
  rw [ekB, Bool.and_eq_true] at h1
  rw [ndD] at h2
  rw [PyData.depth] at h3
  exact ⟨⟨h1.2, by omega, by omega⟩, of_decide_eq_true h1.1⟩
theorem gd_of {d : PyData} {n e : Nat} (h : (ekB d && decide (ndD d ≤ n) && decide (d.depth ≤ e)) = true) : Gd d n e := by
  simp only [Bool.and_eq_true, decide_eq_true_eq] at h
  exact ⟨h.1.1, h.1.2, h.2⟩
/-! ### what may be asked -/
structure Ok60 (d : PyData) : Prop where
  bd : bdD d = true
  sh : d.showable = true
  nd : d.hasDict = false
  dep : d.depth ≤ 40
  len : d.shown.length ≤ sizeLine
  few : ∀ M, d = maD M → (nubL (sgs M)).length ≤ 4000
  st : ∀ M, d = maD M → ∀ r, r ∈ M → r.2.length ≤ 250
theorem nds_len : ∀ l : List PyData, l.length ≤ nds l
  | [] => Nat.zero_le _
  | d :: l => by
    have := nds_len l
    have h : 1 ≤ ndD d := by cases d <;> simp [ndD]
    rw [List.length_cons, nds]
    omega
theorem nd_rm (r : Rm) : ndD (rmD r) = 3 + nds (r.2.map stD) := by simp [rmD, ndD, nds]; omega
theorem sgs_nd : ∀ M : List Rm, (sgs M).length ≤ nds (M.map rmD)
  | [] => Nat.zero_le _
  | r :: M => by
    have := sgs_nd M
    have h2 := nds_len (r.2.map stD)
    rw [List.length_map] at h2
    have e : sgs (r :: M) = r.2.map Prod.fst ++ sgs M := by unfold sgs; rw [List.map_cons, List.flatten_cons]
    rw [e, List.length_append, List.length_map, List.map_cons, nds]
    rw [nd_rm]
    omega
theorem steps_nd : ∀ {M : List Rm} {r : Rm}, r ∈ M → r.2.length ≤ nds (M.map rmD)
  | q :: M, r, h => by
    rw [List.map_cons, nds]
    rcases List.mem_cons.mp h with rfl | h
    · have h2 := nds_len (r.2.map stD)
      rw [List.length_map] at h2
      rw [nd_rm]
      omega
    · have := steps_nd h
      omega
theorem Gd.ok {d : PyData} {n e : Nat} (h : Gd d n e) (hn : n ≤ 2000) (he : e ≤ 40) (hst : n ≤ 250 ∨ ∀ M, d = maD M → ∀ r, r ∈ M → r.2.length ≤ 250) : Ok60 d := by
  obtain ⟨h1, h2, h3, h4, h5⟩ := ek_all d h.ek
  have hd := h.dp
  have hnd := h.nd
  refine ⟨h4, h1, PyData.hasDict_of_canLay d h3, by omega, ?_, fun M e => ?_, fun M e r hr => ?_⟩
  · have hb := PyData.shown_le_bulk 25 (by omega) d h2
    have e27 : (25 + 2) * d.bulk ≤ (25 + 2) * 20000 := Nat.mul_le_mul_left _ (by omega)
    rw [sizeLine_eq]
    omega
  · subst e
    unfold maD at hnd
    rw [ndD] at hnd
    have := sgs_nd M
    have := nub_len_le (sgs M)
    omega
  · rcases hst with hst | hst
    · subst e
      unfold maD at hnd
      rw [ndD] at hnd
      have := steps_nd hr
      omega
    · exact hst M e r hr
section
variable {P : Program} {w : World} {K : PySem.W.Frag} {mg : Str → Option Value} {base : Heap}
abbrev n_law_e_right : List Str := ["thing", "seen", "found"]
theorem sc_law_e_right : FnScope n_law_e_right ["thing"] (defScope s_law_e_right) := ⟨rfl, rfl, rfl, by decide +kernel, rfl, by decide +kernel, by decide +kernel⟩
def spRight (K : PySem.W.Frag) (T R S : Addr) : Sp := fun vs H Q _ => ∃ v d, vs = [v] ∧ Dp K H v d ∧ Ok60 d ∧ H T = some (TabE T) ∧ H R = some (TabE R) ∧ H S = some (TabE S) ∧ ∀ H', Same H H' → Q (.bl true) H'
theorem ok_law_e_right {T R S : Addr} (F : DefAt K mg "_law_e_right" s_law_e_right ["thing"]) (d_is_machine : DefOk P w K mg base "is_machine" 7 ["thing"] (spIsMach K T R S)) (d__law_e_is_machine : DefOk P w K mg base "_law_e_is_machine" 3 ["thing"] (spEIs K)) (b_isinstance : mg "isinstance" = none) (b_bool : mg "bool" = none) (b_repr : mg "repr" = none) :
    DefG P w K mg base "_law_e_right" 8 ["thing"] (spRight K T R S) := by
  refine F.okG sc_law_e_right (fun vs H Q E h => ?_) (fun f cdv A outer s H vs Q E hg hr h => ?_)
  · obtain ⟨_, _, rfl, _⟩ := h
    rfl
  obtain ⟨v, d, rfl, hd, ok, hT, hR, hS, k⟩ := h
  refine ⟨_, (pss_cons (ps_set (i := 1) sc_law_e_right.nd rfl (Or.inl rfl) (pe_callB (cr_reprD hg hr.units) (by rfl) b_repr (by decide +kernel) (pa_cons (pv 0) pa_nil)))
    (pss_cons (ps_set (i := 2) sc_law_e_right.nd rfl (Or.inl rfl) (pe_callD d_is_machine (hr.mono (by decide)) rfl (pa_cons (pv 0) pa_nil)))
    (pss_one (ps_ret (pe_and (pe_callB call_isi (by rfl) b_isinstance (by decide +kernel) (pa_cons (pv 2) (pa_cons (pe_bltn (v := .ty "bool") (by rfl) b_bool (by decide +kernel) rfl) pa_nil))) (pe_and (pe_cmpR op_eq (pv 2) (pe_callD d__law_e_is_machine (hr.mono (by decide)) rfl (pa_cons (pv 0) pa_nil)) (nomark _)) (pe_one (pe_cmpR op_eq (pe_callB (cr_reprD hg hr.units) (by rfl) b_repr (by decide +kernel) (pa_cons (pv 0) pa_nil)) (pv 1) (nomark _))))))))), ?_⟩
  refine ⟨_, rfl, v, d, rfl, hd, ok.sh, ok.nd, ok.dep, ok.len, ?_⟩
  refine ⟨_, rfl, v, d, rfl, hd, ok.bd, ok.few, hT, hR, hS, fun b H1 hb s1 => ?_⟩
  refine ⟨_, rfl, .bl b, .ty "bool", _, _, true, rfl, .ty _, .base (.bl _), kit_ty (by decide +kernel), _, rfl, iteT ?_⟩
  refine ⟨_, rfl, _, rfl, v, d, rfl, dpS s1 hd, ok.bd, ok.st, fun b2 H2 s2 hb2 => ?_⟩
  obtain rfl : b = b2 := by
    cases b <;> cases b2 <;> first | rfl | (exact absurd (hb2.mpr (hb.mp rfl)) (by decide)) | (exact absurd (hb.mpr (hb2.mp rfl)) (by decide))
  refine ⟨rfl, ?_⟩
  rw [show decide (V.bl b = V.bl b) = true from decide_eq_true rfl]
  refine ⟨_, rfl, iteT ?_⟩
  refine ⟨_, rfl, v, d, rfl, dpS (s1.trans s2) hd, ok.sh, ok.nd, ok.dep, ok.len, ?_⟩
  refine ⟨_, rfl, rfl, ?_⟩
  rw [show decide (V.str d.shown = V.str d.shown) = true from decide_eq_true rfl]
  exact k _ (s1.trans s2)
end
end Sw
set_option Elab.async false
set_option maxRecDepth 100000
set_option maxHeartbeats 8000000
namespace Sw
open PySem L2 PySem.Spec PyProof.Rows
theorem let_ok {c : Nat} (h : letter c = true) : PyData.strOk (oneS c) = true := by
  unfold letter at h
  rw [Bool.and_eq_true] at h
  have h2 := of_decide_eq_true h.2
  unfold PyData.strOk oneS
  rw [← Array.all_toList]
  show (decide _ && true) = true
  rw [Bool.and_true]
  exact decide_eq_true (by omega)
theorem sg_ok {t : Str} (h : signS t = true) : PyData.strOk t = true ∧ t.length ≤ 6 := by
  obtain ⟨h1, h2, h3⟩ := sign_to h
  refine ⟨?_, h2⟩
  unfold PyData.strOk
  rw [← Array.all_toList]
  refine List.all_eq_true.mpr fun c hc => ?_
  have := List.all_eq_true.mp h3 c hc
  unfold letter at this
  rw [Bool.and_eq_true] at this
  have := of_decide_eq_true this.2
  exact decide_eq_true (by omega)
theorem gd_st {p : Stp} (h1 : PyData.strOk p.1 = true) (h2 : p.1.length ≤ 9) (h3 : p.2 ≤ 201) : Gd (stD p) 3 1 := by
  refine ⟨?_, ?_, ?_⟩
  · simp only [stD, ekB, eks, h1, Bool.and_true, List.length_cons, List.length_nil]
    simp
    exact ⟨h2, .inl (by omega)⟩
  · simp [stD, ndD, nds]
  · simp [stD, PyData.depth, PyData.depthAll]
theorem gd_sts {c : Nat} : ∀ {L : List Stp}, (∀ p, p ∈ L → PyData.strOk p.1 = true ∧ p.1.length ≤ 9 ∧ p.2 ≤ 201) → L.length ≤ c → Ls (L.map stD) (3 * c) 1
  | [], _, _ => ls_nil.mono (Nat.zero_le _) (Nat.le_refl _)
  | p :: L, h, hc => by
    rw [List.length_cons] at hc
    obtain ⟨h1, h2, h3⟩ := h p (by simp)
    exact (ls_cons (gd_st h1 h2 h3) (gd_sts (c := c - 1) (fun q hq => h q (List.mem_cons_of_mem _ hq)) (by omega))).mono (by omega) (Nat.le_refl _)
theorem gd_rm {r : Rm} {c : Nat} (h : ∀ p, p ∈ r.2 → PyData.strOk p.1 = true ∧ p.1.length ≤ 9 ∧ p.2 ≤ 201) (hc : r.2.length ≤ c) (h250 : c ≤ 250) : Gd (rmD r) (3 * c + 3) 3 := by
  have a := gd_tup (gd_sts h hc) (by rw [List.length_map]; omega)
  have b : Gd (.bool r.1) 1 2 := ⟨rfl, by simp [ndD], by simp [PyData.depth]⟩
  exact (gd_tup (ls_cons b (ls_cons a ls_nil)) (by show 2 ≤ 250; decide)).mono (by omega) (Nat.le_refl _)
theorem gd_rms {c : Nat} (h250 : c ≤ 250) : ∀ {M : List Rm}, (∀ r, r ∈ M → r.2.length ≤ c ∧ ∀ p, p ∈ r.2 → PyData.strOk p.1 = true ∧ p.1.length ≤ 9 ∧ p.2 ≤ 201) → Ls (M.map rmD) (M.length * (3 * c + 3)) 3
  | [], _ => ls_nil.mono (Nat.zero_le _) (Nat.le_refl _)
  | r :: M, h => by
    obtain ⟨h1, h2⟩ := h r (by simp)
    refine (ls_cons (gd_rm h2 h1 h250) (gd_rms h250 fun q hq => h q (List.mem_cons_of_mem _ hq))).mono ?_ (Nat.le_refl _)
    rw [List.length_cons, Nat.add_mul]
    omega
theorem gd_ma {c : Nat} {M : List Rm} (h250 : c ≤ 250) (h : ∀ r, r ∈ M → r.2.length ≤ c ∧ ∀ p, p ∈ r.2 → PyData.strOk p.1 = true ∧ p.1.length ≤ 9 ∧ p.2 ≤ 201) (hl : M.length ≤ 250) : Gd (maD M) (M.length * (3 * c + 3) + 1) 4 := gd_tup (gd_rms h250 h) (by rw [List.length_map]; exact hl)
/-- a machine of the law -/
structure Mg (ss : List Str) (M : List Rm) : Prop where
  pos : 0 < M.length
  le : M.length ≤ 6
  mg : MG ss M.length M
  s0 : 0 < ss.length
  s3 : ss.length ≤ 3
  pw : ss.Pairwise SL
  sg : ∀ t, t ∈ ss → signS t = true
theorem Mg.isM {ss : List Str} {M : List Rm} (h : Mg ss M) : IsM M := h.mg.isM h.pos (by have := h.le; omega) h.s3 h.pw h.sg
theorem Mg.rm {ss : List Str} {M : List Rm} (h : Mg ss M) : ∀ r, r ∈ M → r.2.length ≤ 3 ∧ ∀ p, p ∈ r.2 → PyData.strOk p.1 = true ∧ p.1.length ≤ 6 ∧ p.2 < M.length := fun r hr => by
  obtain ⟨k, hk, e⟩ := List.mem_iff_getElem.mp hr
  have g := h.mg k r (by rw [List.getElem?_eq_getElem hk, e])
  refine ⟨g.len, fun p hp => ?_⟩
  obtain ⟨q1, q2⟩ := sg_ok (h.sg _ (g.sub.subset (List.mem_map.mpr ⟨p, hp, rfl⟩)))
  exact ⟨q1, q2, g.lt p hp⟩
theorem Mg.gd {ss : List Str} {M : List Rm} (h : Mg ss M) : Gd (maD M) 73 4 := by
  have hle := h.le
  refine (gd_ma (c := 3) (by decide) (fun r hr => ⟨(h.rm r hr).1, fun p hp => ?_⟩) (by omega)).mono ?_ (Nat.le_refl _)
  · obtain ⟨q1, q2, q3⟩ := (h.rm r hr).2 p hp
    exact ⟨q1, by omega, by omega⟩
  · omega
def spOdd (K : PySem.W.Frag) : Sp := fun vs H Q _ => ∃ (pen sp sg : Addr) (ss : List Str) (v : V) (M : List Rm), vs = [.ref pen, v, .ref sg] ∧ PenAt H pen sp ∧ H sg = some (.lst (ss.map V.str)) ∧ Dp K H v (maD M) ∧ Mg ss M ∧
  ∀ H' G u d, But pen H H' → PenAt H' pen sp → Same G H' → G pen = none → Dp K G u d → Gd d 250 12 → Q u H'
/-- a chain of rooms -/
def chainM (ts : List Str) : List Rm := ((List.range ts.length).map fun k => (false, [(ts.getD k "", k + 1)])) ++ [(true, [])]
theorem chain_gd {ts : List Str} (hl : ts.length ≤ 200) (h : ∀ t, t ∈ ts → PyData.strOk t = true ∧ t.length ≤ 9) : Ok60 (maD (chainM ts)) := by
  have hm : ∀ r, r ∈ chainM ts → r.2.length ≤ 1 ∧ ∀ p, p ∈ r.2 → PyData.strOk p.1 = true ∧ p.1.length ≤ 9 ∧ p.2 ≤ 201 := fun r hr => by
    rcases List.mem_append.mp hr with hr | hr
    · obtain ⟨k, hk, rfl⟩ := List.mem_map.mp hr
      have hk := List.mem_range.mp hk
      refine ⟨Nat.le_refl _, fun p hp => ?_⟩
      rw [List.mem_singleton.mp hp]
      have e : ts.getD k "" ∈ ts := by rw [List.getD_eq_getElem?_getD, List.getElem?_eq_getElem hk]; exact List.getElem_mem hk
      exact ⟨(h _ e).1, (h _ e).2, by show k + 1 ≤ 201; omega⟩
    · rw [List.mem_singleton.mp hr]
      exact ⟨Nat.zero_le _, fun p hp => by cases hp⟩
  have hlen : (chainM ts).length = ts.length + 1 := by unfold chainM; rw [List.length_append, List.length_map, List.length_range]; rfl
  refine (gd_ma (c := 1) (by decide) hm (by rw [hlen]; omega)).ok (by rw [hlen]; omega) (by decide) (.inr fun M' e r hr => ?_)
  obtain rfl := maD_inj e
  have := (hm r hr).1
  omega
theorem star_gd {ts : List Str} (hl : ts.length ≤ 7) (h : ∀ t, t ∈ ts → PyData.strOk t = true ∧ t.length ≤ 9) : Ok60 (maD [(true, ts.map fun t => (t, 0))]) := by
  have hm : ∀ r, r ∈ [((true, ts.map fun t => (t, 0)) : Rm)] → r.2.length ≤ 7 ∧ ∀ p, p ∈ r.2 → PyData.strOk p.1 = true ∧ p.1.length ≤ 9 ∧ p.2 ≤ 201 := fun r hr => by
    rw [List.mem_singleton.mp hr]
    refine ⟨by show (ts.map fun t => (t, 0)).length ≤ 7; rw [List.length_map]; exact hl, fun p hp => ?_⟩
    obtain ⟨t, ht, rfl⟩ := List.mem_map.mp hp
    exact ⟨(h t ht).1, (h t ht).2, Nat.zero_le _⟩
  exact (gd_ma (c := 7) (by decide) hm (by show 1 ≤ 250; decide)).ok (by show 1 * 24 + 1 ≤ 2000; decide) (by decide) (.inl (by show 1 * 24 + 1 ≤ 250; decide))
section
variable {P : Program} {w : World} {K : PySem.W.Frag} {mg : Str → Option Value} {base : Heap}
abbrev n_law : List Str := ["script", "pen", "turn", "signs", "machine", "thing", "many", "chain", "k", "letters", "sign"]
theorem sc_law : FnScope n_law ["script"] (defScope s_law) := ⟨rfl, rfl, rfl, by decide +kernel, rfl, by decide +kernel, by decide +kernel⟩
def spLaw (K : PySem.W.Frag) (T R S : Addr) : Sp := fun vs H Q _ => ∃ (a : Addr) (ns : List Int), vs = [.ref a] ∧ SqL K H a (ns.map V.int) ∧ ns.length ≤ 63 ∧ H T = some (TabE T) ∧ H R = some (TabE R) ∧ H S = some (TabE S) ∧ ∀ H', Same H H' → Q (.bl true) H'
theorem ok_law {f : Addr} {fd : FuncData} {T R S : Addr} (F : Fun K "law" "law" s_law f fd) (d__law_e_pen : DefOk P w K mg base "_law_e_pen" 1 ["script"] (spPen K)) (d__law_e_signs : DefOk P w K mg base "_law_e_signs" 2 ["pen"] spSigns)
    (d__law_e_machine : DefOk P w K mg base "_law_e_machine" 2 ["pen", "signs", "most"] (spMachine K)) (d_is_machine : DefOk P w K mg base "is_machine" 7 ["thing"] (spIsMach K T R S)) (d__law_e_odd : DefOk P w K mg base "_law_e_odd" 2 ["pen", "machine", "signs"] (spOdd K))
    (d__law_e_right : DefG P w K mg base "_law_e_right" 8 ["thing"] (spRight K T R S)) (b_all : mg "all" = none) (b_len : mg "len" = none) (b_range : mg "range" = none) (b_tuple : mg "tuple" = none) : FnG P w K mg base 9 f fd ["script"] (spLaw K T R S) := by
  refine Fun.okG F sc_law (fun vs H Q E h => ?_) (fun cdv A outer s H vs Q E hg hr h => ?_)
  · obtain ⟨_, _, rfl, _⟩ := h
    rfl
  obtain ⟨a, ns, rfl, hSq, hlen, hT, hR, hS, k⟩ := h
  -- behind the turns
  obtain ⟨t2, h2, f2⟩ : ∃ t2, PSs (cxOf CX0 P w K mg base n_law "law" (defScope s_law) f cdv A outer s H E).nox ((defBody s_law).drop 2) t2 ∧
      ∀ (o1 o2 o3 o4 o5 : Option V) (H1 : Hp), Same H H1 → t2 { nx := fun _ H' => Q .non H', rt := Q } [some (.ref a), o1, o2, o3, o4, o5, none, none, none, none, none] H1 := by
    refine ⟨_, (pss_cons (ps_for PassesOwn.never rfl (pi_list (pe_lst (pa_cons pe_int (pa_cons pe_int (pa_cons pe_int pa_nil))))) (pg_name (i := 6) sc_law.nd rfl (Or.inl rfl))
      (pss_cons (ps_set (i := 7) sc_law.nd rfl (Or.inl rfl) (pe_callTy call_tuple_of (by rfl) b_tuple (by decide +kernel) (pa_cons (pe_op op_cat (pe_lc (own := [("k", 8)]) (g := gName 8) rfl sc_law.nd (pi_range1 rfl b_range (pa_cons (pe_op op_sub (pv 6) pe_int) pa_nil)) (blkOk_by (own := [("k", 8)]) (N := n_law) (sc := defScope s_law) (by decide +kernel)) (fun _ _ _ _ _ => (pg_name (i := 8) sc_law.nd rfl (Or.inl rfl))) (fun _ _ _ _ _ => pts_nil) (fun _ _ _ _ _ => (pe_tup (pa_cons pe_bl (pa_cons (pe_tup (pa_cons (pe_tup (pa_cons pe_str (pa_cons (pe_op op_add (pv 8) pe_int) pa_nil))) pa_nil)) pa_nil))))) (pe_lst (pa_cons (pe_tup (pa_cons pe_bl (pa_cons (pe_tup pa_nil) pa_nil))) pa_nil))) pa_nil)))
    (pss_one (ps_if (pt_not (pt_val (pe_callG d__law_e_right hg (hr.mono (by decide)) rfl (pa_cons (pv 7) pa_nil)))) (pss_one (ps_ret pe_bl)) pss_nil))))
    (pss_cons (ps_for PassesOwn.never rfl (pi_list (pe_lst (pa_cons pe_str (pa_cons pe_str (pa_cons pe_str pa_nil))))) (pg_name (i := 9) sc_law.nd rfl (Or.inr rfl))
      (pss_cons (ps_setLc (i := 7) (own := [("k", 8)]) (g := gName 8) rfl sc_law.nd rfl rfl (sw_true rfl rfl rfl (by decide +kernel)) (pi_range1 rfl b_range (pa_cons (pe_callB call_len_str (by rfl) b_len PySem.boot_len (pa_cons (pv 9) pa_nil)) pa_nil)) (blkOk_by (own := [("k", 8)]) (N := n_law) (sc := defScope s_law) (by decide +kernel)) (fun _ _ _ _ _ => (pg_name (i := 8) sc_law.nd rfl (Or.inl rfl))) (fun _ _ _ _ _ => pts_nil) (fun _ _ _ _ _ => (pe_tup (pa_cons pe_bl (pa_cons (pe_tup (pa_cons (pe_tup (pa_cons (pe_ix (r := rIxS) ix_str (pv 9) (pv 8) (fun _ _ => rfl)) (pa_cons (pe_op op_add (pv 8) pe_int) pa_nil))) pa_nil)) pa_nil)))))
    (pss_cons (ps_if (pt_not (pt_val (pe_callG d__law_e_right hg (hr.mono (by decide)) rfl (pa_cons (pe_callTy call_tuple_of (by rfl) b_tuple (by decide +kernel) (pa_cons (pe_op op_cat (pv 7) (pe_lst (pa_cons (pe_tup (pa_cons pe_bl (pa_cons (pe_tup pa_nil) pa_nil))) pa_nil))) pa_nil)) pa_nil)))) (pss_one (ps_ret pe_bl)) pss_nil)
    (pss_one (ps_if (pt_not (pt_val (pe_callG d__law_e_right hg (hr.mono (by decide)) rfl (pa_cons (pe_tup (pa_cons (pe_tup (pa_cons pe_bl (pa_cons (pe_callTy call_tuple_of (by rfl) b_tuple (by decide +kernel) (pa_cons (pe_lc (own := [("sign", 10)]) (g := gName 10) rfl sc_law.nd (pi_str (pv 9)) (blkOk_by (own := [("sign", 10)]) (N := n_law) (sc := defScope s_law) (by decide +kernel)) (fun _ _ _ _ _ => (pg_name (i := 10) sc_law.nd rfl (Or.inl rfl))) (fun _ _ _ _ _ => pts_nil) (fun _ _ _ _ _ => (pe_tup (pa_cons (pv 10) (pa_cons pe_int pa_nil))))) pa_nil)) pa_nil))) pa_nil)) pa_nil)))) (pss_one (ps_ret pe_bl)) pss_nil)))))
    (pss_one (ps_ret (pe_callB (cr_all rfl) (by rfl) b_all (by decide +kernel) (pa_cons (pe_lc (own := [("thing", 5)]) (g := gName 5) rfl sc_law.nd (pi_list (pe_lst (pa_cons pe_non (pa_cons pe_bl (pa_cons pe_int (pa_cons pe_str (pa_cons (pe_tup pa_nil) (pa_cons (pe_lst pa_nil) (pa_cons (pe_tup (pa_cons (pe_tup pa_nil) pa_nil)) (pa_cons (pe_tup (pa_cons pe_non pa_nil)) (pa_cons (pe_tup (pa_cons (pe_tup (pa_cons pe_bl (pa_cons (pe_tup pa_nil) pa_nil))) pa_nil)) pa_nil))))))))))) (blkOk_by (own := [("thing", 5)]) (N := n_law) (sc := defScope s_law) (by decide +kernel)) (fun _ _ _ _ _ => (pg_name (i := 5) sc_law.nd rfl (Or.inl rfl))) (fun _ _ _ _ _ => pts_nil) (fun _ _ _ _ _ => (pe_callG d__law_e_right hg (hr.mono (by decide)) rfl (pa_cons (pv 5) pa_nil)))) pa_nil)))))), ?_⟩
    intro o1 o2 o3 o4 o5 H1 s1
    -- a chain's end
    have tailC : ∀ (ts : List Str) (D : Addr) (vs : List V) (H2 : Hp), Same H H2 → H2 D = some (.lst vs) → DpAll K H2 vs ((List.range ts.length).map fun k => rmD (false, [(ts.getD k "", k + 1)])) → ts.length ≤ 200 → (∀ t, t ∈ ts → PyData.strOk t = true ∧ t.length ≤ 9) →
        ∀ e, H2 e = none → ∀ t, upd H2 e (.tup []) t = none → ∀ l, upd (upd H2 e (.tup [])) t (.tup [.bl true, .ref e]) l = none →
          (upd (upd (upd H2 e (.tup [])) t (.tup [.bl true, .ref e])) l (.lst [.ref t])) D = some (.lst vs) ∧ vs.length + 1 ≤ sizeLine ∧ ∀ z, (upd (upd (upd H2 e (.tup [])) t (.tup [.bl true, .ref e])) l (.lst [.ref t])) z = none → ∀ q, (upd (upd (upd (upd H2 e (.tup [])) t (.tup [.bl true, .ref e])) l (.lst [.ref t])) z (.lst (vs ++ [.ref t]))) q = none →
            Same H2 (upd (upd (upd (upd (upd H2 e (.tup [])) t (.tup [.bl true, .ref e])) l (.lst [.ref t])) z (.lst (vs ++ [.ref t]))) q (.tup (vs ++ [.ref t]))) ∧ Dp K (upd (upd (upd (upd (upd H2 e (.tup [])) t (.tup [.bl true, .ref e])) l (.lst [.ref t])) z (.lst (vs ++ [.ref t]))) q (.tup (vs ++ [.ref t]))) (.ref q) (maD (chainM ts)) := by
      intro ts D vs H2 s2 hD hvs hts hok e ne t nt l nl
      have hvl := dpsLen hvs
      rw [List.length_map, List.length_range] at hvl
      have r1 : Same H2 (upd H2 e (.tup [])) := .new ne
      have r2 : Same (upd H2 e (.tup [])) (upd (upd H2 e (.tup [])) t (.tup [.bl true, .ref e])) := .new nt
      have r3 : Same (upd (upd H2 e (.tup [])) t (.tup [.bl true, .ref e])) (upd (upd (upd H2 e (.tup [])) t (.tup [.bl true, .ref e])) l (.lst [.ref t])) := .new nl
      have r13 := r1.trans (r2.trans r3)
      have he : (upd (upd (upd H2 e (.tup [])) t (.tup [.bl true, .ref e])) l (.lst [.ref t])) e = some (.tup []) := r3 _ _ (r2 _ _ upd_same)
      have ht : (upd (upd (upd H2 e (.tup [])) t (.tup [.bl true, .ref e])) l (.lst [.ref t])) t = some (.tup [.bl true, .ref e]) := r3 _ _ upd_same
      refine ⟨r13 _ _ hD, szl (by omega), fun z nz q nq => ?_⟩
      generalize upd (upd (upd H2 e (.tup [])) t (.tup [.bl true, .ref e])) l (.lst [.ref t]) = H5 at r13 he ht nz nq ⊢
      have r6 : Same H5 (upd (upd H5 z (.lst (vs ++ [.ref t]))) q (.tup (vs ++ [.ref t]))) := (Same.new nz).trans (.new nq)
      refine ⟨r13.trans r6, .tup (sT upd_same) ?_⟩
      unfold chainM
      rw [List.map_append, List.map_map]
      refine dpsApp (dpsS (r13.trans r6) hvs) (.cons ?_ .nil)
      exact .tup (sT (r6 _ _ ht)) (.cons (.bl _) (.cons (.tup (sT (r6 _ _ he)) .nil) .nil))
    refine ⟨(by show 3 ≤ sizeLine; decide), fun L nL => ⟨L, rfl, ⟨_, sL upd_same⟩, ?_⟩⟩
    have r1 : Same H1 (upd H1 L (.lst [.int 199, .int 200, .int 201])) := .new nL
    have hL : (upd H1 L (.lst [.int 199, .int 200, .int 201])) L = some (.lst [.int 199, .int 200, .int 201]) := upd_same
    have s2 := s1.trans r1
    generalize upd H1 L (.lst [.int 199, .int 200, .int 201]) = H2 at r1 hL s2 ⊢
    refine for_list (K := K) (a := L) (xs := [.int 199, .int 200, .int 201]) (fun j σ H' => ∃ o6 o7, σ = [some (.ref a), o1, o2, o3, o4, o5, o6, o7, none, none, none] ∧ Same H2 H') ⟨none, none, rfl, .refl _⟩ (fun j σ H' _ ⟨_, _, _, g⟩ => sL (g _ _ hL)) ?_ ?_
    · rintro j x σ H3 hx ⟨o6, o7, rfl, s3⟩
      obtain ⟨m, rfl, hm1, hm2⟩ : ∃ m : Nat, x = .int (m : Int) ∧ 1 ≤ m ∧ m ≤ 201 := by
        match j, hx with
        | 0, hx => cases hx; exact ⟨199, rfl, by decide, by decide⟩
        | 1, hx => cases hx; exact ⟨200, rfl, by decide, by decide⟩
        | 2, hx => cases hx; exact ⟨201, rfl, by decide, by decide⟩
        | j + 3, hx => simp at hx
      have s23 := s2.trans s3
      refine ⟨_, rfl, _, _, rfl, rfl, _, rfl, by omega, by omega, fun D nD => ?_⟩
      have ets : ∀ k, k < m - 1 → (List.replicate (m - 1) (Str.ofString "a")).getD k "" = "a" := fun k hk => by rw [List.getD_eq_getElem?_getD, List.getElem?_replicate, if_pos hk]; rfl
      refine lc_range (lo := 0) (n := ((m : Int) - 1).toNat) (fun i H' => ∃ vs, Same H3 H' ∧ H' D = some (.lst vs) ∧ DpAll K H' vs ((List.range i).map fun k => rmD (false, [((List.replicate (m - 1) (Str.ofString "a")).getD k "", k + 1)]))) ⟨[], .new nD, upd_same, .nil⟩ ?_ ?_
      · rintro i H4 hi ⟨vs, s4, hD, hvs⟩
        have hvl := dpsLen hvs
        rw [List.length_map, List.length_range] at hvl
        refine ⟨rfl, ?_⟩
        refine ⟨_, rfl, _, _, rfl, rfl, (by show 2 ≤ sizeLine; decide), fun p np => ⟨(by show 1 ≤ sizeLine; decide), fun q nq => ⟨(by show 2 ≤ sizeLine; decide), fun r nr => ?_⟩⟩⟩
        have q1 : Same H4 (upd H4 p (.tup [.str "a", .int (0 + (i : Int) + 1)])) := .new np
        have q2 : Same (upd H4 p (.tup [.str "a", .int (0 + (i : Int) + 1)])) (upd (upd H4 p (.tup [.str "a", .int (0 + (i : Int) + 1)])) q (.tup [.ref p])) := .new nq
        have q3 : Same (upd (upd H4 p (.tup [.str "a", .int (0 + (i : Int) + 1)])) q (.tup [.ref p])) (upd (upd (upd H4 p (.tup [.str "a", .int (0 + (i : Int) + 1)])) q (.tup [.ref p])) r (.tup [.bl false, .ref q])) := .new nr
        have hr : Dp K (upd (upd (upd H4 p (.tup [.str "a", .int (0 + (i : Int) + 1)])) q (.tup [.ref p])) r (.tup [.bl false, .ref q])) (.ref r) (rmD (false, [((List.replicate (m - 1) (Str.ofString "a")).getD i "", i + 1)])) := by
          rw [ets i (by omega)]
          refine .tup (sT upd_same) (.cons (.bl _) (.cons (.tup (sT (q3 _ _ upd_same)) (.cons (.tup (sT (q3 _ _ (q2 _ _ upd_same))) (.cons (.str _) (.cons ?_ .nil))) .nil)) .nil))
          rw [show (0 + (i : Int) + 1) = ((i + 1 : Nat) : Int) by omega]
          exact .int _
        have q13 := q1.trans (q2.trans q3)
        generalize upd (upd (upd H4 p (.tup [.str "a", .int (0 + (i : Int) + 1)])) q (.tup [.ref p])) r (.tup [.bl false, .ref q]) = H5 at q13 hr ⊢
        have hD5 := q13 _ _ hD
        refine ⟨vs, hD5, szb (by omega), vs ++ [.ref r], (s4.trans q13).mut nD, upd_same, ?_⟩
        rw [List.range_succ, List.map_append]
        have nl : noLs ((List.range i).map fun k => rmD (false, [((List.replicate (m - 1) (Str.ofString "a")).getD k "", k + 1)])) = true := by
          have := noLs_rm ((List.range i).map fun k => ((false, [((List.replicate (m - 1) (Str.ofString "a")).getD k "", k + 1)]) : Rm))
          rw [List.map_map] at this
          exact this
        exact dpsApp (dpsW hD5 nl (dpsS q13 hvs)) (.cons (dpW hD5 (noL_rm _) hr) .nil)
      · rintro H4 ⟨vs, s4, hD, hvs⟩
        refine ⟨(by show 0 ≤ sizeLine; decide), fun e ne => ⟨(by show 2 ≤ sizeLine; decide), fun t nt => ⟨(by show 1 ≤ sizeLine; decide), fun l nl => ?_⟩⟩⟩
        have em : ((m : Int) - 1).toNat = m - 1 := by omega
        rw [em] at hvs
        have hts : (List.replicate (m - 1) (Str.ofString "a")).length ≤ 200 := by rw [List.length_replicate]; omega
        have hok : ∀ t, t ∈ List.replicate (m - 1) (Str.ofString "a") → PyData.strOk t = true ∧ t.length ≤ 9 := fun t ht => by
          rw [List.eq_of_mem_replicate ht]
          exact ⟨by decide +kernel, by decide +kernel⟩
        obtain ⟨hD', hsz, fin⟩ := tailC (List.replicate (m - 1) (Str.ofString "a")) D vs H4 (s23.trans s4) hD (by rw [List.length_replicate]; exact hvs) hts hok e ne t nt l nl
        refine ⟨D, l, vs, _, rfl, rfl, hD', upd_same, hsz, fun z nz => ⟨z, _, rfl, .inl ⟨sL upd_same, fun q nq => ?_⟩⟩⟩
        obtain ⟨s5, hq⟩ := fin z nz q nq
        generalize upd (upd (upd (upd (upd H4 e (.tup [])) t (.tup [.bl true, .ref e])) l (.lst [.ref t])) z (.lst (vs ++ [.ref t]))) q (.tup (vs ++ [.ref t])) = H5 at s5 hq ⊢
        have s05 := s23.trans (s4.trans s5)
        refine ⟨_, rfl, .ref q, _, rfl, hq, chain_gd hts hok, s05 _ _ hT, s05 _ _ hR, s05 _ _ hS, fun H6 s6 => ⟨_, rfl, iteF ⟨_, _, rfl, s3.trans (s4.trans (s5.trans s6))⟩⟩⟩
    rintro σ H3 ⟨o6, o7, rfl, s3⟩
    have s03 := s2.trans s3
    refine ⟨(by show 3 ≤ sizeLine; decide), fun L2 nL2 => ⟨L2, rfl, ⟨_, sL upd_same⟩, ?_⟩⟩
    have r4 : Same H3 (upd H3 L2 (.lst [.str "abcdef", .str "abcdefg", .str "gfedcb"])) := .new nL2
    have hL2 : (upd H3 L2 (.lst [.str "abcdef", .str "abcdefg", .str "gfedcb"])) L2 = some (.lst [.str "abcdef", .str "abcdefg", .str "gfedcb"]) := upd_same
    have s04 := s03.trans r4
    generalize upd H3 L2 (.lst [.str "abcdef", .str "abcdefg", .str "gfedcb"]) = H4 at r4 hL2 s04 ⊢
    refine for_list (K := K) (a := L2) (xs := [.str "abcdef", .str "abcdefg", .str "gfedcb"]) (fun j σ H' => ∃ o7 o9, σ = [some (.ref a), o1, o2, o3, o4, o5, o6, o7, none, o9, none] ∧ Same H4 H') ⟨_, none, rfl, .refl _⟩ (fun j σ H' _ ⟨_, _, _, g⟩ => sL (g _ _ hL2)) ?_ ?_
    · rintro j x σ H5 hx ⟨o7, o9, rfl, s5⟩
      obtain ⟨u, rfl, hu1, hu2⟩ : ∃ u : Str, x = .str u ∧ u.cps.toList.all letter = true ∧ u.length ≤ 7 := by
        match j, hx with
        | 0, hx => cases hx; exact ⟨_, rfl, by decide +kernel, by decide +kernel⟩
        | 1, hx => cases hx; exact ⟨_, rfl, by decide +kernel, by decide +kernel⟩
        | 2, hx => cases hx; exact ⟨_, rfl, by decide +kernel, by decide +kernel⟩
        | j + 3, hx => simp at hx
      have ul : u.length = u.cps.toList.length := by simp [Str.length]
      have hok : ∀ t, t ∈ u.cps.toList.map oneS → PyData.strOk t = true ∧ t.length ≤ 9 := fun t ht => by
        obtain ⟨c, hc, rfl⟩ := List.mem_map.mp ht
        exact ⟨let_ok (List.all_eq_true.mp hu1 c hc), by show 1 ≤ 9; decide⟩
      have s05 := s04.trans s5
      refine ⟨_, rfl, _, rfl, szl (by omega), _, rfl, by omega, by omega, fun D nD => ?_⟩
      refine lc_range (lo := 0) (n := ((u.length : Nat) : Int).toNat) (fun i H' => ∃ vs, Same H5 H' ∧ H' D = some (.lst vs) ∧ DpAll K H' vs ((List.range i).map fun k => rmD (false, [((u.cps.toList.map oneS).getD k "", k + 1)]))) ⟨[], .new nD, upd_same, .nil⟩ ?_ ?_
      · rintro i H6 hi ⟨vs, s6, hD, hvs⟩
        have hvl := dpsLen hvs
        rw [List.length_map, List.length_range] at hvl
        rw [Int.toNat_natCast] at hi
        obtain ⟨c, hc⟩ : ∃ c, u.cps.toList[i]? = some c := ⟨_, List.getElem?_eq_getElem (by omega)⟩
        have ets : (u.cps.toList.map oneS).getD i "" = oneS c := by rw [List.getD_eq_getElem?_getD, List.getElem?_map, hc]; rfl
        refine ⟨rfl, ?_⟩
        refine ⟨_, rfl, _, rfl, u, _, c, rfl, rfl, szl (by omega), (by rw [Int.zero_add]; exact atI_nat hc), _, rfl, _, _, rfl, rfl, (by show 2 ≤ sizeLine; decide), fun p np => ⟨(by show 1 ≤ sizeLine; decide), fun q nq => ⟨(by show 2 ≤ sizeLine; decide), fun r nr => ?_⟩⟩⟩
        have q1 : Same H6 (upd H6 p (.tup [.str (oneS c), .int (0 + (i : Int) + 1)])) := .new np
        have q2 : Same (upd H6 p (.tup [.str (oneS c), .int (0 + (i : Int) + 1)])) (upd (upd H6 p (.tup [.str (oneS c), .int (0 + (i : Int) + 1)])) q (.tup [.ref p])) := .new nq
        have q3 : Same (upd (upd H6 p (.tup [.str (oneS c), .int (0 + (i : Int) + 1)])) q (.tup [.ref p])) (upd (upd (upd H6 p (.tup [.str (oneS c), .int (0 + (i : Int) + 1)])) q (.tup [.ref p])) r (.tup [.bl false, .ref q])) := .new nr
        have hr : Dp K (upd (upd (upd H6 p (.tup [.str (oneS c), .int (0 + (i : Int) + 1)])) q (.tup [.ref p])) r (.tup [.bl false, .ref q])) (.ref r) (rmD (false, [((u.cps.toList.map oneS).getD i "", i + 1)])) := by
          rw [ets]
          refine .tup (sT upd_same) (.cons (.bl _) (.cons (.tup (sT (q3 _ _ upd_same)) (.cons (.tup (sT (q3 _ _ (q2 _ _ upd_same))) (.cons (.str _) (.cons ?_ .nil))) .nil)) .nil))
          rw [show (0 + (i : Int) + 1) = ((i + 1 : Nat) : Int) by omega]
          exact .int _
        have q13 := q1.trans (q2.trans q3)
        have hD5 := q13 _ _ hD
        refine ⟨vs, hD5, szb (by omega), vs ++ [.ref r], (s6.trans q13).mut nD, upd_same, ?_⟩
        rw [List.range_succ, List.map_append]
        have nl : noLs ((List.range i).map fun k => rmD (false, [((u.cps.toList.map oneS).getD k "", k + 1)])) = true := by
          have := noLs_rm ((List.range i).map fun k => ((false, [((u.cps.toList.map oneS).getD k "", k + 1)]) : Rm))
          rw [List.map_map] at this
          exact this
        exact dpsApp (dpsW hD5 nl (dpsS q13 hvs)) (.cons (dpW hD5 (noL_rm _) hr) .nil)
      · rintro H6 ⟨vs, s6, hD, hvs⟩
        have em : ((u.length : Nat) : Int).toNat = (u.cps.toList.map oneS).length := by rw [Int.toNat_natCast, List.length_map, ul]
        rw [em] at hvs
        have hts : (u.cps.toList.map oneS).length ≤ 200 := by rw [List.length_map]; omega
        have s06 := s05.trans s6
        refine ⟨_, rfl, (by show 0 ≤ sizeLine; decide), fun e ne => ⟨(by show 2 ≤ sizeLine; decide), fun t nt => ⟨(by show 1 ≤ sizeLine; decide), fun l nl => ?_⟩⟩⟩
        obtain ⟨hD', hsz, fin⟩ := tailC (u.cps.toList.map oneS) D vs H6 s06 hD hvs hts hok e ne t nt l nl
        refine ⟨D, l, vs, _, rfl, rfl, hD', upd_same, hsz, fun z nz => ⟨z, _, rfl, .inl ⟨sL upd_same, fun q nq => ?_⟩⟩⟩
        obtain ⟨s7, hq⟩ := fin z nz q nq
        generalize upd (upd (upd (upd (upd H6 e (.tup [])) t (.tup [.bl true, .ref e])) l (.lst [.ref t])) z (.lst (vs ++ [.ref t]))) q (.tup (vs ++ [.ref t])) = H7 at s7 hq ⊢
        have s07 := s06.trans s7
        refine ⟨.ref q, _, rfl, hq, chain_gd hts hok, s07 _ _ hT, s07 _ _ hR, s07 _ _ hS, fun H8 s8 => ⟨_, rfl, iteF ?_⟩⟩
        have s08 := s07.trans s8
        refine ⟨_, rfl, u, rfl, fun D2 nD2 => ?_⟩
        refine lc_str (fun i H' => ∃ vs, Same H8 H' ∧ H' D2 = some (.lst vs) ∧ DpAll K H' vs ((((u.cps.toList.take i).map oneS).map fun t => ((t, 0) : Stp)).map stD)) ⟨[], .new nD2, upd_same, by simp; exact .nil⟩ ?_ ?_
        · rintro i c H9 hc ⟨vs, s9, hD9, hvs⟩
          have hvl := dpsLen hvs
          rw [List.length_map, List.length_map, List.length_map, List.length_take] at hvl
          refine ⟨rfl, ?_⟩
          refine ⟨_, rfl, (by show 2 ≤ sizeLine; decide), fun p np => ?_⟩
          have q1 : Same H9 (upd H9 p (.tup [.str (oneS c), .int 0])) := .new np
          have hp : Dp K (upd H9 p (.tup [.str (oneS c), .int 0])) (.ref p) (stD (oneS c, 0)) := .tup (sT upd_same) (.cons (.str _) (.cons (.int _) .nil))
          have hD10 := q1 _ _ hD9
          refine ⟨vs, hD10, szb (by omega), vs ++ [.ref p], (s9.trans q1).mut nD2, upd_same, ?_⟩
          rw [take_snoc hc, List.map_append, List.map_append, List.map_append]
          exact dpsApp (dpsW hD10 (noLs_st _) (dpsS q1 hvs)) (.cons (dpW hD10 (noL_st _) hp) .nil)
        · rintro H9 ⟨vs, s9, hD9, hvs⟩
          rw [List.take_length] at hvs
          refine ⟨D2, vs, rfl, .inl ⟨sL hD9, fun l2 nl2 => ⟨(by show 2 ≤ sizeLine; decide), fun t2 nt2 => ⟨(by show 1 ≤ sizeLine; decide), fun m2 nm2 => ?_⟩⟩⟩⟩
          have r5 : Same H9 (upd H9 l2 (.tup vs)) := .new nl2
          have r6 : Same (upd H9 l2 (.tup vs)) (upd (upd H9 l2 (.tup vs)) t2 (.tup [.bl true, .ref l2])) := .new nt2
          have r7 : Same (upd (upd H9 l2 (.tup vs)) t2 (.tup [.bl true, .ref l2])) (upd (upd (upd H9 l2 (.tup vs)) t2 (.tup [.bl true, .ref l2])) m2 (.tup [.ref t2])) := .new nm2
          have hm : Dp K (upd (upd (upd H9 l2 (.tup vs)) t2 (.tup [.bl true, .ref l2])) m2 (.tup [.ref t2])) (.ref m2) (maD [(true, (u.cps.toList.map oneS).map fun t => (t, 0))]) :=
            .tup (sT upd_same) (.cons (.tup (sT (r7 _ _ upd_same)) (.cons (.bl _) (.cons (.tup (sT (r7 _ _ (r6 _ _ upd_same))) (dpsS (r5.trans (r6.trans r7)) hvs)) .nil))) .nil)
          have r57 := r5.trans (r6.trans r7)
          generalize upd (upd (upd H9 l2 (.tup vs)) t2 (.tup [.bl true, .ref l2])) m2 (.tup [.ref t2]) = H10 at r57 hm ⊢
          have s10 := s08.trans (s9.trans r57)
          refine ⟨.ref m2, _, rfl, hm, star_gd (by rw [List.length_map]; omega) hok, s10 _ _ hT, s10 _ _ hR, s10 _ _ hS, fun H11 s11 => ⟨_, rfl, iteF ⟨_, _, rfl, s5.trans (s6.trans (s7.trans (s8.trans (s9.trans (r57.trans s11)))))⟩⟩⟩
    rintro σ H5 ⟨o7, o9, rfl, s5⟩
    have s05 := s04.trans s5
    have things : MkL K [some (.ref a), o1, o2, o3, o4, o5, o6, o7, none, o9, none] (fun _ => True) _ [.none, .bool true, .int 0, .str "machine", .tuple [], .list [], .tuple [.tuple []], .tuple [.none], .tuple [.tuple [.bool true, .tuple []]]] :=
      mkl_lst (by decide) (mk_cons stay_true mk_non (mk_cons stay_true mk_bl (mk_cons stay_true mk_int (mk_cons stay_true mk_str (mk_cons stay_true (mk_tup (by decide) mk_nil) (mk_cons stay_true (mk_lst (by decide) mk_nil) (mk_cons stay_true (mk_tup (by decide) (mk_cons stay_true (mk_tup (by decide) mk_nil) mk_nil)) (mk_cons stay_true (mk_tup (by decide) (mk_cons stay_true mk_non mk_nil)) (mk_cons stay_true (mk_tup (by decide) (mk_cons stay_true (mk_tup (by decide) (mk_cons stay_true mk_bl (mk_cons stay_true (mk_tup (by decide) mk_nil) mk_nil))) mk_nil)) mk_nil)))))))))
    dsimp only [tRet, tCB]
    show tLc _ _ _ _ _ _ H5 _
    dsimp only [tLc, iList]
    refine things.use trivial fun H6 p vs s6 np hp hvs => ⟨p, rfl, ⟨_, sL hp⟩, fun D nD => ?_⟩
    have oks : ∀ d, d ∈ ([.none, .bool true, .int 0, .str "machine", .tuple [], .list [], .tuple [.tuple []], .tuple [.none], .tuple [.tuple [.bool true, .tuple []]]] : List PyData) → Ok60 d := fun d hd => by
      have g : ([.none, .bool true, .int 0, .str "machine", .tuple [], .list [], .tuple [.tuple []], .tuple [.none], .tuple [.tuple [.bool true, .tuple []]]] : List PyData).all (fun d => ekB d && decide (ndD d ≤ 250) && decide (d.depth ≤ 12)) = true := by decide +kernel
      exact (gd_of (List.all_eq_true.mp g d hd)).ok (by decide) (by decide) (.inl (Nat.le_refl _))
    refine lc_list (K := K) (a := p) (xs := vs) (fun i H' => ∃ bs : List Bool, Same H6 H' ∧ H' D = some (.lst (bs.map V.bl)) ∧ bs.all id = true ∧ bs.length = i) ⟨[], .new nD, upd_same, rfl, rfl⟩ (fun i H' _ ⟨_, g, _⟩ => sL (g _ _ hp)) ?_ ?_
    · rintro i x H7 hx ⟨bs, s7, hD, hb, hbl⟩
      obtain ⟨d, hd, hxd⟩ := dpsAtV hvs hx
      have hvl := dpsLen hvs
      have hi := (List.getElem?_eq_some_iff.mp hx).1
      have s07 := s05.trans (s6.trans s7)
      refine ⟨rfl, ?_⟩
      refine ⟨_, rfl, x, d, rfl, dpS s7 hxd, oks d (List.mem_of_getElem? hd), s07 _ _ hT, s07 _ _ hR, s07 _ _ hS, fun H8 s8 => ?_⟩
      refine ⟨_, s8 _ _ hD, szb (by rw [List.length_map, hbl]; simp only [List.length_cons, List.length_nil] at hvl; omega), bs ++ [true], (s7.trans s8).mut nD, by rw [upd_same, List.map_append]; rfl, by rw [List.all_append, hb]; rfl, by rw [List.length_append, hbl]; rfl⟩
    · rintro H7 ⟨bs, s7, hD, hb, hbl⟩
      refine ⟨D, bs, rfl, sL hD, ?_⟩
      rw [hb]
      exact k H7 (s05.trans (s6.trans s7))
  refine ⟨_, (pss_cons (ps_set (i := 1) sc_law.nd rfl (Or.inl rfl) (pe_callD d__law_e_pen (hr.mono (by decide)) rfl (pa_cons (pv 0) pa_nil)))
    (pss_cons (ps_for PassesOwn.never rfl (pi_range1 rfl b_range (pa_cons pe_int pa_nil)) (pg_name (i := 2) sc_law.nd rfl (Or.inl rfl))
      (pss_cons (ps_set (i := 3) sc_law.nd rfl (Or.inl rfl) (pe_callD d__law_e_signs (hr.mono (by decide)) rfl (pa_cons (pv 1) pa_nil)))
    (pss_cons (ps_set (i := 4) sc_law.nd rfl (Or.inl rfl) (pe_callD d__law_e_machine (hr.mono (by decide)) rfl (pa_cons (pv 1) (pa_cons (pv 3) (pa_cons pe_int pa_nil)))))
    (pss_cons (ps_if (pt_cmpR op_notB (pe_callD d_is_machine (hr.mono (by decide)) rfl (pa_cons (pv 4) pa_nil)) pe_bl (nomark _)) (pss_one (ps_ret pe_bl)) pss_nil)
    (pss_one (ps_for PassesOwn.never rfl (pi_list (pe_lst (pa_cons (pe_callD d__law_e_odd (hr.mono (by decide)) rfl (pa_cons (pv 1) (pa_cons (pv 4) (pa_cons (pv 3) pa_nil)))) (pa_cons (pe_callD d__law_e_odd (hr.mono (by decide)) rfl (pa_cons (pv 1) (pa_cons (pv 4) (pa_cons (pv 3) pa_nil)))) pa_nil)))) (pg_name (i := 5) sc_law.nd rfl (Or.inl rfl))
      (pss_one (ps_if (pt_not (pt_val (pe_callG d__law_e_right hg (hr.mono (by decide)) rfl (pa_cons (pv 5) pa_nil)))) (pss_one (ps_ret pe_bl)) pss_nil))))))))
    h2)), ?_⟩
  refine ⟨_, rfl, a, ns, rfl, hSq, hlen, fun H1 pen sp s1 npen p1 => ?_⟩
  refine ⟨_, rfl, by omega, by omega, ?_⟩
  refine for_range (lo := 0) (n := (8 : Int).toNat) (fun i σ H' => ∃ (o2 o3 o4 o5 : Option V), σ = [some (.ref a), some (.ref pen), o2, o3, o4, o5, none, none, none, none, none] ∧ Same H H' ∧ PenAt H' pen sp) ⟨none, none, none, none, rfl, s1, p1⟩ ?_ ?_
  · rintro i σ H2 hi ⟨o2, o3, o4, o5, rfl, s2, p2⟩
    refine ⟨_, rfl, pen, sp, rfl, p2, fun H3 sg ss b3 p3 hsg hs0 hs3 hpw hsig => ?_⟩
    have s3 : Same H H3 := fun x o e => b3 x o (s2 x o e) (ne_of_none e npen)
    refine ⟨_, rfl, _, rfl, pen, sp, sg, ss, 6, rfl, by decide, by decide, p3, hsg, hs0, hs3, fun H4 v M b4 p4 hv hM0 hM6 hMG => ?_⟩
    have s4 : Same H H4 := fun x o e => b4 x o (s3 x o e) (ne_of_none e npen)
    have hsg4 := p3.strs b4 hsg
    have mg : Mg ss M := ⟨hM0, hM6, hMG, hs0, hs3, hpw, hsig⟩
    have okM : Ok60 (maD M) := mg.gd.ok (by decide) (by decide) (.inl (by decide))
    refine ⟨_, rfl, v, maD M, rfl, hv, okM.bd, okM.few, s4 _ _ hT, s4 _ _ hR, s4 _ _ hS, fun b H5 hb s5 => ?_⟩
    have eb : b = true := hb.mpr ⟨M, rfl, mg.isM⟩
    subst eb
    refine ⟨true, true, rfl, rfl, _, rfl, iteF' (by decide) ?_⟩
    have p5 := p4.same s5
    refine ⟨_, rfl, _, rfl, _, rfl, pen, sp, sg, ss, v, M, rfl, p5, s5 _ _ hsg4, dpS s5 hv, mg, fun H6 G6 u1 d1 b6 p6 g6 n6 hu1 hd1 => ?_⟩
    have hsg6 := p5.strs b6 (s5 _ _ hsg4)
    have hv6 : Dp K H6 v (maD M) := p5.dp b6 (noL_ma M) (dpS s5 hv)
    refine ⟨_, rfl, _, rfl, _, rfl, pen, sp, sg, ss, v, M, rfl, p6, hsg6, hv6, mg, fun H7 G7 u2 d2 b7 p7 g7 n7 hu2 hd2 => ⟨(by show 2 ≤ sizeLine; decide), fun L nL => ⟨L, rfl, ⟨_, sL upd_same⟩, ?_⟩⟩⟩
    have hu1' : Dp K H7 u1 d1 := dpS (fun x o e => b7 x o (g6 x o e) (ne_of_none e n6)) hu1
    have hu2' : Dp K H7 u2 d2 := dpS g7 hu2
    have s7 : Same H H7 := fun x o e => b7 x o (b6 x o ((s4.trans s5) x o e) (ne_of_none e npen)) (ne_of_none e npen)
    have s8 : Same H7 (upd H7 L (.lst [u1, u2])) := .new nL
    have hL : (upd H7 L (.lst [u1, u2])) L = some (.lst [u1, u2]) := upd_same
    have p8 := p7.same s8
    generalize upd H7 L (.lst [u1, u2]) = H8 at s8 hL p8 ⊢
    refine for_list (K := K) (a := L) (xs := [u1, u2]) (fun j σ H' => ∃ o5, σ = [some (.ref a), some (.ref pen), some (.int (0 + (i : Int))), some (.ref sg), some v, o5, none, none, none, none, none] ∧ Same H8 H') ⟨_, rfl, .refl _⟩ (fun j σ H' _ ⟨_, _, g⟩ => sL (g _ _ hL)) ?_ ?_
    · rintro j x σ H9 hx ⟨o5, rfl, s9⟩
      have hx2 : ∃ d, Dp K H7 x d ∧ Gd d 250 12 := by
        match j, hx with
        | 0, hx => cases hx; exact ⟨d1, hu1', hd1⟩
        | 1, hx => cases hx; exact ⟨d2, hu2', hd2⟩
        | j + 2, hx => simp at hx
      obtain ⟨d, hxd, hgd⟩ := hx2
      have s09 := s7.trans (s8.trans s9)
      refine ⟨_, rfl, x, d, rfl, dpS (s8.trans s9) hxd, hgd.ok (by decide) (by decide) (.inl (Nat.le_refl _)), s09 _ _ hT, s09 _ _ hR, s09 _ _ hS, fun H10 s10 => ⟨_, rfl, iteF ⟨_, rfl, s9.trans s10⟩⟩⟩
    · rintro σ H9 ⟨o5, rfl, s9⟩
      exact ⟨_, _, _, _, rfl, s7.trans (s8.trans s9), p8.same s9⟩
  · rintro σ H2 ⟨o2, o3, o4, o5, rfl, s2, p2⟩
    exact f2 _ _ _ _ _ H2 s2
end
end Sw
set_option Elab.async false
set_option maxRecDepth 100000
set_option maxHeartbeats 8000000
namespace Sw
open PySem L2 PySem.Spec PyProof.Rows
def remP (p : Addr) (H : Hp) : Hp := fun a => if a = p then none else H a
theorem remP_none {p : Addr} {H : Hp} : remP p H p = none := by unfold remP; rw [if_pos rfl]
theorem remP_same {p : Addr} {H : Hp} : Same (remP p H) H := fun x o e => by
  unfold remP at e
  by_cases q : x = p
  · rw [if_pos q] at e; cases e
  · rw [if_neg q] at e; exact e
theorem remP_but {p : Addr} {H : Hp} : But p H (remP p H) := fun x o e n => by unfold remP; rw [if_neg n]; exact e
theorem takeS {p : Addr} {G H H' : Hp} (s : Same G H) (n : G p = none) (b : But p H H') : Same G H' := fun x o e => b x o (s x o e) (ne_of_none e n)
theorem PenAt.some {H : Hp} {pen sp : Addr} (p : PenAt H pen sp) : ∃ o, H pen = some o := let ⟨_, _, _, h, _⟩ := p; ⟨_, h⟩
section
variable {K : PySem.W.Frag} {σ : L2.St} {Pre : Hp → Prop} {pen sp : Addr}
theorem Grow.noP {G H G' H' : Hp} (g : Grow G H G' H') (p : PenAt H pen sp) (n : G pen = none) : G' pen = none := let ⟨o, h⟩ := p.some; g.fr pen o h n
theorem sqR {te : TE} {ds : List PyData} {i : Nat} {r : TS} {D : Ends} {G H : Hp} (m : MkR K σ Pre te ds) (s : Same G H) (hp : Pre G) (k : ∀ G' H' p vs, Grow G H G' H' → G' p = some (.lst vs) → DpAll K G' vs ds → r D (σ.set i (some (.ref p))) H') : tSeq (tAsg te (gName i)) r D σ H := m G H _ s hp k
theorem sqD {te : TE} {d : PyData} {i : Nat} {r : TS} {D : Ends} {G H : Hp} (m : MkD K σ Pre te d) (s : Same G H) (hp : Pre G) (k : ∀ G' H' v, Grow G H G' H' → Dp K G' v d → r D (σ.set i (some v)) H') : tSeq (tAsg te (gName i)) r D σ H := m G H _ s hp k
theorem sq_take {ta : TE} {m i : Nat} {r : TS} {D : Ends} {H : Hp} (harg : ∀ Q : VK, Q (.int (m : Int)) H → ta σ H Q) (h0 : 0 < m) (h1 : m ≤ 1000) (hpen : σ[0]? = some (some (.ref pen))) (p : PenAt H pen sp)
    (k : ∀ H' (j : Nat), j < m → But pen H H' → PenAt H' pen sp → r D (σ.set i (some (.int (j : Int)))) H') : tSeq (tAsg (tCall spTake [] E0 (tCons (tVar 0) (tCons ta tNil))) (gName i)) r D σ H :=
  ⟨.ref pen, hpen, harg _ ⟨pen, sp, m, rfl, h0, h1, p, fun H' j hj b p' => k H' j hj b p'⟩⟩
theorem sq_pick {tl : TE} {ds : List PyData} {n i : Nat} {z : Int} {r : TS} {D : Ends} {G H : Hp} (m : MkR K σ Pre tl ds) (hn : ds.length = n) (hz : z = (n : Int)) (h0 : 0 < n) (h1 : n ≤ 1000) (hpen : σ[0]? = some (some (.ref pen))) (p : PenAt H pen sp) (s : Same G H) (ng : G pen = none) (hp : Pre G)
    (k : ∀ G' H' v d, Same G G' → Same G' H' → G' pen = none → But pen H H' → PenAt H' pen sp → d ∈ ds → Dp K G' v d → r D (σ.set i (some v)) H') :
    tSeq (tAsg (tOp (rIxL K) tl (tCall spTake [] E0 (tCons (tVar 0) (tCons (tC (.int z)) tNil)))) (gName i)) r D σ H :=
  m G H _ s hp fun G1 H1 q vs g hq hd => by
    subst hz
    refine ⟨.ref pen, hpen, pen, sp, n, rfl, h0, h1, p.same g.hh, fun H2 j hj b p2 => ?_⟩
    have n1 := g.noP p ng
    have s2 := takeS g.gh n1 b
    obtain ⟨d, hdj⟩ : ∃ d, ds[j]? = some d := ⟨_, List.getElem?_eq_getElem (by omega)⟩
    obtain ⟨v, hv, hvd⟩ := dpsAt hd hdj
    refine ⟨q, vs, _, v, rfl, rfl, sL (s2 _ _ hq), atI_nat hv, ?_⟩
    exact k G1 H2 v d g.gg s2 n1 ((But.of g.hh).trans b) p2 (List.mem_of_getElem? hdj) hvd
theorem dps_take2 {H : Hp} : ∀ (m : Nat) {ws : List V} {es : List PyData}, DpAll K H ws es → DpAll K H (ws.take m) (es.take m) := dps_take
theorem dps_drop {H : Hp} : ∀ (m : Nat) {ws : List V} {es : List PyData}, DpAll K H ws es → DpAll K H (ws.drop m) (es.drop m)
  | 0, _, _, h => h
  | m + 1, _, _, .nil => by rw [List.drop_nil, List.drop_nil]; exact .nil
  | m + 1, _, _, .cons a b => dps_drop m b
theorem cut_dropN (xs : List V) (n : Nat) : cutV xs (some (n : Int)) none = xs.drop n := by
  unfold cutV
  rw [HT.sIx_nat, HT.sIx_none]
  by_cases h : n ≤ xs.length
  · rw [Nat.min_eq_left h, List.take_of_length_le (by rw [List.length_drop]; exact Nat.le_refl _)]
  · rw [Nat.min_eq_right (by omega), List.drop_eq_nil_of_le (Nat.le_refl _), List.drop_eq_nil_of_le (by omega)]
    simp
/-- t[:n] -/
theorem mk_takeT {t u : TE} {ds : List PyData} {n : Nat} (S : Stay Pre) (a : MkD K σ Pre t (.tuple ds)) (b : MkD K σ Pre u (.int (n : Int))) : MkD K σ Pre (tSl (rSlA K) t tNoPart (tPart u)) (.tuple (ds.take n)) := fun G H Q s hp k =>
  a G H _ s hp fun G1 H1 v g1 d1 => b G1 H1 _ g1.gh (S hp g1.gg) fun G2 H2 w g2 d2 => by
    cases d2
    obtain ⟨p, vs, rfl, h1, d1⟩ := dpTup d1
    have e1 := dpsLen d1
    have d1' := dpsS g2.gg d1
    refine ⟨_, rfl, p, vs, rfl, g2.gh.sqT (g2.gg.sqT h1), fun e => ?_, fun _ z nz => ?_⟩
    · have e := e.2
      rw [HT.sIx_nat] at e
      have : ds.take n = ds := List.take_of_length_le (by omega)
      rw [this] at k
      exact k G2 H2 _ (g1.trans g2) (.tup (g2.gg.sqT h1) d1')
    · refine k (upd G2 z (.tup (cutV vs none (some (n : Int))))) _ _ (g1.trans (g2.trans (.new g2.gh nz))) (.tup (sT upd_same) ?_)
      rw [cut_take]
      exact dps_take n (dpsS (.new (g2.gh.free nz)) d1')
/-- t[n:] -/
theorem mk_dropT {t u : TE} {ds : List PyData} {n : Nat} (S : Stay Pre) (a : MkD K σ Pre t (.tuple ds)) (b : MkD K σ Pre u (.int (n : Int))) : MkD K σ Pre (tSl (rSlA K) t (tPart u) tNoPart) (.tuple (ds.drop n)) := fun G H Q s hp k =>
  a G H _ s hp fun G1 H1 v g1 d1 => b G1 H1 _ g1.gh (S hp g1.gg) fun G2 H2 w g2 d2 => by
    cases d2
    obtain ⟨p, vs, rfl, h1, d1⟩ := dpTup d1
    have e1 := dpsLen d1
    have d1' := dpsS g2.gg d1
    refine ⟨_, rfl, p, vs, rfl, g2.gh.sqT (g2.gg.sqT h1), fun e => ?_, fun _ z nz => ?_⟩
    · have e := e.1
      rw [HT.sIx_nat] at e
      have : ds.drop n = ds := by
        by_cases q : n = 0
        · rw [q]; rfl
        · have : ds = [] := List.eq_nil_of_length_eq_zero (by omega)
          rw [this, List.drop_nil]
      rw [this] at k
      exact k G2 H2 _ (g1.trans g2) (.tup (g2.gg.sqT h1) d1')
    · refine k (upd G2 z (.tup (cutV vs (some (n : Int)) none))) _ _ (g1.trans (g2.trans (.new g2.gh nz))) (.tup (sT upd_same) ?_)
      rw [cut_dropN]
      exact dps_drop n (dpsS (.new (g2.gh.free nz)) d1')
/-- texts one behind the other -/
theorem mk_adds {t u : TE} {a b : Str} (S : Stay Pre) (hl : a.length + b.length ≤ 1000) (ha : MkD K σ Pre t (.str a)) (hb : MkD K σ Pre u (.str b)) : MkD K σ Pre (tOp (fun x y H Q => ∃ i j, x = V.str i ∧ y = V.str j ∧ i.length + j.length ≤ sizeLine ∧ Q (V.str (i ++ j)) H) t u) (.str (a ++ b)) := fun G H Q s hp k =>
  ha G H _ s hp fun G1 H1 v g1 d1 => hb G1 H1 _ g1.gh (S hp g1.gg) fun G2 H2 w g2 d2 => by
    cases d1
    cases d2
    exact ⟨a, b, rfl, rfl, szl (by omega), k G2 H2 _ (g1.trans g2) (.str _)⟩
/-- xs[-1] -/
theorem mk_lastL {t : TE} {ds : List PyData} {d : PyData} (a : MkR K σ Pre t (ds ++ [d])) : MkD K σ Pre (tOp (rIxL K) t (tUn (rU fun i => .int (-i)) (tC (.int 1)))) d := fun G H Q s hp k =>
  a G H _ s hp fun G1 H1 p vs g1 h1 d1 => by
    have e1 := dpsLen d1
    rw [List.length_append, List.length_singleton] at e1
    obtain ⟨v, hv, hvd⟩ := dpsAt (i := ds.length) d1 (d := d) (by rw [List.getElem?_append_right (Nat.le_refl _), Nat.sub_self]; rfl)
    obtain ⟨ws, w, rfl⟩ : ∃ ws w, vs = ws ++ [w] := by
      rcases List.eq_nil_or_concat vs with rfl | ⟨ws, w, rfl⟩
      · simp at e1
      · exact ⟨ws, w, List.concat_eq_append⟩
    rw [List.length_append, List.length_singleton] at e1
    have ev : v = w := by
      rw [List.getElem?_append_right (by omega), show ds.length - ws.length = 0 by omega] at hv
      exact (Option.some.inj hv).symm
    subst ev
    exact ⟨1, rfl, p, _, _, v, rfl, rfl, sL (g1.gh _ _ h1), atI_last _ _, k G1 H1 v g1 hvd⟩
end
end Sw
set_option Elab.async false
set_option maxRecDepth 100000
set_option maxHeartbeats 8000000
namespace Sw
open PySem L2 PySem.Spec PyProof.Rows
def z6 : PyData := .str "zzzzzz"
def rmX (b : Bool) (ds : List PyData) : PyData := .tuple [.bool b, .tuple ds]
def oR1 (b : Bool) (l : List PyData) : List PyData := [.tuple [.int (if b = true then 1 else 0), .tuple l], .tuple [.none, .tuple l], .tuple [.bool b], .tuple [.bool b, .tuple l, .tuple []], .tuple [.bool b, .list l], .list [.bool b, .tuple l], .none, .int 7]
def oR2 (b : Bool) (l : List PyData) (s : Str) (dw dn : PyData) : List PyData := [rmX b (l ++ [.tuple [.str s, .int 0]]), rmX b ([.tuple [dw, .int 0]] ++ l), rmX b (l ++ [.tuple [z6, dn]])]
def oR3 (b : Bool) (l : List PyData) : List PyData := [rmX b l.reverse, rmX b (l ++ [.tuple [z6]]), rmX b (l ++ [.list [z6, .int 0]]), rmX (!b) l]
def oR4 (b : Bool) (l : List PyData) : List PyData := [rmX b (l ++ [.tuple [z6, .int 0]]), rmX b [], rmX false l, rmX b (l ++ [.tuple [z6, .int 0, .int 0]])]
def oR5 (b : Bool) (h r : List PyData) (dw dn : PyData) (o : Str) (t : Int) : List PyData := [rmX b ((h ++ [.tuple [dw, .int t]]) ++ r), rmX b ((h ++ [.tuple [.str o, dn]]) ++ r)]
def oR6 (b : Bool) (h r : List PyData) (o : Str) (t : Int) : List PyData := [rmX b ((h ++ [.list [.str o, .int t]]) ++ r)]
def oR7 (b : Bool) (h r : List PyData) (a : PyData) : List PyData := [rmX b (((h ++ r.take 1) ++ [a]) ++ r.drop 1)]
def oR8 (b : Bool) (h r : List PyData) (o : Str) (t : Int) : List PyData := [rmX b ((h ++ [.tuple [.str o, .int t, .int t]]) ++ r), rmX b ((h ++ [.tuple [.str o]]) ++ r)]
def oAll (b : Bool) (l h r : List PyData) (s o : Str) (dw dn a : PyData) (t : Int) : List PyData := (((((((oR1 b l ++ oR2 b l s dw dn) ++ oR3 b l) ++ oR4 b l) ++ oR5 b h r dw dn o t) ++ oR6 b h r o t) ++ oR7 b h r a) ++ oR8 b h r o t)
theorem g_bl {b : Bool} {e : Nat} : Gd (.bool b) 1 e := ⟨rfl, by simp [ndD], by simp [PyData.depth]⟩
theorem g_non {e : Nat} : Gd .none 1 e := ⟨rfl, by simp [ndD], by simp [PyData.depth]⟩
theorem g_int {i : Int} {e : Nat} (h1 : -1 ≤ i) (h2 : i ≤ 201) : Gd (.int i) 1 e := ⟨by simp [ekB]; exact .inl ⟨h1, h2⟩, by simp [ndD], by simp [PyData.depth]⟩
theorem g_str {s : Str} {e : Nat} (h1 : PyData.strOk s = true) (h2 : s.length ≤ 9) : Gd (.str s) 1 e := ⟨by simp [ekB]; exact ⟨h2, h1⟩, by simp [ndD], by simp [PyData.depth]⟩
theorem g_z6 {e : Nat} : Gd z6 1 e := g_str (by decide +kernel) (by decide +kernel)
theorem g_one {d : PyData} {n e : Nat} (h : Gd d n e) : Ls [d] n e := (ls_cons h ls_nil).mono (by omega) (Nat.le_refl _)
theorem g_two {c d : PyData} {n m e : Nat} (g : Gd c n e) (h : Gd d m e) : Ls [c, d] (n + m) e := ls_cons g (g_one h)
theorem g_rm {b : Bool} {l : List PyData} {n : Nat} (h : Ls l n 3) (hn : n ≤ 50) : Gd (rmX b l) 54 6 := by
  have hl : l.length ≤ 250 := by have := nds_len l; have := h.nd; omega
  exact (gd_tup (g_two (g_bl (b := b)) (gd_tup h hl)) (by show 2 ≤ 250; decide)).mono (by omega) (by omega)
theorem oAll_gd {b : Bool} {l h r : List PyData} {s o : Str} {dw dn a : PyData} {t : Int} (hl : Ls l 9 1) (hh : Ls h 9 1) (hr : Ls r 9 1) (hs : PyData.strOk s = true ∧ s.length ≤ 9) (ho : PyData.strOk o = true ∧ o.length ≤ 9) (hw : Gd dw 3 2) (hn : Gd dn 3 2) (ha : Gd a 9 1) (ht : 0 ≤ t ∧ t ≤ 201) :
    ∀ d, d ∈ oAll b l h r s o dw dn a t → Gd d 54 6 := by
  have l3 := hl.mono (Nat.le_refl 9) (show 1 ≤ 3 by decide)
  have h3 := hh.mono (Nat.le_refl 9) (show 1 ≤ 3 by decide)
  have r3 := hr.mono (Nat.le_refl 9) (show 1 ≤ 3 by decide)
  have gs : ∀ {e : Nat}, Gd (.str s) 1 e := g_str hs.1 hs.2
  have go : ∀ {e : Nat}, Gd (.str o) 1 e := g_str ho.1 ho.2
  have gt : ∀ {e : Nat}, Gd (.int t) 1 e := g_int (by omega) ht.2
  have g0 : ∀ {e : Nat}, Gd (.int 0) 1 e := g_int (by decide) (by decide)
  have ll : l.length ≤ 250 := by have := nds_len l; have := hl.nd; omega
  have gl : Gd (.tuple l) 10 4 := (gd_tup l3 ll)
  have app : ∀ {x y : List PyData} {n m : Nat}, Ls x n 3 → Ls y m 3 → Ls (x ++ y) (n + m) 3 := fun a b => ls_app a b
  have t1 : ∀ {x : PyData} {n : Nat}, Gd x n 2 → Ls [.tuple [x]] (n + 1) 3 := fun g => g_one (gd_tup (g_one g) (by show 1 ≤ 250; decide))
  have t2 : ∀ {x y : PyData} {n m : Nat}, Gd x n 2 → Gd y m 2 → Ls [.tuple [x, y]] (n + m + 1) 3 := fun g q => g_one (gd_tup (g_two g q) (by show 2 ≤ 250; decide))
  have q2 : ∀ {x y : PyData} {n m : Nat}, Gd x n 2 → Gd y m 2 → Ls [.list [x, y]] (n + m + 1) 3 := fun g q => g_one (gd_lst (g_two g q) (by show 2 ≤ 250; decide))
  have t3 : ∀ {x y z : PyData} {n m k : Nat}, Gd x n 2 → Gd y m 2 → Gd z k 2 → Ls [.tuple [x, y, z]] (n + (m + k) + 1) 3 := fun g q p => g_one (gd_tup (ls_cons g (g_two q p)) (by show 3 ≤ 250; decide))
  have sm : ∀ {d : PyData} {n e : Nat}, Gd d n e → n ≤ 54 → e ≤ 6 → Gd d 54 6 := fun g h1 h2 => g.mono h1 h2
  have rv : Ls l.reverse 9 3 := by
    have e1 : ∀ x : List PyData, nds x.reverse = nds x ∧ (eks x = true → eks x.reverse = true) ∧ PyData.depthAll x.reverse = PyData.depthAll x := fun x => by
      have ap : ∀ (x y : List PyData), nds (x ++ y) = nds x + nds y ∧ eks (x ++ y) = (eks x && eks y) ∧ PyData.depthAll (x ++ y) = max (PyData.depthAll x) (PyData.depthAll y) := fun x y => by
        induction x with
        | nil => simp [nds, eks, PyData.depthAll]
        | cons z x ih =>
          obtain ⟨i1, i2, i3⟩ := ih
          refine ⟨by rw [List.cons_append, nds, nds, i1]; omega, by rw [List.cons_append, eks, eks, i2, Bool.and_assoc], by rw [List.cons_append, PyData.depthAll, PyData.depthAll, i3]; omega⟩
      induction x with
      | nil => exact ⟨rfl, fun h => h, rfl⟩
      | cons z x ih =>
        obtain ⟨i1, i2, i3⟩ := ih
        obtain ⟨a1, a2, a3⟩ := ap x.reverse [z]
        rw [List.reverse_cons]
        refine ⟨by rw [a1, i1]; simp [nds]; omega, fun h => ?_, by rw [a3, i3]; simp [PyData.depthAll]; omega⟩
        rw [eks, Bool.and_eq_true] at h
        rw [a2, i2 h.2]
        simp [eks, h.1]
    obtain ⟨i1, i2, i3⟩ := e1 l
    exact ⟨i2 l3.ek, by rw [i1]; exact l3.nd, by rw [i3]; exact l3.dp⟩
  have rt : Ls (r.take 1) 9 3 := ls_sub (List.take_sublist _ _) r3
  have rd : Ls (r.drop 1) 9 3 := ls_sub (List.drop_sublist _ _) r3
  intro d hd
  unfold oAll oR1 oR2 oR3 oR4 oR5 oR6 oR7 oR8 at hd
  simp only [List.mem_append, List.mem_cons, List.not_mem_nil, or_false] at hd
  rcases hd with (((((((hd | hd) | hd) | hd) | hd) | hd) | hd) | hd)
  · rcases hd with rfl | rfl | rfl | rfl | rfl | rfl | rfl | rfl
    · exact sm (gd_tup (g_two (g_int (by split <;> decide) (by split <;> decide)) gl) (by show 2 ≤ 250; decide)) (by omega) (by omega)
    · exact sm (gd_tup (g_two g_non gl) (by show 2 ≤ 250; decide)) (by omega) (by omega)
    · exact sm (gd_tup (g_one (g_bl (e := 1))) (by show 1 ≤ 250; decide)) (by omega) (by omega)
    · exact sm (gd_tup (ls_cons g_bl (g_two gl ((gd_tup (ls_nil (e := 3)) (by show 0 ≤ 250; decide)).mono (Nat.le_refl _) (Nat.le_refl _)))) (by show 3 ≤ 250; decide)) (by omega) (by omega)
    · exact sm (gd_tup (g_two g_bl (gd_lst l3 ll)) (by show 2 ≤ 250; decide)) (by omega) (by omega)
    · exact sm (gd_lst (g_two g_bl gl) (by show 2 ≤ 250; decide)) (by omega) (by omega)
    · exact sm (g_non (e := 1)) (by omega) (by omega)
    · exact sm (g_int (e := 1) (by decide) (by decide)) (by omega) (by omega)
  · rcases hd with rfl | rfl | rfl
    · exact g_rm (app l3 (t2 gs g0)) (by omega)
    · exact g_rm (app (t2 hw g0) l3) (by omega)
    · exact g_rm (app l3 (t2 g_z6 hn)) (by omega)
  · rcases hd with rfl | rfl | rfl | rfl
    · exact g_rm rv (by omega)
    · exact g_rm (app l3 (t1 g_z6)) (by omega)
    · exact g_rm (app l3 (q2 g_z6 g0)) (by omega)
    · exact g_rm l3 (by omega)
  · rcases hd with rfl | rfl | rfl | rfl
    · exact g_rm (app l3 (t2 g_z6 g0)) (by omega)
    · exact g_rm (ls_nil (e := 3)) (by omega)
    · exact g_rm l3 (by omega)
    · exact g_rm (app l3 (t3 g_z6 g0 g0)) (by omega)
  · rcases hd with rfl | rfl
    · exact g_rm (app (app h3 (t2 hw gt)) r3) (by omega)
    · exact g_rm (app (app h3 (t2 go hn)) r3) (by omega)
  · subst hd
    exact g_rm (app (app h3 (q2 go gt)) r3) (by omega)
  · subst hd
    exact g_rm (app (app (app h3 rt) (g_one (ha.mono (Nat.le_refl 9) (show 1 ≤ 3 by decide)))) rd) (by omega)
  · rcases hd with rfl | rfl
    · exact g_rm (app (app h3 (t3 go gt gt)) r3) (by omega)
    · exact g_rm (app (app h3 (t1 go)) r3) (by omega)
end Sw
set_option Elab.async false
set_option maxRecDepth 100000
set_option maxHeartbeats 8000000
namespace Sw
open PySem L2 PySem.Spec PyProof.Rows
theorem dps_rev {K : PySem.W.Frag} {H : Hp} : ∀ {ws : List V} {es : List PyData}, DpAll K H ws es → DpAll K H ws.reverse es.reverse
  | _, _, .nil => .nil
  | _, _, .cons a b => by rw [List.reverse_cons, List.reverse_cons]; exact dpsApp (dps_rev b) (.cons a .nil)
theorem mk_rev {K : PySem.W.Frag} {σ : L2.St} {Pre : Hp → Prop} {t : TE} {ds : List PyData} (a : MkD K σ Pre t (.tuple ds)) : MkD K σ Pre (tRevT K t) (.tuple ds.reverse) := fun G H Q s hp k =>
  a G H _ s hp fun G1 H1 v g1 d1 => by
    obtain ⟨p, vs, rfl, h1, d1⟩ := dpTup d1
    refine ⟨p, vs, rfl, g1.gh.sqT h1, fun z nz => ?_⟩
    exact k (upd G1 z (.tup vs.reverse)) _ _ (g1.trans (.new g1.gh nz)) (.tup (sT upd_same) (dps_rev (dpsS (.new (g1.gh.free nz)) d1)))
theorem mk_len {K : PySem.W.Frag} {σ : L2.St} {Pre : Hp → Prop} {t : TE} {ds : List PyData} (a : MkD K σ Pre t (.tuple ds)) : MkD K σ Pre (tCB (fun xs H Q => ∃ p ys, xs = [V.ref p] ∧ (SqL K H p ys ∨ SqT K H p ys) ∧ Q (V.int ys.length) H) (tCons t tNil)) (.int (ds.length : Int)) := fun G H Q s hp k =>
  a G H _ s hp fun G1 H1 v g1 d1 => by
    obtain ⟨p, vs, rfl, h1, d1⟩ := dpTup d1
    have e := dpsLen d1
    exact ⟨p, vs, rfl, .inr (g1.gh.sqT h1), by rw [e]; exact k G1 H1 _ g1 (.int _)⟩
theorem mk_lenL {K : PySem.W.Frag} {σ : L2.St} {Pre : Hp → Prop} {t : TE} {ds : List PyData} (a : MkR K σ Pre t ds) : MkD K σ Pre (tCB (fun xs H Q => ∃ p ys, xs = [V.ref p] ∧ (SqL K H p ys ∨ SqT K H p ys) ∧ Q (V.int ys.length) H) (tCons t tNil)) (.int (ds.length : Int)) := fun G H Q s hp k =>
  a G H _ s hp fun G1 H1 p vs g1 h1 d1 => by
    have e := dpsLen d1
    exact ⟨p, vs, rfl, .inl (sL (g1.gh _ _ h1)), by rw [e]; exact k G1 H1 _ g1 (.int _)⟩
structure PR (K : PySem.W.Frag) (sg : Addr) (vm vl vn vs va vh vr : V) (m l : List PyData) (dn dw : PyData) (a h r : List PyData) (ss : List PyData) (H : Hp) : Prop where
  m : Dp K H vm (.tuple m)
  l : Dp K H vl (.tuple l)
  n : Dp K H vn dn
  s : Dp K H vs dw
  a : Dp K H va (.tuple a)
  h : Dp K H vh (.tuple h)
  r : Dp K H vr (.tuple r)
  sg : ∃ ws, H sg = some (.lst ws) ∧ DpAll K H ws ss
theorem PR.stay {K : PySem.W.Frag} {sg : Addr} {vm vl vn vs va vh vr : V} {m l : List PyData} {dn dw : PyData} {a h r ss : List PyData} : Stay (PR K sg vm vl vn vs va vh vr m l dn dw a h r ss) := fun q s =>
  ⟨dpS s q.m, dpS s q.l, dpS s q.n, dpS s q.s, dpS s q.a, dpS s q.h, dpS s q.r, let ⟨ws, h1, h2⟩ := q.sg; ⟨ws, s _ _ h1, dpsS s h2⟩⟩
def othS : Str := " !#$&'()*+,-./0123456789:;<=>?\x40ABCDEFGHIJKLMNOPQRSTUVWXYZ[]^_{|}~\t\n"
theorem oth_at (j : Nat) (h : j < othS.length) : ∃ c, othS.cps.toList[j]? = some c ∧ PyData.strOk (oneS c) = true := by
  have : ∀ j : Fin othS.length, (match othS.cps.toList[j.val]? with | some c => PyData.strOk (oneS c) | none => false) = true := by decide +kernel
  have := this ⟨j, h⟩
  cases e : othS.cps.toList[j]? with
  | none => rw [e] at this; cases this
  | some c => rw [e] at this; exact ⟨c, rfl, this⟩
theorem ok_app {a b : Str} (ha : PyData.strOk a = true) (hb : PyData.strOk b = true) : PyData.strOk (a ++ b) = true := by
  unfold PyData.strOk at ha hb ⊢
  rw [← Array.all_toList] at ha hb ⊢
  have e : (a ++ b).cps.toList = a.cps.toList ++ b.cps.toList := TL.tl_append a b
  rw [e, List.all_append, ha, hb]
  rfl
theorem len_app (a b : Str) : (a ++ b).length = a.length + b.length := by
  have e : (a ++ b).cps.toList = a.cps.toList ++ b.cps.toList := TL.tl_append a b
  rw [TL.len_tl, TL.len_tl, TL.len_tl]
  show (a ++ b).cps.toList.length = _
  rw [e, List.length_append]
theorem Gd.shape {d : PyData} {n e : Nat} (h : Gd d n e) (he : e ≤ 40) : SeqAt.shaped d = true := by
  obtain ⟨_, _, h3, _, _⟩ := ek_all d h.ek
  have := h.dp
  unfold SeqAt.shaped
  rw [h3, decide_eq_true (by omega)]
  rfl
theorem eqvT (L : List Stp) : PyData.eqv (.tuple (L.map stD)) (.tuple []) = decide (L = []) := by
  cases L with
  | nil => simp [PyData.eqv, PyData.eqvAll]
  | cons n l => simp [PyData.eqv, PyData.eqvAll]
theorem dpStrs {K : PySem.W.Frag} {H : Hp} : ∀ l : List Str, DpAll K H (l.map V.str) (l.map PyData.str)
  | [] => .nil
  | x :: l => .cons (.str _) (dpStrs l)
def numL (n : Nat) : List PyData := [.int (-1), .int (n : Int), .none, .bool true, .str "0", .int ((10 : Int) ^ (20 : Int).toNat), .tuple [.int 0], .list [.int 0]]
theorem num_gd {n : Nat} (h : n ≤ 6) : ∀ d, d ∈ numL n → Gd d 3 2 := by
  intro d hd
  unfold numL at hd
  simp only [List.mem_cons, List.not_mem_nil, or_false] at hd
  rcases hd with rfl | rfl | rfl | rfl | rfl | rfl | rfl | rfl
  · exact gd_of (by decide +kernel)
  · exact (g_int (e := 2) (by omega) (by omega)).mono (by decide) (Nat.le_refl _)
  all_goals exact gd_of (by decide +kernel)
def wordL (o : Str) : List PyData := [.str "", .str o, .str "abcdefg", .str (("a" ++ o) ++ "b"), .str ("a" ++ o), .str (o ++ "a"), .int 3, .none, .tuple [.str "a"], .list [.str "a"]]
theorem word_gd {o : Str} (h : PyData.strOk o = true) (hl : o.length = 1) : ∀ d, d ∈ wordL o → Gd d 3 2 := by
  have oa : PyData.strOk "a" = true := by decide +kernel
  have ob : PyData.strOk "b" = true := by decide +kernel
  have la : (Str.ofString "a").length = 1 := by decide +kernel
  have lb : (Str.ofString "b").length = 1 := by decide +kernel
  intro d hd
  unfold wordL at hd
  simp only [List.mem_cons, List.not_mem_nil, or_false] at hd
  rcases hd with rfl | rfl | rfl | rfl | rfl | rfl | rfl | rfl | rfl | rfl
  · exact gd_of (by decide +kernel)
  · exact (g_str (e := 2) h (by omega)).mono (by decide) (Nat.le_refl _)
  · exact gd_of (by decide +kernel)
  · exact (g_str (e := 2) (ok_app (ok_app oa h) ob) (by rw [len_app, len_app, la, lb, hl]; decide)).mono (by decide) (Nat.le_refl _)
  · exact (g_str (e := 2) (ok_app oa h) (by rw [len_app, la, hl]; decide)).mono (by decide) (Nat.le_refl _)
  · exact (g_str (e := 2) (ok_app h oa) (by rw [len_app, la, hl]; decide)).mono (by decide) (Nat.le_refl _)
  all_goals exact gd_of (by decide +kernel)
section
variable {P : Program} {w : World} {K : PySem.W.Frag} {mg : Str → Option Value} {base : Heap}
abbrev n_law_e_odd : List Str := ["pen", "machine", "signs", "at", "ends", "led", "number", "others", "odd", "words", "sign", "amid", "spot", "ahead", "rest", "one", "there", "rooms", "way"]
theorem sc_law_e_odd : FnScope n_law_e_odd ["pen", "machine", "signs"] (defScope s_law_e_odd) := ⟨rfl, rfl, rfl, by decide +kernel, rfl, by decide +kernel, by decide +kernel⟩
theorem sq_par {K : PySem.W.Frag} {σ : L2.St} {Pre : Hp → Prop} {ta : TA} {d1 d2 : PyData} {i j : Nat} {r : TS} {D : Ends} {G H : Hp} (m : MkDs K σ Pre ta [d1, d2]) (s : Same G H) (hp : Pre G)
    (k : ∀ G' H' v w, Grow G H G' H' → Dp K G' v d1 → Dp K G' w d2 → r D ((σ.set i (some v)).set j (some w)) H') : tSeq (tPar i j ta) r D σ H := m G H _ s hp fun G3 H3 xs g3 hxs => by
  obtain ⟨v1, us, rfl, hv1, hxs⟩ := dpCons hxs
  obtain ⟨v2, us, rfl, hv2, hxs⟩ := dpCons hxs
  cases dpNil hxs
  exact ⟨v1, v2, rfl, k G3 H3 v1 v2 g3 hv1 hv2⟩
theorem ok_law_e_odd (F : DefAt K mg "_law_e_odd" s_law_e_odd ["pen", "machine", "signs"]) (d__law_e_take : DefOk P w K mg base "_law_e_take" 1 ["pen", "many"] spTake) (b_len : mg "len" = none) (b_int : mg "int" = none) (b_list : mg "list" = none) : DefOk P w K mg base "_law_e_odd" 2 ["pen", "machine", "signs"] (spOdd K) := by
  refine F.ok sc_law_e_odd (fun vs H Q E h => ?_) (fun f cdv A outer s H vs Q E hr h => ?_)
  · obtain ⟨_, _, _, _, _, _, rfl, _⟩ := h
    rfl
  obtain ⟨pen, sp, sg, ss, vm, M, rfl, p0, hsg, hvm, mgd, k⟩ := h
  -- behind the choices
  obtain ⟨t2, h2, f2⟩ : ∃ t2, PSs (cxOf CX0 P w K mg base n_law_e_odd "_law_e_odd" (defScope s_law_e_odd) f cdv A outer s H E).nox ((defBody s_law_e_odd).drop 11) t2 ∧
      ∀ (G H1 : Hp) (at_ : Nat) (b : Bool) (vl vn vs va vh vr : V) (l dnl : List PyData) (dn dw : PyData) (a h r : List PyData) (one : Str) (there spot : Nat) (x : PyData) (o7 o8 o9 : Option V), Same G H1 → G pen = none → But pen H H1 → PenAt H1 pen sp → PR K sg vm vl vn vs va vh vr (M.map rmD) l dn dw a h r (ss.map PyData.str) G →
        at_ < M.length → Ls l 9 1 → Ls h 9 1 → Ls r 9 1 → a[spot]? = some x → Gd x 9 1 → PyData.strOk one = true → one.length ≤ 9 → there ≤ 201 → Gd dn 3 2 → Gd dw 3 2 →
        t2 { nx := fun _ H' => Q .non H', rt := Q } [some (.ref pen), some vm, some (.ref sg), some (.int (at_ : Int)), some (.bl b), some vl, some vn, o7, o8, o9, some vs, some va, some (.int (spot : Int)), some vh, some vr, some (.str one), some (.int (there : Int)), none, none] H1 := by
    refine ⟨_, (pss_cons (ps_set (i := 17) sc_law_e_odd.nd rfl (Or.inl rfl) (pe_lst (pa_cons (pe_tup (pa_cons (pe_callTy call_int1 (by rfl) b_int (by decide +kernel) (pa_cons (pv 4) pa_nil)) (pa_cons (pv 5) pa_nil))) (pa_cons (pe_tup (pa_cons pe_non (pa_cons (pv 5) pa_nil))) (pa_cons (pe_tup (pa_cons (pv 4) pa_nil)) (pa_cons (pe_tup (pa_cons (pv 4) (pa_cons (pv 5) (pa_cons (pe_tup pa_nil) pa_nil)))) (pa_cons (pe_tup (pa_cons (pv 4) (pa_cons (pe_callTy call_list_of (by rfl) b_list (by decide +kernel) (pa_cons (pv 5) pa_nil)) pa_nil))) (pa_cons (pe_lst (pa_cons (pv 4) (pa_cons (pv 5) pa_nil))) (pa_cons pe_non (pa_cons pe_int pa_nil))))))))))
    (pss_cons (ps_set (i := 17) sc_law_e_odd.nd rfl (Or.inl rfl) (pe_op op_cat (pv 17) (pe_lst (pa_cons (pe_tup (pa_cons (pv 4) (pa_cons (pe_op op_catA (pv 5) (pe_tup (pa_cons (pe_tup (pa_cons (pe_ix ix_list (pv 2) (pe_un un_neg pe_int) (fun _ _ => rfl)) (pa_cons pe_int pa_nil))) pa_nil))) pa_nil))) (pa_cons (pe_tup (pa_cons (pv 4) (pa_cons (pe_op op_catA (pe_tup (pa_cons (pe_tup (pa_cons (pv 10) (pa_cons pe_int pa_nil))) pa_nil)) (pv 5)) pa_nil))) (pa_cons (pe_tup (pa_cons (pv 4) (pa_cons (pe_op op_catA (pv 5) (pe_tup (pa_cons (pe_tup (pa_cons pe_str (pa_cons (pv 6) pa_nil))) pa_nil))) pa_nil))) pa_nil))))))
    (pss_cons (ps_set (i := 17) sc_law_e_odd.nd rfl (Or.inl rfl) (pe_op op_cat (pv 17) (pe_lst (pa_cons (pe_tup (pa_cons (pv 4) (pa_cons (pe_revT (pv 5)) pa_nil))) (pa_cons (pe_tup (pa_cons (pv 4) (pa_cons (pe_op op_catA (pv 5) (pe_tup (pa_cons (pe_tup (pa_cons pe_str pa_nil)) pa_nil))) pa_nil))) (pa_cons (pe_tup (pa_cons (pv 4) (pa_cons (pe_op op_catA (pv 5) (pe_tup (pa_cons (pe_lst (pa_cons pe_str (pa_cons pe_int pa_nil))) pa_nil))) pa_nil))) (pa_cons (pe_tup (pa_cons (pe_not (pv 4)) (pa_cons (pv 5) pa_nil))) pa_nil)))))))
    (pss_cons (ps_set (i := 17) sc_law_e_odd.nd rfl (Or.inl rfl) (pe_op op_cat (pv 17) (pe_lst (pa_cons (pe_tup (pa_cons (pv 4) (pa_cons (pe_op op_catA (pv 5) (pe_tup (pa_cons (pe_tup (pa_cons pe_str (pa_cons pe_int pa_nil))) pa_nil))) pa_nil))) (pa_cons (pe_tup (pa_cons (pv 4) (pa_cons (pe_tup pa_nil) pa_nil))) (pa_cons (pe_tup (pa_cons pe_bl (pa_cons (pv 5) pa_nil))) (pa_cons (pe_tup (pa_cons (pv 4) (pa_cons (pe_op op_catA (pv 5) (pe_tup (pa_cons (pe_tup (pa_cons pe_str (pa_cons pe_int (pa_cons pe_int pa_nil)))) pa_nil))) pa_nil))) pa_nil)))))))
    (pss_cons (ps_set (i := 17) sc_law_e_odd.nd rfl (Or.inl rfl) (pe_op op_cat (pv 17) (pe_lst (pa_cons (pe_tup (pa_cons (pv 4) (pa_cons (pe_op op_catA (pe_op op_catA (pv 13) (pe_tup (pa_cons (pe_tup (pa_cons (pv 10) (pa_cons (pv 16) pa_nil))) pa_nil))) (pv 14)) pa_nil))) (pa_cons (pe_tup (pa_cons (pv 4) (pa_cons (pe_op op_catA (pe_op op_catA (pv 13) (pe_tup (pa_cons (pe_tup (pa_cons (pv 15) (pa_cons (pv 6) pa_nil))) pa_nil))) (pv 14)) pa_nil))) pa_nil)))))
    (pss_cons (ps_set (i := 17) sc_law_e_odd.nd rfl (Or.inl rfl) (pe_op op_cat (pv 17) (pe_lst (pa_cons (pe_tup (pa_cons (pv 4) (pa_cons (pe_op op_catA (pe_op op_catA (pv 13) (pe_tup (pa_cons (pe_lst (pa_cons (pv 15) (pa_cons (pv 16) pa_nil))) pa_nil))) (pv 14)) pa_nil))) pa_nil))))
    (pss_cons (ps_set (i := 17) sc_law_e_odd.nd rfl (Or.inl rfl) (pe_op op_cat (pv 17) (pe_lst (pa_cons (pe_tup (pa_cons (pv 4) (pa_cons (pe_op op_catA (pe_op op_catA (pe_op op_catA (pv 13) (pe_slice sl_tupA (pv 14) po_none (po_some pe_int))) (pe_tup (pa_cons (pe_ix ix_tup (pv 11) (pv 12) (fun _ _ => rfl)) pa_nil))) (pe_slice sl_tupA (pv 14) (po_some pe_int) po_none)) pa_nil))) pa_nil))))
    (pss_cons (ps_set (i := 17) sc_law_e_odd.nd rfl (Or.inl rfl) (pe_op op_cat (pv 17) (pe_lst (pa_cons (pe_tup (pa_cons (pv 4) (pa_cons (pe_op op_catA (pe_op op_catA (pv 13) (pe_tup (pa_cons (pe_tup (pa_cons (pv 15) (pa_cons (pv 16) (pa_cons (pv 16) pa_nil)))) pa_nil))) (pv 14)) pa_nil))) (pa_cons (pe_tup (pa_cons (pv 4) (pa_cons (pe_op op_catA (pe_op op_catA (pv 13) (pe_tup (pa_cons (pe_tup (pa_cons (pv 15) pa_nil)) pa_nil))) (pv 14)) pa_nil))) pa_nil)))))
    (pss_cons (ps_set (i := 18) sc_law_e_odd.nd rfl (Or.inl rfl) (pe_callD d__law_e_take (hr.mono (by decide)) rfl (pa_cons (pv 0) (pa_cons (pe_op op_add (pe_callB call_len_seq (by rfl) b_len PySem.boot_len (pa_cons (pv 17) pa_nil)) pe_int) pa_nil))))
    (pss_cons (ps_if (pt_cmpR op_lt (pv 18) (pe_callB call_len_seq (by rfl) b_len PySem.boot_len (pa_cons (pv 17) pa_nil)) (nomark _)) (pss_one (ps_ret (pe_op op_catA (pe_op op_catA (pe_slice sl_tupA (pv 1) po_none (po_some (pv 3))) (pe_tup (pa_cons (pe_ix ix_list (pv 17) (pv 18) (fun _ _ => rfl)) pa_nil))) (pe_slice sl_tupA (pv 1) (po_some (pe_op op_add (pv 3) pe_int)) po_none)))) pss_nil)
    (pss_one (ps_ret (pe_ix ix_list (pe_lst (pa_cons (pe_callTy call_list_of (by rfl) b_list (by decide +kernel) (pa_cons (pv 1) pa_nil)) (pa_cons (pe_op op_catA (pv 1) (pe_tup (pa_cons (pe_tup (pa_cons pe_bl (pa_cons (pe_tup pa_nil) pa_nil))) pa_nil))) (pa_cons (pe_slice sl_tupA (pv 1) po_none (po_some (pe_un un_neg pe_int))) (pa_cons (pe_op op_catA (pv 1) (pv 1)) pa_nil))))) (pe_op op_sub (pv 18) (pe_callB call_len_seq (by rfl) b_len PySem.boot_len (pa_cons (pv 17) pa_nil))) (fun _ _ => rfl)))))))))))))), ?_⟩
    intro G H1 at_ b vl vn vs va vh vr l dnl dn dw a h r one there spot x o7 o8 o9 s1 nG b1 p1 hP hat hl hh hrr hax hx hone honel hth hdn hdw
    have ll : l.length ≤ 9 := by have := nds_len l; have := hl.nd; omega
    have lh : h.length ≤ 9 := by have := nds_len h; have := hh.nd; omega
    have lr : r.length ≤ 9 := by have := nds_len r; have := hrr.nd; omega
    obtain ⟨si, sl, hss⟩ : ∃ si sl, ss = si ++ [sl] := by
      rcases List.eq_nil_or_concat ss with e | ⟨si, sl, e⟩
      · have := mgd.s0; rw [e] at this; exact absurd this (by decide)
      · exact ⟨si, sl, by rw [e, List.concat_eq_append]⟩
    have hsl : signS sl = true := mgd.sg sl (by rw [hss]; simp)
    have SP : Stay (PR K sg vm vl vn vs va vh vr (M.map rmD) l dn dw a h r (ss.map PyData.str)) := PR.stay
    have SL' : ∀ {L : Addr} {cur : List PyData}, Stay fun H => PR K sg vm vl vn vs va vh vr (M.map rmD) l dn dw a h r (ss.map PyData.str) H ∧ ∃ ws, H L = some (.lst ws) ∧ DpAll K H ws cur := stay_and PR.stay stay_ls
    have vE : ∀ {σ : L2.St} {Pr : Hp → Prop}, σ[4]? = some (some (.bl b)) → MkD K σ Pr (tVar 4) (.bool b) := fun h => mk_var h fun _ _ => .bl _
    have vI : ∀ {σ : L2.St} {Pr : Hp → Prop}, σ[4]? = some (some (.bl b)) → MkD K σ Pr (tCB (fun xs H Q => (∃ i, xs = [V.int i] ∧ Q (V.int i) H) ∨ ∃ k, xs = [V.bl k] ∧ Q (V.int (if k = true then 1 else 0)) H) (tCons (tVar 4) tNil)) (.int (if b = true then 1 else 0)) := fun h G H Q s hp k => ⟨.bl b, h, .inr ⟨b, rfl, k G H _ (.rfl' s) (.int _)⟩⟩
    have vNot : ∀ {σ : L2.St} {Pr : Hp → Prop}, σ[4]? = some (some (.bl b)) → MkD K σ Pr (tNotV (tVar 4)) (.bool (!b)) := fun h G H Q s hp k => ⟨.bl b, h, b, rfl, k G H _ (.rfl' s) (.bl _)⟩
    have vO : ∀ {σ : L2.St} {Pr : Hp → Prop}, σ[15]? = some (some (.str one)) → MkD K σ Pr (tVar 15) (.str one) := fun h => mk_var h fun _ _ => .str _
    have vT : ∀ {σ : L2.St} {Pr : Hp → Prop}, σ[16]? = some (some (.int (there : Int))) → MkD K σ Pr (tVar 16) (.int (there : Int)) := fun h => mk_var h fun _ _ => .int _
    have vSp : ∀ {σ : L2.St} {Pr : Hp → Prop}, σ[12]? = some (some (.int (spot : Int))) → MkD K σ Pr (tVar 12) (.int (spot : Int)) := fun h => mk_var h fun _ _ => .int _
    have vM : ∀ {σ : L2.St} {Pr : Hp → Prop}, (∀ H, Pr H → PR K sg vm vl vn vs va vh vr (M.map rmD) l dn dw a h r (ss.map PyData.str) H) → σ[1]? = some (some vm) → MkD K σ Pr (tVar 1) (.tuple (M.map rmD)) := fun g h => mk_var h fun _ q => (g _ q).m
    have vL : ∀ {σ : L2.St} {Pr : Hp → Prop}, (∀ H, Pr H → PR K sg vm vl vn vs va vh vr (M.map rmD) l dn dw a h r (ss.map PyData.str) H) → σ[5]? = some (some vl) → MkD K σ Pr (tVar 5) (.tuple l) := fun g h => mk_var h fun _ q => (g _ q).l
    have vN : ∀ {σ : L2.St} {Pr : Hp → Prop}, (∀ H, Pr H → PR K sg vm vl vn vs va vh vr (M.map rmD) l dn dw a h r (ss.map PyData.str) H) → σ[6]? = some (some vn) → MkD K σ Pr (tVar 6) dn := fun g h => mk_var h fun _ q => (g _ q).n
    have vS : ∀ {σ : L2.St} {Pr : Hp → Prop}, (∀ H, Pr H → PR K sg vm vl vn vs va vh vr (M.map rmD) l dn dw a h r (ss.map PyData.str) H) → σ[10]? = some (some vs) → MkD K σ Pr (tVar 10) dw := fun g h => mk_var h fun _ q => (g _ q).s
    have vA : ∀ {σ : L2.St} {Pr : Hp → Prop}, (∀ H, Pr H → PR K sg vm vl vn vs va vh vr (M.map rmD) l dn dw a h r (ss.map PyData.str) H) → σ[11]? = some (some va) → MkD K σ Pr (tVar 11) (.tuple a) := fun g h => mk_var h fun _ q => (g _ q).a
    have vH : ∀ {σ : L2.St} {Pr : Hp → Prop}, (∀ H, Pr H → PR K sg vm vl vn vs va vh vr (M.map rmD) l dn dw a h r (ss.map PyData.str) H) → σ[13]? = some (some vh) → MkD K σ Pr (tVar 13) (.tuple h) := fun g h => mk_var h fun _ q => (g _ q).h
    have vR : ∀ {σ : L2.St} {Pr : Hp → Prop}, (∀ H, Pr H → PR K sg vm vl vn vs va vh vr (M.map rmD) l dn dw a h r (ss.map PyData.str) H) → σ[14]? = some (some vr) → MkD K σ Pr (tVar 14) (.tuple r) := fun g h => mk_var h fun _ q => (g _ q).r
    have vLast : ∀ {σ : L2.St} {Pr : Hp → Prop}, (∀ H, Pr H → PR K sg vm vl vn vs va vh vr (M.map rmD) l dn dw a h r (ss.map PyData.str) H) → σ[2]? = some (some (.ref sg)) → MkD K σ Pr (tOp (rIxL K) (tVar 2) (tUn (rU fun i => .int (-i)) (tC (.int 1)))) (.str sl) := fun g h => mk_lastL (ds := si.map PyData.str) (mkr_var h fun _ q => by
      have := (g _ q).sg
      rw [hss, List.map_append] at this
      exact this)
    have lO : ∀ {σ : L2.St} {L : Addr} {cur : List PyData}, σ[17]? = some (some (.ref L)) → MkR K σ (fun H => PR K sg vm vl vn vs va vh vr (M.map rmD) l dn dw a h r (ss.map PyData.str) H ∧ ∃ ws, H L = some (.lst ws) ∧ DpAll K H ws cur) (tVar 17) cur := fun h => mkr_var h fun _ q => q.2
    refine sqR (K := K) (Pre := PR K sg vm vl vn vs va vh vr (M.map rmD) l dn dw a h r (ss.map PyData.str)) (ds := oR1 b l) ((mkl_lst (Nat.le_of_ble_eq_true rfl) (mk_cons SP (mk_tup (Nat.le_of_ble_eq_true rfl) (mk_cons SP (vI rfl) (mk_cons SP (vL (fun _ q => q) rfl) mk_nil))) (mk_cons SP (mk_tup (Nat.le_of_ble_eq_true rfl) (mk_cons SP mk_non (mk_cons SP (vL (fun _ q => q) rfl) mk_nil))) (mk_cons SP (mk_tup (Nat.le_of_ble_eq_true rfl) (mk_cons SP (vE rfl) mk_nil)) (mk_cons SP (mk_tup (Nat.le_of_ble_eq_true rfl) (mk_cons SP (vE rfl) (mk_cons SP (vL (fun _ q => q) rfl) (mk_cons SP (mk_tup (Nat.le_of_ble_eq_true rfl) mk_nil) mk_nil)))) (mk_cons SP (mk_tup (Nat.le_of_ble_eq_true rfl) (mk_cons SP (vE rfl) (mk_cons SP (mkl_listOf (vL (fun _ q => q) rfl)).r.d mk_nil))) (mk_cons SP (mk_lst (Nat.le_of_ble_eq_true rfl) (mk_cons SP (vE rfl) (mk_cons SP (vL (fun _ q => q) rfl) mk_nil))) (mk_cons SP mk_non (mk_cons SP mk_int mk_nil)))))))))).r s1 hP fun G1 H2 Lq1 ws1 g1 hL1 hd1 => ?_
    have P1 := SP hP g1.gg
    have n1 := g1.noP p1 nG
    have p2 := p1.same g1.hh
    have c1 := b1.trans (.of g1.hh)
    refine sqR (K := K) (Pre := fun H => PR K sg vm vl vn vs va vh vr (M.map rmD) l dn dw a h r (ss.map PyData.str) H ∧ ∃ ws, H Lq1 = some (.lst ws) ∧ DpAll K H ws (oR1 b l)) (ds := (oR1 b l ++ oR2 b l sl dw dn)) (mkl_cat SL' (by show 8 + 3 ≤ 1000; omega) (lO rfl) (mkl_lst (Nat.le_of_ble_eq_true rfl) (mk_cons SL' (mk_tup (Nat.le_of_ble_eq_true rfl) (mk_cons SL' (vE rfl) (mk_cons SL' (mk_catT SL' (by simp only [List.length_append, List.length_cons, List.length_nil, List.length_take, List.length_drop]; omega) (vL (fun _ q => q.1) rfl) (mk_tup (Nat.le_of_ble_eq_true rfl) (mk_cons SL' (mk_tup (Nat.le_of_ble_eq_true rfl) (mk_cons SL' (vLast (fun _ q => q.1) rfl) (mk_cons SL' mk_int mk_nil))) mk_nil))) mk_nil))) (mk_cons SL' (mk_tup (Nat.le_of_ble_eq_true rfl) (mk_cons SL' (vE rfl) (mk_cons SL' (mk_catT SL' (by simp only [List.length_append, List.length_cons, List.length_nil, List.length_take, List.length_drop]; omega) (mk_tup (Nat.le_of_ble_eq_true rfl) (mk_cons SL' (mk_tup (Nat.le_of_ble_eq_true rfl) (mk_cons SL' (vS (fun _ q => q.1) rfl) (mk_cons SL' mk_int mk_nil))) mk_nil)) (vL (fun _ q => q.1) rfl)) mk_nil))) (mk_cons SL' (mk_tup (Nat.le_of_ble_eq_true rfl) (mk_cons SL' (vE rfl) (mk_cons SL' (mk_catT SL' (by simp only [List.length_append, List.length_cons, List.length_nil, List.length_take, List.length_drop]; omega) (vL (fun _ q => q.1) rfl) (mk_tup (Nat.le_of_ble_eq_true rfl) (mk_cons SL' (mk_tup (Nat.le_of_ble_eq_true rfl) (mk_cons SL' mk_str (mk_cons SL' (vN (fun _ q => q.1) rfl) mk_nil))) mk_nil))) mk_nil))) mk_nil)))).r).r g1.gh ⟨P1, _, hL1, hd1⟩ fun G2 H3 Lq2 ws2 g2 hL2 hd2 => ?_
    have P2 := SP P1 g2.gg
    have n2 := g2.noP p2 n1
    have p3 := p2.same g2.hh
    have c2 := c1.trans (.of g2.hh)
    refine sqR (K := K) (Pre := fun H => PR K sg vm vl vn vs va vh vr (M.map rmD) l dn dw a h r (ss.map PyData.str) H ∧ ∃ ws, H Lq2 = some (.lst ws) ∧ DpAll K H ws ((oR1 b l ++ oR2 b l sl dw dn))) (ds := ((oR1 b l ++ oR2 b l sl dw dn) ++ oR3 b l)) (mkl_cat SL' (by show 11 + 4 ≤ 1000; omega) (lO rfl) (mkl_lst (Nat.le_of_ble_eq_true rfl) (mk_cons SL' (mk_tup (Nat.le_of_ble_eq_true rfl) (mk_cons SL' (vE rfl) (mk_cons SL' (mk_rev (vL (fun _ q => q.1) rfl)) mk_nil))) (mk_cons SL' (mk_tup (Nat.le_of_ble_eq_true rfl) (mk_cons SL' (vE rfl) (mk_cons SL' (mk_catT SL' (by simp only [List.length_append, List.length_cons, List.length_nil, List.length_take, List.length_drop]; omega) (vL (fun _ q => q.1) rfl) (mk_tup (Nat.le_of_ble_eq_true rfl) (mk_cons SL' (mk_tup (Nat.le_of_ble_eq_true rfl) (mk_cons SL' mk_str mk_nil)) mk_nil))) mk_nil))) (mk_cons SL' (mk_tup (Nat.le_of_ble_eq_true rfl) (mk_cons SL' (vE rfl) (mk_cons SL' (mk_catT SL' (by simp only [List.length_append, List.length_cons, List.length_nil, List.length_take, List.length_drop]; omega) (vL (fun _ q => q.1) rfl) (mk_tup (Nat.le_of_ble_eq_true rfl) (mk_cons SL' (mk_lst (Nat.le_of_ble_eq_true rfl) (mk_cons SL' mk_str (mk_cons SL' mk_int mk_nil))) mk_nil))) mk_nil))) (mk_cons SL' (mk_tup (Nat.le_of_ble_eq_true rfl) (mk_cons SL' (vNot rfl) (mk_cons SL' (vL (fun _ q => q.1) rfl) mk_nil))) mk_nil))))).r).r g2.gh ⟨P2, _, hL2, hd2⟩ fun G3 H4 Lq3 ws3 g3 hL3 hd3 => ?_
    have P3 := SP P2 g3.gg
    have n3 := g3.noP p3 n2
    have p4 := p3.same g3.hh
    have c3 := c2.trans (.of g3.hh)
    refine sqR (K := K) (Pre := fun H => PR K sg vm vl vn vs va vh vr (M.map rmD) l dn dw a h r (ss.map PyData.str) H ∧ ∃ ws, H Lq3 = some (.lst ws) ∧ DpAll K H ws (((oR1 b l ++ oR2 b l sl dw dn) ++ oR3 b l))) (ds := (((oR1 b l ++ oR2 b l sl dw dn) ++ oR3 b l) ++ oR4 b l)) (mkl_cat SL' (by show 15 + 4 ≤ 1000; omega) (lO rfl) (mkl_lst (Nat.le_of_ble_eq_true rfl) (mk_cons SL' (mk_tup (Nat.le_of_ble_eq_true rfl) (mk_cons SL' (vE rfl) (mk_cons SL' (mk_catT SL' (by simp only [List.length_append, List.length_cons, List.length_nil, List.length_take, List.length_drop]; omega) (vL (fun _ q => q.1) rfl) (mk_tup (Nat.le_of_ble_eq_true rfl) (mk_cons SL' (mk_tup (Nat.le_of_ble_eq_true rfl) (mk_cons SL' mk_str (mk_cons SL' mk_int mk_nil))) mk_nil))) mk_nil))) (mk_cons SL' (mk_tup (Nat.le_of_ble_eq_true rfl) (mk_cons SL' (vE rfl) (mk_cons SL' (mk_tup (Nat.le_of_ble_eq_true rfl) mk_nil) mk_nil))) (mk_cons SL' (mk_tup (Nat.le_of_ble_eq_true rfl) (mk_cons SL' mk_bl (mk_cons SL' (vL (fun _ q => q.1) rfl) mk_nil))) (mk_cons SL' (mk_tup (Nat.le_of_ble_eq_true rfl) (mk_cons SL' (vE rfl) (mk_cons SL' (mk_catT SL' (by simp only [List.length_append, List.length_cons, List.length_nil, List.length_take, List.length_drop]; omega) (vL (fun _ q => q.1) rfl) (mk_tup (Nat.le_of_ble_eq_true rfl) (mk_cons SL' (mk_tup (Nat.le_of_ble_eq_true rfl) (mk_cons SL' mk_str (mk_cons SL' mk_int (mk_cons SL' mk_int mk_nil)))) mk_nil))) mk_nil))) mk_nil))))).r).r g3.gh ⟨P3, _, hL3, hd3⟩ fun G4 H5 Lq4 ws4 g4 hL4 hd4 => ?_
    have P4 := SP P3 g4.gg
    have n4 := g4.noP p4 n3
    have p5 := p4.same g4.hh
    have c4 := c3.trans (.of g4.hh)
    refine sqR (K := K) (Pre := fun H => PR K sg vm vl vn vs va vh vr (M.map rmD) l dn dw a h r (ss.map PyData.str) H ∧ ∃ ws, H Lq4 = some (.lst ws) ∧ DpAll K H ws ((((oR1 b l ++ oR2 b l sl dw dn) ++ oR3 b l) ++ oR4 b l))) (ds := ((((oR1 b l ++ oR2 b l sl dw dn) ++ oR3 b l) ++ oR4 b l) ++ oR5 b h r dw dn one (there : Int))) (mkl_cat SL' (by show 19 + 2 ≤ 1000; omega) (lO rfl) (mkl_lst (Nat.le_of_ble_eq_true rfl) (mk_cons SL' (mk_tup (Nat.le_of_ble_eq_true rfl) (mk_cons SL' (vE rfl) (mk_cons SL' (mk_catT SL' (by simp only [List.length_append, List.length_cons, List.length_nil, List.length_take, List.length_drop]; omega) (mk_catT SL' (by simp only [List.length_append, List.length_cons, List.length_nil, List.length_take, List.length_drop]; omega) (vH (fun _ q => q.1) rfl) (mk_tup (Nat.le_of_ble_eq_true rfl) (mk_cons SL' (mk_tup (Nat.le_of_ble_eq_true rfl) (mk_cons SL' (vS (fun _ q => q.1) rfl) (mk_cons SL' (vT rfl) mk_nil))) mk_nil))) (vR (fun _ q => q.1) rfl)) mk_nil))) (mk_cons SL' (mk_tup (Nat.le_of_ble_eq_true rfl) (mk_cons SL' (vE rfl) (mk_cons SL' (mk_catT SL' (by simp only [List.length_append, List.length_cons, List.length_nil, List.length_take, List.length_drop]; omega) (mk_catT SL' (by simp only [List.length_append, List.length_cons, List.length_nil, List.length_take, List.length_drop]; omega) (vH (fun _ q => q.1) rfl) (mk_tup (Nat.le_of_ble_eq_true rfl) (mk_cons SL' (mk_tup (Nat.le_of_ble_eq_true rfl) (mk_cons SL' (vO rfl) (mk_cons SL' (vN (fun _ q => q.1) rfl) mk_nil))) mk_nil))) (vR (fun _ q => q.1) rfl)) mk_nil))) mk_nil))).r).r g4.gh ⟨P4, _, hL4, hd4⟩ fun G5 H6 Lq5 ws5 g5 hL5 hd5 => ?_
    have P5 := SP P4 g5.gg
    have n5 := g5.noP p5 n4
    have p6 := p5.same g5.hh
    have c5 := c4.trans (.of g5.hh)
    refine sqR (K := K) (Pre := fun H => PR K sg vm vl vn vs va vh vr (M.map rmD) l dn dw a h r (ss.map PyData.str) H ∧ ∃ ws, H Lq5 = some (.lst ws) ∧ DpAll K H ws (((((oR1 b l ++ oR2 b l sl dw dn) ++ oR3 b l) ++ oR4 b l) ++ oR5 b h r dw dn one (there : Int)))) (ds := (((((oR1 b l ++ oR2 b l sl dw dn) ++ oR3 b l) ++ oR4 b l) ++ oR5 b h r dw dn one (there : Int)) ++ oR6 b h r one (there : Int))) (mkl_cat SL' (by show 21 + 1 ≤ 1000; omega) (lO rfl) (mkl_lst (Nat.le_of_ble_eq_true rfl) (mk_cons SL' (mk_tup (Nat.le_of_ble_eq_true rfl) (mk_cons SL' (vE rfl) (mk_cons SL' (mk_catT SL' (by simp only [List.length_append, List.length_cons, List.length_nil, List.length_take, List.length_drop]; omega) (mk_catT SL' (by simp only [List.length_append, List.length_cons, List.length_nil, List.length_take, List.length_drop]; omega) (vH (fun _ q => q.1) rfl) (mk_tup (Nat.le_of_ble_eq_true rfl) (mk_cons SL' (mk_lst (Nat.le_of_ble_eq_true rfl) (mk_cons SL' (vO rfl) (mk_cons SL' (vT rfl) mk_nil))) mk_nil))) (vR (fun _ q => q.1) rfl)) mk_nil))) mk_nil)).r).r g5.gh ⟨P5, _, hL5, hd5⟩ fun G6 H7 Lq6 ws6 g6 hL6 hd6 => ?_
    have P6 := SP P5 g6.gg
    have n6 := g6.noP p6 n5
    have p7 := p6.same g6.hh
    have c6 := c5.trans (.of g6.hh)
    refine sqR (K := K) (Pre := fun H => PR K sg vm vl vn vs va vh vr (M.map rmD) l dn dw a h r (ss.map PyData.str) H ∧ ∃ ws, H Lq6 = some (.lst ws) ∧ DpAll K H ws ((((((oR1 b l ++ oR2 b l sl dw dn) ++ oR3 b l) ++ oR4 b l) ++ oR5 b h r dw dn one (there : Int)) ++ oR6 b h r one (there : Int)))) (ds := ((((((oR1 b l ++ oR2 b l sl dw dn) ++ oR3 b l) ++ oR4 b l) ++ oR5 b h r dw dn one (there : Int)) ++ oR6 b h r one (there : Int)) ++ oR7 b h r x)) (mkl_cat SL' (by show 22 + 1 ≤ 1000; omega) (lO rfl) (mkl_lst (Nat.le_of_ble_eq_true rfl) (mk_cons SL' (mk_tup (Nat.le_of_ble_eq_true rfl) (mk_cons SL' (vE rfl) (mk_cons SL' (mk_catT SL' (by simp only [List.length_append, List.length_cons, List.length_nil, List.length_take, List.length_drop]; omega) (mk_catT SL' (by simp only [List.length_append, List.length_cons, List.length_nil, List.length_take, List.length_drop]; omega) (mk_catT SL' (by simp only [List.length_append, List.length_cons, List.length_nil, List.length_take, List.length_drop]; omega) (vH (fun _ q => q.1) rfl) (mk_takeT (n := 1) SL' (vR (fun _ q => q.1) rfl) mk_int)) (mk_tup (Nat.le_of_ble_eq_true rfl) (mk_cons SL' (mk_ixT SL' (vA (fun _ q => q.1) rfl) (vSp rfl) (j := spot) rfl hax) mk_nil))) (mk_dropT (n := 1) SL' (vR (fun _ q => q.1) rfl) mk_int)) mk_nil))) mk_nil)).r).r g6.gh ⟨P6, _, hL6, hd6⟩ fun G7 H8 Lq7 ws7 g7 hL7 hd7 => ?_
    have P7 := SP P6 g7.gg
    have n7 := g7.noP p7 n6
    have p8 := p7.same g7.hh
    have c7 := c6.trans (.of g7.hh)
    refine sqR (K := K) (Pre := fun H => PR K sg vm vl vn vs va vh vr (M.map rmD) l dn dw a h r (ss.map PyData.str) H ∧ ∃ ws, H Lq7 = some (.lst ws) ∧ DpAll K H ws (((((((oR1 b l ++ oR2 b l sl dw dn) ++ oR3 b l) ++ oR4 b l) ++ oR5 b h r dw dn one (there : Int)) ++ oR6 b h r one (there : Int)) ++ oR7 b h r x))) (ds := (((((((oR1 b l ++ oR2 b l sl dw dn) ++ oR3 b l) ++ oR4 b l) ++ oR5 b h r dw dn one (there : Int)) ++ oR6 b h r one (there : Int)) ++ oR7 b h r x) ++ oR8 b h r one (there : Int))) (mkl_cat SL' (by show 23 + 2 ≤ 1000; omega) (lO rfl) (mkl_lst (Nat.le_of_ble_eq_true rfl) (mk_cons SL' (mk_tup (Nat.le_of_ble_eq_true rfl) (mk_cons SL' (vE rfl) (mk_cons SL' (mk_catT SL' (by simp only [List.length_append, List.length_cons, List.length_nil, List.length_take, List.length_drop]; omega) (mk_catT SL' (by simp only [List.length_append, List.length_cons, List.length_nil, List.length_take, List.length_drop]; omega) (vH (fun _ q => q.1) rfl) (mk_tup (Nat.le_of_ble_eq_true rfl) (mk_cons SL' (mk_tup (Nat.le_of_ble_eq_true rfl) (mk_cons SL' (vO rfl) (mk_cons SL' (vT rfl) (mk_cons SL' (vT rfl) mk_nil)))) mk_nil))) (vR (fun _ q => q.1) rfl)) mk_nil))) (mk_cons SL' (mk_tup (Nat.le_of_ble_eq_true rfl) (mk_cons SL' (vE rfl) (mk_cons SL' (mk_catT SL' (by simp only [List.length_append, List.length_cons, List.length_nil, List.length_take, List.length_drop]; omega) (mk_catT SL' (by simp only [List.length_append, List.length_cons, List.length_nil, List.length_take, List.length_drop]; omega) (vH (fun _ q => q.1) rfl) (mk_tup (Nat.le_of_ble_eq_true rfl) (mk_cons SL' (mk_tup (Nat.le_of_ble_eq_true rfl) (mk_cons SL' (vO rfl) mk_nil)) mk_nil))) (vR (fun _ q => q.1) rfl)) mk_nil))) mk_nil))).r).r g7.gh ⟨P7, _, hL7, hd7⟩ fun G8 H9 Lq8 ws8 g8 hL8 hd8 => ?_
    have P8 := SP P7 g8.gg
    have n8 := g8.noP p8 n7
    have p9 := p8.same g8.hh
    have c8 := c7.trans (.of g8.hh)
    have hcur : (((((((oR1 b l ++ oR2 b l sl dw dn) ++ oR3 b l) ++ oR4 b l) ++ oR5 b h r dw dn one (there : Int)) ++ oR6 b h r one (there : Int)) ++ oR7 b h r x) ++ oR8 b h r one (there : Int)) = oAll b l h r sl one dw dn x (there : Int) := rfl
    rw [hcur] at hd8
    have gall := oAll_gd (b := b) hl hh hrr (s := sl) (o := one) ⟨(sg_ok hsl).1, by have := (sg_ok hsl).2; omega⟩ ⟨hone, honel⟩ hdw hdn (a := x) hx (t := (there : Int)) ⟨by omega, by omega⟩
    have hol : (oAll b l h r sl one dw dn x (there : Int)).length = 25 := rfl
    generalize oAll b l h r sl one dw dn x (there : Int) = cur at hd8 gall hol
    have P8' : PR K sg vm vl vn vs va vh vr (M.map rmD) l dn dw a h r (ss.map PyData.str) G8 ∧ ∃ ws, G8 Lq8 = some (.lst ws) ∧ DpAll K G8 ws cur := ⟨P8, _, hL8, hd8⟩
    have hwl := dpsLen hd8
    have SLc : Stay fun H => PR K sg vm vl vn vs va vh vr (M.map rmD) l dn dw a h r (ss.map PyData.str) H ∧ ∃ ws, H Lq8 = some (.lst ws) ∧ DpAll K H ws cur := stay_and PR.stay stay_ls
    refine sq_take (m := 29) (fun Q q => ⟨_, rfl, Lq8, _, rfl, .inl (sL (g8.gh _ _ hL8)), _, _, rfl, rfl, by rw [hwl, hol]; exact q⟩) (by decide) (by decide) rfl p9 fun H10 j hj b10 p10 => ?_
    have s10 := takeS g8.gh n8 b10
    have c10 := c8.trans b10
    have hM6 := mgd.le
    have gm := gd_tup' mgd.gd
    refine ⟨_, rfl, _, rfl, Lq8, _, rfl, .inl (sL (s10 _ _ hL8)), _, _, rfl, rfl, _, rfl, ?_⟩
    rw [hwl, hol]
    have vW : ∀ {σ : L2.St} {Pr : Hp → Prop}, σ[18]? = some (some (.int (j : Int))) → MkD K σ Pr (tVar 18) (.int (j : Int)) := fun h => mk_var h fun _ _ => .int _
    have vAt : ∀ {σ : L2.St} {Pr : Hp → Prop}, σ[3]? = some (some (.int (at_ : Int))) → MkD K σ Pr (tVar 3) (.int (at_ : Int)) := fun h => mk_var h fun _ _ => .int _
    have fin : ∀ (d : PyData) (te : TE), Gd d 250 12 → MkD K [some (.ref pen), some vm, some (.ref sg), some (.int (at_ : Int)), some (.bl b), some vl, some vn, o7, o8, o9, some vs, some va, some (.int (spot : Int)), some vh, some vr, some (.str one), some (.int (there : Int)), some (.ref Lq8), some (.int (j : Int))] (fun H => PR K sg vm vl vn vs va vh vr (M.map rmD) l dn dw a h r (ss.map PyData.str) H ∧ ∃ ws, H Lq8 = some (.lst ws) ∧ DpAll K H ws cur) te d →
        tRet te { nx := fun _ H' => Q .non H', rt := Q } [some (.ref pen), some vm, some (.ref sg), some (.int (at_ : Int)), some (.bl b), some vl, some vn, o7, o8, o9, some vs, some va, some (.int (spot : Int)), some vh, some vr, some (.str one), some (.int (there : Int)), some (.ref Lq8), some (.int (j : Int))] H10 := fun d te hg m => m G8 H10 _ s10 P8' fun G' H' v g hv => k H' G' v d (c10.trans (.of g.hh)) (p10.same g.hh) g.gh (g.noP p10 n8) hv hg
    have lM : (M.map rmD).length ≤ 6 := by rw [List.length_map]; exact hM6
    refine ite2 (fun hlt => ?_) (fun hlt => ?_)
    · have hj25 : j < 25 := by have := of_decide_eq_true hlt; omega
      obtain ⟨dr, hdr⟩ : ∃ dr, cur[j]? = some dr := ⟨_, List.getElem?_eq_getElem (by omega)⟩
      have gr := gall dr (List.mem_of_getElem? hdr)
      refine fin (.tuple (((M.map rmD).take at_ ++ [dr]) ++ (M.map rmD).drop (at_ + 1))) _ ?_ (mk_catT SLc (by simp only [List.length_append, List.length_cons, List.length_nil, List.length_take, List.length_drop]; omega) (mk_catT SLc (by simp only [List.length_cons, List.length_nil, List.length_take]; omega) (mk_takeT SLc (vM (fun _ q => q.1) rfl) (vAt rfl)) (mk_tup (Nat.le_of_ble_eq_true rfl) (mk_cons SLc (mk_ixL SLc (mkr_var rfl fun _ q => q.2) (vW rfl) rfl hdr) mk_nil))) (mk_dropT (n := at_ + 1) SLc (vM (fun _ q => q.1) rfl) (mk_i0 SLc (vAt rfl) mk_int)))
      have q1 := ls_sub (List.take_sublist at_ _) gm.1
      have q2 := ls_sub (List.drop_sublist (at_ + 1) _) gm.1
      exact (gd_tup (ls_app (ls_app (q1.mono (Nat.le_refl 73) (show 4 ≤ 11 by decide)) (g_one (gr.mono (Nat.le_refl 54) (show 6 ≤ 11 by decide)))) (q2.mono (Nat.le_refl 73) (show 4 ≤ 11 by decide))) (by simp only [List.length_append, List.length_cons, List.length_nil, List.length_take, List.length_drop]; omega)).mono (by omega) (by omega)
    · have hj25 : 25 ≤ j := by
        by_cases q : j < 25
        · exact absurd (decide_eq_true (by omega)) hlt
        · omega
      obtain ⟨jj, hjj, hj4⟩ : ∃ jj : Nat, (j : Int) - 25 = (jj : Int) ∧ jj < 4 := ⟨j - 25, by omega, by omega⟩
      have four : ∀ d, d ∈ ([.list (M.map rmD), .tuple (M.map rmD ++ [rmX true []]), .tuple ((M.map rmD).take ((M.map rmD).length - 1)), .tuple (M.map rmD ++ M.map rmD)] : List PyData) → Gd d 250 12 := fun d hd => by
        simp only [List.mem_cons, List.not_mem_nil, or_false] at hd
        have m4 := gm.1.mono (Nat.le_refl 73) (show 4 ≤ 11 by decide)
        rcases hd with rfl | rfl | rfl | rfl
        · exact (gd_lst m4 (by omega)).mono (by omega) (by omega)
        · exact (gd_tup (ls_app m4 (g_one ((g_rm (b := true) (ls_nil (e := 3)) (by omega)).mono (Nat.le_refl 54) (show 6 ≤ 11 by decide)))) (by simp only [List.length_append, List.length_cons, List.length_nil]; omega)).mono (by omega) (by omega)
        · exact (gd_tup (ls_sub (List.take_sublist _ _) m4) (by simp only [List.length_take]; omega)).mono (by omega) (by omega)
        · exact (gd_tup (ls_app m4 m4) (by simp only [List.length_append]; omega)).mono (by omega) (by omega)
      obtain ⟨dr, hdr⟩ : ∃ dr, ([.list (M.map rmD), .tuple (M.map rmD ++ [rmX true []]), .tuple ((M.map rmD).take ((M.map rmD).length - 1)), .tuple (M.map rmD ++ M.map rmD)] : List PyData)[jj]? = some dr := ⟨_, List.getElem?_eq_getElem (by show jj < 4; exact hj4)⟩
      have hm0 : 0 < (M.map rmD).length := by rw [List.length_map]; exact mgd.pos
      refine fin dr _ (four dr (List.mem_of_getElem? hdr)) (mk_ixL (i := (j : Int) - (cur.length : Int)) (j := jj) SLc (mkl_lst (Nat.le_of_ble_eq_true rfl) (mk_cons SLc (mkl_listOf (vM (fun _ q => q.1) rfl)).r.d (mk_cons SLc (mk_catT SLc (by simp only [List.length_cons, List.length_nil]; omega) (vM (fun _ q => q.1) rfl) (mk_tup (Nat.le_of_ble_eq_true rfl) (mk_cons SLc (mk_tup (Nat.le_of_ble_eq_true rfl) (mk_cons SLc mk_bl (mk_cons SLc (mk_tup (Nat.le_of_ble_eq_true rfl) mk_nil) mk_nil))) mk_nil))) (mk_cons SLc (mk_butLastT hm0 (vM (fun _ q => q.1) rfl)) (mk_cons SLc (mk_catT SLc (by omega) (vM (fun _ q => q.1) rfl) (vM (fun _ q => q.1) rfl)) mk_nil))))).r (mk_i0 SLc (vW rfl) (mk_lenL (mkr_var rfl fun _ q => q.2))) (by rw [hol]; exact hjj) hdr)
  -- behind amid
  obtain ⟨t8, h8, f8⟩ : ∃ t8, PSs (cxOf CX0 P w K mg base n_law_e_odd "_law_e_odd" (defScope s_law_e_odd) f cdv A outer s H E).nox ((defBody s_law_e_odd).drop 8) t8 ∧
      ∀ (G H1 : Hp) (at_ : Nat) (b : Bool) (vl vn vs va : V) (l : List PyData) (A : List Stp) (dn dw : PyData) (o7 o8 o9 : Option V), Same G H1 → G pen = none → But pen H H1 → PenAt H1 pen sp → Dp K G vm (.tuple (M.map rmD)) → Dp K G vl (.tuple l) → Dp K G vn dn → Dp K G vs dw → Dp K G va (.tuple (A.map stD)) → G sg = some (.lst (ss.map V.str)) →
        at_ < M.length → Ls l 9 1 → 0 < A.length → A.length ≤ 3 → (∀ p, p ∈ A → PyData.strOk p.1 = true ∧ p.1.length ≤ 9 ∧ p.2 ≤ 201) → Gd dn 3 2 → Gd dw 3 2 →
        t8 { nx := fun _ H' => Q .non H', rt := Q } [some (.ref pen), some vm, some (.ref sg), some (.int (at_ : Int)), some (.bl b), some vl, some vn, o7, o8, o9, some vs, some va, none, none, none, none, none, none, none] H1 := by
    refine ⟨_, (pss_cons (ps_set (i := 12) sc_law_e_odd.nd rfl (Or.inl rfl) (pe_callD d__law_e_take (hr.mono (by decide)) rfl (pa_cons (pv 0) (pa_cons (pe_callB call_len_seq (by rfl) b_len PySem.boot_len (pa_cons (pv 11) pa_nil)) pa_nil))))
    (pss_cons (ps_par (i := 13) (j := 14) rfl sc_law_e_odd.nd rfl rfl (by decide) rfl rfl (pa_cons (pe_slice sl_tupA (pv 11) po_none (po_some (pv 12))) (pa_cons (pe_slice sl_tupA (pv 11) (po_some (pe_op op_add (pv 12) pe_int)) po_none) pa_nil)) (by rfl))
    (pss_cons (ps_asg (pe_ix ix_tup (pv 11) (pv 12) (fun _ _ => rfl)) (pg_tup rfl (pgs_cons (pg_name (i := 15) sc_law_e_odd.nd rfl (Or.inl rfl)) (pgs_cons (pg_name (i := 16) sc_law_e_odd.nd rfl (Or.inl rfl)) pgs_nil)))) h2))), ?_⟩
    intro G H1 at_ b vl vn vs va l A dn dw o7 o8 o9 s1 nG b1 p1 hm hl hn hs ha hg hat hll hA0 hA3 hAp hdn hdw
    obtain ⟨aa, avs, rfl, hav, havs⟩ := dpTup ha
    have hal := dpsLen havs
    rw [List.length_map] at hal
    refine sq_take (m := A.length) (fun Q q => ⟨_, rfl, aa, avs, rfl, .inr (s1.sqT hav), by rw [hal]; exact q⟩) hA0 (by omega) rfl p1 fun H2 spot hsp b2 p2 => ?_
    have s2 := takeS s1 nG b2
    have c2 := b1.trans b2
    have vA : ∀ {σ : L2.St}, σ[11]? = some (some (.ref aa)) → MkD K σ (fun H => Dp K H (.ref aa) (.tuple (A.map stD))) (tVar 11) (.tuple (A.map stD)) := fun h => mk_var h fun _ q => q
    have vSp : ∀ {σ : L2.St} {Pr : Hp → Prop}, σ[12]? = some (some (.int (spot : Int))) → MkD K σ Pr (tVar 12) (.int (spot : Int)) := fun h => mk_var h fun _ _ => .int _
    have vS1 : ∀ {σ : L2.St}, σ[12]? = some (some (.int (spot : Int))) → MkD K σ (fun H => Dp K H (.ref aa) (.tuple (A.map stD))) (tOp (rI0 fun i j => V.int (i + j)) (tVar 12) (tC (V.int 1))) (.int ((spot + 1 : Nat) : Int)) := fun h => mk_i0 (g := fun i j => i + j) stay_dp (vSp h) mk_int
    refine sq_par (K := K) (Pre := fun H => Dp K H (.ref aa) (.tuple (A.map stD))) (d1 := .tuple ((A.map stD).take spot)) (d2 := .tuple ((A.map stD).drop (spot + 1))) (mk_cons stay_dp (mk_takeT (n := spot) stay_dp (vA rfl) (vSp rfl)) (mk_cons stay_dp (mk_dropT (n := spot + 1) stay_dp (vA rfl) (vS1 rfl)) mk_nil)) s2 ha fun G3 H3 v1 v2 g3 hv1 hv2 => ?_
    have n3 := g3.noP p2 nG
    have havs3 := dpsS g3.gg havs
    obtain ⟨p, hp⟩ : ∃ p, A[spot]? = some p := ⟨_, List.getElem?_eq_getElem hsp⟩
    obtain ⟨vx, hvx, hvxd⟩ := dpsAt havs3 (i := spot) (d := stD p) (by rw [List.getElem?_map, hp]; rfl)
    obtain ⟨xa, rfl, hxa⟩ := stAt hvxd
    refine ⟨_, rfl, _, rfl, aa, avs, _, _, rfl, rfl, g3.gh.sqT (g3.gg.sqT hav), atI_nat hvx, xa, _, rfl, g3.gh.sqT hxa, rfl, _, _, rfl, _, _, rfl, rfl, ?_⟩
    have lsA : Ls (A.map stD) 9 1 := (gd_sts (c := 3) hAp hA3).mono (by decide) (Nat.le_refl _)
    obtain ⟨hp1, hp2, hp3⟩ := hAp p (List.mem_of_getElem? hp)
    have hl' := lsA
    exact f2 G3 H3 at_ b vl vn vs (.ref aa) v1 v2 l [] dn dw (A.map stD) ((A.map stD).take spot) ((A.map stD).drop (spot + 1)) p.1 p.2 spot (stD p) o7 o8 o9 g3.gh n3 (c2.trans (.of g3.hh)) (p2.same g3.hh)
      ⟨dpS g3.gg hm, dpS g3.gg hl, dpS g3.gg hn, dpS g3.gg hs, dpS g3.gg ha, hv1, hv2, _, g3.gg _ _ hg, dpStrs ss⟩ hat hll (ls_sub (List.take_sublist _ _) lsA) (ls_sub (List.drop_sublist _ _) lsA) (by rw [List.getElem?_map, hp]; rfl) (ls_mem lsA (List.mem_map.mpr ⟨p, List.mem_of_getElem? hp, rfl⟩)) hp1 hp2 hp3 hdn hdw
  refine ⟨_, (pss_cons (ps_set (i := 3) sc_law_e_odd.nd rfl (Or.inl rfl) (pe_callD d__law_e_take (hr.mono (by decide)) rfl (pa_cons (pv 0) (pa_cons (pe_callB call_len_seq (by rfl) b_len PySem.boot_len (pa_cons (pv 1) pa_nil)) pa_nil))))
    (pss_cons (ps_asg (pe_ix ix_tup (pv 1) (pv 3) (fun _ _ => rfl)) (pg_tup rfl (pgs_cons (pg_name (i := 4) sc_law_e_odd.nd rfl (Or.inl rfl)) (pgs_cons (pg_name (i := 5) sc_law_e_odd.nd rfl (Or.inl rfl)) pgs_nil))))
    (pss_cons (ps_set (i := 6) sc_law_e_odd.nd rfl (Or.inl rfl) (pe_ix ix_list (pe_lst (pa_cons (pe_un un_neg pe_int) (pa_cons (pe_callB call_len_seq (by rfl) b_len PySem.boot_len (pa_cons (pv 1) pa_nil)) (pa_cons pe_non (pa_cons pe_bl (pa_cons pe_str (pa_cons (pe_op op_pow pe_int pe_int) (pa_cons (pe_tup (pa_cons pe_int pa_nil)) (pa_cons (pe_lst (pa_cons pe_int pa_nil)) pa_nil))))))))) (pe_callD d__law_e_take (hr.mono (by decide)) rfl (pa_cons (pv 0) (pa_cons pe_int pa_nil))) (fun _ _ => rfl)))
    (pss_cons (ps_set (i := 7) sc_law_e_odd.nd rfl (Or.inl rfl) pe_str)
    (pss_cons (ps_set (i := 8) sc_law_e_odd.nd rfl (Or.inl rfl) (pe_ix ix_str (pv 7) (pe_callD d__law_e_take (hr.mono (by decide)) rfl (pa_cons (pv 0) (pa_cons (pe_callB call_len_str (by rfl) b_len PySem.boot_len (pa_cons (pv 7) pa_nil)) pa_nil))) (fun _ _ => rfl)))
    (pss_cons (ps_set (i := 9) sc_law_e_odd.nd rfl (Or.inl rfl) (pe_lst (pa_cons pe_str (pa_cons (pv 8) (pa_cons pe_str (pa_cons (pe_op op_add_str (pe_op op_add_str pe_str (pv 8)) pe_str) (pa_cons (pe_op op_add_str pe_str (pv 8)) (pa_cons (pe_op op_add_str (pv 8) pe_str) (pa_cons pe_int (pa_cons pe_non (pa_cons (pe_tup (pa_cons pe_str pa_nil)) (pa_cons (pe_lst (pa_cons pe_str pa_nil)) pa_nil))))))))))))
    (pss_cons (ps_set (i := 10) sc_law_e_odd.nd rfl (Or.inl rfl) (pe_ix ix_list (pv 9) (pe_callD d__law_e_take (hr.mono (by decide)) rfl (pa_cons (pv 0) (pa_cons pe_int pa_nil))) (fun _ _ => rfl)))
    (pss_cons (ps_set (i := 11) sc_law_e_odd.nd rfl (Or.inl rfl) (pe_ifExp (pt_cmpR (op_neD hr.units) (pv 5) (pe_tup pa_nil) (nomark _)) (pv 5) (pe_tup (pa_cons (pe_tup (pa_cons pe_str (pa_cons pe_int pa_nil))) pa_nil))))
    h8)))))))), ?_⟩
  have s0 : Same (remP pen H) H := remP_same
  have n0 : remP pen H pen = none := remP_none
  have hv0 : Dp K (remP pen H) vm (.tuple (M.map rmD)) := p0.dp remP_but (noL_ma M) hvm
  have hsg0 : remP pen H sg = some (.lst (ss.map V.str)) := p0.strs remP_but hsg
  generalize remP pen H = G0 at s0 n0 hv0 hsg0
  obtain ⟨ma, rs, rfl, hma, hrs⟩ := dpTup hv0
  have hlen := dpsLen hrs
  rw [List.length_map] at hlen
  have hM6 := mgd.le
  refine sq_take (m := M.length) (fun Q q => ⟨_, rfl, ma, rs, rfl, .inr (s0.sqT hma), by rw [hlen]; exact q⟩) mgd.pos (by omega) rfl p0 fun H1 at_ hat b1 p1 => ?_
  have s1 := takeS s0 n0 b1
  obtain ⟨r, hr1⟩ : ∃ r, M[at_]? = some r := ⟨_, List.getElem?_eq_getElem hat⟩
  obtain ⟨ra, lb, ls, g1, g2, g3, g4⟩ := rmsAt hrs hr1
  refine ⟨_, rfl, _, rfl, ma, rs, _, _, rfl, rfl, s1.sqT hma, atI_nat g1, ra, _, rfl, s1.sqT g2, rfl, _, _, rfl, _, _, rfl, rfl, ?_⟩
  have hled : Dp K G0 (.ref lb) (.tuple (r.2.map stD)) := .tup g3 g4
  obtain ⟨hr3, hrp⟩ := mgd.rm r (List.mem_of_getElem? hr1)
  have hrp' : ∀ p, p ∈ r.2 → PyData.strOk p.1 = true ∧ p.1.length ≤ 9 ∧ p.2 ≤ 201 := fun p hp => ⟨(hrp p hp).1, by have := (hrp p hp).2.1; omega, by have := (hrp p hp).2.2; omega⟩
  have lsL : Ls (r.2.map stD) 9 1 := (gd_sts (c := 3) hrp' hr3).mono (by decide) (Nat.le_refl _)
  -- number
  refine sq_pick (K := K) (Pre := fun H => Dp K H (.ref ma) (.tuple (M.map rmD))) (ds := numL (M.map rmD).length) (n := 8) (mkl_lst (Nat.le_of_ble_eq_true rfl) (mk_cons stay_dp (mk_neg mk_int) (mk_cons stay_dp (mk_len (mk_var rfl fun _ q => q)) (mk_cons stay_dp mk_non (mk_cons stay_dp mk_bl (mk_cons stay_dp mk_str (mk_cons stay_dp (mk_iC (g := fun i j => i ^ j.toNat) stay_dp mk_int mk_int (show CPow 10 20 from ⟨by decide, by decide, by decide⟩)) (mk_cons stay_dp (mk_tup (Nat.le_of_ble_eq_true rfl) (mk_cons stay_dp mk_int mk_nil)) (mk_cons stay_dp (mk_lst (Nat.le_of_ble_eq_true rfl) (mk_cons stay_dp mk_int mk_nil)) mk_nil))))))))).r rfl rfl (by decide) (by decide) rfl p1 s1 n0 hv0 fun G1 H2 vn dn sg1 s2 n1 b2 p2 hdn hvn => ?_
  have gdn := num_gd (n := (M.map rmD).length) (by rw [List.length_map]; exact hM6) dn hdn
  have c2 := b1.trans b2
  -- an odd letter
  refine ⟨_, rfl, _, rfl, _, rfl, othS, rfl, szl (by decide +kernel), pen, sp, othS.length, rfl, by decide +kernel, by decide +kernel, p2, fun H3 j hj b3 p3 => ?_⟩
  obtain ⟨ch, hch, hok⟩ := oth_at j hj
  refine ⟨othS, _, ch, rfl, rfl, szl (by decide +kernel), atI_nat hch, ?_⟩
  have s3 := takeS s2 n1 b3
  have c3 := c2.trans b3
  have la : (Str.ofString "a").length = 1 := by decide +kernel
  have lb' : (Str.ofString "b").length = 1 := by decide +kernel
  have lo : (oneS ch).length = 1 := rfl
  have vO : ∀ {σ : L2.St}, σ[8]? = some (some (.str (oneS ch))) → MkD K σ (fun _ => True) (tVar 8) (.str (oneS ch)) := fun h => mk_var h fun _ _ => .str _
  refine sqR (K := K) (Pre := fun _ => True) (ds := wordL (oneS ch)) (mkl_lst (Nat.le_of_ble_eq_true rfl) (mk_cons stay_true mk_str (mk_cons stay_true (vO rfl) (mk_cons stay_true mk_str (mk_cons stay_true (mk_adds stay_true (by rw [len_app, la, lo, lb']; decide) (mk_adds stay_true (by rw [la, lo]; decide) mk_str (vO rfl)) mk_str) (mk_cons stay_true (mk_adds stay_true (by rw [la, lo]; decide) mk_str (vO rfl)) (mk_cons stay_true (mk_adds stay_true (by rw [la, lo]; decide) (vO rfl) mk_str) (mk_cons stay_true mk_int (mk_cons stay_true mk_non (mk_cons stay_true (mk_tup (Nat.le_of_ble_eq_true rfl) (mk_cons stay_true mk_str mk_nil)) (mk_cons stay_true (mk_lst (Nat.le_of_ble_eq_true rfl) (mk_cons stay_true mk_str mk_nil)) mk_nil))))))))))).r s3 trivial fun G2 H4 Lw ws g5 hLw hws => ?_
  have n2 := g5.noP p3 n1
  have p4 := p3.same g5.hh
  have c4 := c3.trans (.of g5.hh)
  -- sign
  refine sq_pick (K := K) (Pre := fun H => ∃ ws, H Lw = some (.lst ws) ∧ DpAll K H ws (wordL (oneS ch))) (ds := wordL (oneS ch)) (n := 10) (mkr_var rfl fun _ q => q) rfl rfl (by decide) (by decide) rfl p4 g5.gh n2 ⟨_, hLw, hws⟩ fun G3 H5 vs dw sg3 s5 n3 b5 p5 hdw hvs => ?_
  have gdw := word_gd hok lo dw hdw
  have c5 := c4.trans b5
  have sg03 := (sg1.trans g5.gg).trans sg3
  -- amid
  refine ⟨_, rfl, (by show 0 ≤ sizeLine; decide), fun e ne => ?_⟩
  have s6 : Same H5 (upd H5 e (.tup [])) := .new ne
  have he6 : (upd H5 e (.tup [])) e = some (.tup []) := upd_same
  have p6 := p5.same s6
  have c6 := c5.trans (.of s6)
  have sG6 := s5.trans s6
  generalize upd H5 e (.tup []) = H6 at s6 he6 p6 c6 sG6 ⊢
  have hm3 := dpS sg03 hv0
  have hl3 := dpS sg03 hled
  have hn3 := dpS (g5.gg.trans sg3) hvn
  have hsg3 := sg03 _ _ hsg0
  have gdl := gd_tup lsL (by rw [List.length_map]; omega)
  refine ⟨.tuple (r.2.map stD), .tuple [], dpS sG6 hl3, .tup (sT he6) .nil, gdl.shape (by decide), (by decide +kernel), _, rfl, ?_⟩
  rw [eqvT]
  by_cases hne : r.2 = []
  · refine iteF' (by rw [decide_eq_true hne]; decide) ?_
    refine (mk_tup (K := K) (Pre := fun _ => True) (Nat.le_of_ble_eq_true rfl) (mk_cons stay_true (mk_tup (Nat.le_of_ble_eq_true rfl) (mk_cons stay_true mk_str (mk_cons stay_true mk_int mk_nil))) mk_nil)) G3 H6 _ sG6 trivial fun G7 H7 va g7 hva => ?_
    exact f8 G7 H7 at_ r.1 (.ref lb) vn vs va _ [("zzzzzz", 0)] dn dw _ _ _ g7.gh (g7.noP p6 n3) (c6.trans (.of g7.hh)) (p6.same g7.hh) (dpS g7.gg hm3) (dpS g7.gg hl3) (dpS g7.gg hn3) (dpS g7.gg hvs) hva (g7.gg _ _ hsg3) hat lsL (by decide) (by decide) (fun p hp => by rw [List.mem_singleton.mp hp]; exact ⟨by decide +kernel, by decide +kernel, by decide⟩) gdn gdw
  · refine iteT' (by rw [decide_eq_false hne]; rfl) ?_
    refine ⟨_, rfl, ?_⟩
    have hpos : 0 < r.2.length := by
      cases e : r.2 with
      | nil => exact absurd e hne
      | cons x l => exact Nat.succ_pos _
    exact f8 G3 H6 at_ r.1 (.ref lb) vn vs (.ref lb) _ r.2 dn dw _ _ _ sG6 n3 c6 p6 hm3 hl3 hn3 hvs hl3 hsg3 hat lsL hpos hr3 hrp' gdn gdw
end
end Sw
set_option Elab.async false
set_option maxRecDepth 100000
set_option maxHeartbeats 8000000
namespace Sw
open PySem L2 PySem.Spec PyProof.Rows
theorem defAt_mk {K : PySem.W.Frag} {h : Heap} {mg : Str → Option Value} {x : Str} {st : Stmt} {ps : List Str} {f : Addr} {od an : Option Addr} {sl : Array (Option Value)} {oc kV dc pm cd ct : Value} (X : K.In h) (G : h.Ns mainGlobals mg)
    (a : PySem.W.nsIn K mainGlobals x = some (some (.ref f))) (l : K.lookup f = some ⟨oc, od, .func (PySem.W.fnOf x x (defArgs st) (defBody st) (defScope st) .none kV dc pm an cd ct), sl⟩) (c : PySem.W.codeIn K cd x = true) (k : PySem.W.keepIn K (.ref f) = true)
    (b : Binds K (PySem.W.fnOf x x (defArgs st) (defBody st) (defScope st) .none kV dc pm an cd ct) ps []) : DefAt K mg x st ps :=
  ⟨f, _, fun_mk (st := st) l c k, PySem.W.mg_of X G a, b⟩
theorem defTab_mk {K : PySem.W.Frag} {h base : Heap} {mg : Str → Option Value} {x : Str} {st : Stmt} {ps : List Str} {f c T : Addr} {od an : Option Addr} {sl : Array (Option Value)} {oc kV dc pm ct : Value} (X : K.In h) (G : h.Ns mainGlobals mg)
    (a : PySem.W.nsIn K mainGlobals x = some (some (.ref f))) (l : K.lookup f = some ⟨oc, od, .func (PySem.W.fnOf x x (defArgs st) (defBody st) (defScope st) .none kV dc pm an (.ref c) ct), sl⟩) (cc : PySem.W.codeIn K (.ref c) x = true) (k : PySem.W.keepIn K (.ref f) = true)
    (b : Binds K (PySem.W.fnOf x x (defArgs st) (defBody st) (defScope st) .none kV dc pm an (.ref c) ct) ps []) (TB : GxR.TabB base mg c T) : DefTab K mg base x st ps T :=
  ⟨f, oc, od, kV, dc, pm, an, c, ct, sl, l, cc, k, PySem.W.mg_of X G a, b, TB⟩
theorem all_mk {l : PySem.W.OpenLaw} {w : World} {K : PySem.W.Frag} {h : Heap} {mg : Str → Option Value} {q : Program} {f1 f2 f3 f4 f5 f6 f7 f8 f9 f10 f11 f12 f13 f14 f15 f16 f17 c2 T2 c4 T4 c3 T3 fa : Addr} {od1 an1 od2 an2 od3 an3 od4 an4 od5 an5 od6 an6 od7 an7 od8 an8 od9 an9 od10 an10 od11 an11 od12 an12 od13 an13 od14 an14 od15 an15 od16 an16 od17 an17 td2 td4 td3 : Option Addr} {sl1 sl2 sl3 sl4 sl5 sl6 sl7 sl8 sl9 sl10 sl11 sl12 sl13 sl14 sl15 sl16 sl17 ts2 ts4 ts3 : Array (Option Value)} {tv2 tv4 tv3 : Array Value} {oc1 kV1 dc1 pm1 ct1 cd1 oc2 kV2 dc2 pm2 ct2 oc3 kV3 dc3 pm3 ct3 oc4 kV4 dc4 pm4 ct4 oc5 kV5 dc5 pm5 ct5 cd5 oc6 kV6 dc6 pm6 ct6 cd6 oc7 kV7 dc7 pm7 ct7 cd7 oc8 kV8 dc8 pm8 ct8 cd8 oc9 kV9 dc9 pm9 ct9 cd9 oc10 kV10 dc10 pm10 ct10 cd10 oc11 kV11 dc11 pm11 ct11 cd11 oc12 kV12 dc12 pm12 ct12 cd12 oc13 kV13 dc13 pm13 ct13 cd13 oc14 kV14 dc14 pm14 ct14 cd14 oc15 kV15 dc15 pm15 ct15 cd15 oc16 kV16 dc16 pm16 ct16 cd16 oc17 kV17 dc17 pm17 ct17 cd17 te2 te4 te3 : Value} {k__MOST_LETTERS k__MOST_ROOMS k__MOST_SIGNS : Tok} (X : K.In h) (G : h.Ns mainGlobals mg) (hfa : mg "law" = some (.ref fa)) (own : ∀ x c P, ((recsOf q).any fun e => e.name == x) = true → OwnT K h x c P)
    (a1 : PySem.W.nsIn K mainGlobals "is_whole" = some (some (.ref f1))) (l1 : K.lookup f1 = some ⟨oc1, od1, .func (PySem.W.fnOf "is_whole" "is_whole" (defArgs s_is_whole) (defBody s_is_whole) (defScope s_is_whole) .none kV1 dc1 pm1 an1 cd1 ct1), sl1⟩) (d1 : PySem.W.codeIn K cd1 "is_whole" = true) (k1 : PySem.W.keepIn K (.ref f1) = true)
    (a2 : PySem.W.nsIn K mainGlobals "is_sign" = some (some (.ref f2))) (l2 : K.lookup f2 = some ⟨oc2, od2, .func (PySem.W.fnOf "is_sign" "is_sign" (defArgs s_is_sign) (defBody s_is_sign) (defScope s_is_sign) .none kV2 dc2 pm2 an2 (.ref c2) ct2), sl2⟩) (d2 : PySem.W.codeIn K (.ref c2) "is_sign" = true) (k2 : PySem.W.keepIn K (.ref f2) = true)
    (t2 : K.lookup c2 = some ⟨te2, td2, .fields tv2, ts2⟩) (u2 : tv2[11]? = some (.ref T2)) (n2 : K.lookup T2 = none) (r2 : ((recsOf q).any fun e => e.name == ("is_sign" : Str)) = true)
    (a3 : PySem.W.nsIn K mainGlobals "is_machine" = some (some (.ref f3))) (l3 : K.lookup f3 = some ⟨oc3, od3, .func (PySem.W.fnOf "is_machine" "is_machine" (defArgs s_is_machine) (defBody s_is_machine) (defScope s_is_machine) .none kV3 dc3 pm3 an3 (.ref c3) ct3), sl3⟩) (d3 : PySem.W.codeIn K (.ref c3) "is_machine" = true) (k3 : PySem.W.keepIn K (.ref f3) = true)
    (t3 : K.lookup c3 = some ⟨te3, td3, .fields tv3, ts3⟩) (u3 : tv3[11]? = some (.ref T3)) (n3 : K.lookup T3 = none) (r3 : ((recsOf q).any fun e => e.name == ("is_machine" : Str)) = true)
    (a4 : PySem.W.nsIn K mainGlobals "_is_room" = some (some (.ref f4))) (l4 : K.lookup f4 = some ⟨oc4, od4, .func (PySem.W.fnOf "_is_room" "_is_room" (defArgs s_is_room) (defBody s_is_room) (defScope s_is_room) .none kV4 dc4 pm4 an4 (.ref c4) ct4), sl4⟩) (d4 : PySem.W.codeIn K (.ref c4) "_is_room" = true) (k4 : PySem.W.keepIn K (.ref f4) = true)
    (t4 : K.lookup c4 = some ⟨te4, td4, .fields tv4, ts4⟩) (u4 : tv4[11]? = some (.ref T4)) (n4 : K.lookup T4 = none) (r4 : ((recsOf q).any fun e => e.name == ("_is_room" : Str)) = true)
    (a5 : PySem.W.nsIn K mainGlobals "_is_step" = some (some (.ref f5))) (l5 : K.lookup f5 = some ⟨oc5, od5, .func (PySem.W.fnOf "_is_step" "_is_step" (defArgs s_is_step) (defBody s_is_step) (defScope s_is_step) .none kV5 dc5 pm5 an5 cd5 ct5), sl5⟩) (d5 : PySem.W.codeIn K cd5 "_is_step" = true) (k5 : PySem.W.keepIn K (.ref f5) = true)
    (a6 : PySem.W.nsIn K mainGlobals "_all_come_to" = some (some (.ref f6))) (l6 : K.lookup f6 = some ⟨oc6, od6, .func (PySem.W.fnOf "_all_come_to" "_all_come_to" (defArgs s_all_come_to) (defBody s_all_come_to) (defScope s_all_come_to) .none kV6 dc6 pm6 an6 cd6 ct6), sl6⟩) (d6 : PySem.W.codeIn K cd6 "_all_come_to" = true) (k6 : PySem.W.keepIn K (.ref f6) = true)
    (a7 : PySem.W.nsIn K mainGlobals "_law_e_pen" = some (some (.ref f7))) (l7 : K.lookup f7 = some ⟨oc7, od7, .func (PySem.W.fnOf "_law_e_pen" "_law_e_pen" (defArgs s_law_e_pen) (defBody s_law_e_pen) (defScope s_law_e_pen) .none kV7 dc7 pm7 an7 cd7 ct7), sl7⟩) (d7 : PySem.W.codeIn K cd7 "_law_e_pen" = true) (k7 : PySem.W.keepIn K (.ref f7) = true)
    (a8 : PySem.W.nsIn K mainGlobals "_law_e_take" = some (some (.ref f8))) (l8 : K.lookup f8 = some ⟨oc8, od8, .func (PySem.W.fnOf "_law_e_take" "_law_e_take" (defArgs s_law_e_take) (defBody s_law_e_take) (defScope s_law_e_take) .none kV8 dc8 pm8 an8 cd8 ct8), sl8⟩) (d8 : PySem.W.codeIn K cd8 "_law_e_take" = true) (k8 : PySem.W.keepIn K (.ref f8) = true)
    (a9 : PySem.W.nsIn K mainGlobals "_law_e_signs" = some (some (.ref f9))) (l9 : K.lookup f9 = some ⟨oc9, od9, .func (PySem.W.fnOf "_law_e_signs" "_law_e_signs" (defArgs s_law_e_signs) (defBody s_law_e_signs) (defScope s_law_e_signs) .none kV9 dc9 pm9 an9 cd9 ct9), sl9⟩) (d9 : PySem.W.codeIn K cd9 "_law_e_signs" = true) (k9 : PySem.W.keepIn K (.ref f9) = true)
    (a10 : PySem.W.nsIn K mainGlobals "_law_e_machine" = some (some (.ref f10))) (l10 : K.lookup f10 = some ⟨oc10, od10, .func (PySem.W.fnOf "_law_e_machine" "_law_e_machine" (defArgs s_law_e_machine) (defBody s_law_e_machine) (defScope s_law_e_machine) .none kV10 dc10 pm10 an10 cd10 ct10), sl10⟩) (d10 : PySem.W.codeIn K cd10 "_law_e_machine" = true) (k10 : PySem.W.keepIn K (.ref f10) = true)
    (a11 : PySem.W.nsIn K mainGlobals "_law_e_whole" = some (some (.ref f11))) (l11 : K.lookup f11 = some ⟨oc11, od11, .func (PySem.W.fnOf "_law_e_whole" "_law_e_whole" (defArgs s_law_e_whole) (defBody s_law_e_whole) (defScope s_law_e_whole) .none kV11 dc11 pm11 an11 cd11 ct11), sl11⟩) (d11 : PySem.W.codeIn K cd11 "_law_e_whole" = true) (k11 : PySem.W.keepIn K (.ref f11) = true)
    (a12 : PySem.W.nsIn K mainGlobals "_law_e_is_rooms" = some (some (.ref f12))) (l12 : K.lookup f12 = some ⟨oc12, od12, .func (PySem.W.fnOf "_law_e_is_rooms" "_law_e_is_rooms" (defArgs s_law_e_is_rooms) (defBody s_law_e_is_rooms) (defScope s_law_e_is_rooms) .none kV12 dc12 pm12 an12 cd12 ct12), sl12⟩) (d12 : PySem.W.codeIn K cd12 "_law_e_is_rooms" = true) (k12 : PySem.W.keepIn K (.ref f12) = true)
    (a13 : PySem.W.nsIn K mainGlobals "_law_galive" = some (some (.ref f13))) (l13 : K.lookup f13 = some ⟨oc13, od13, .func (PySem.W.fnOf "_law_galive" "_law_galive" (defArgs s_law_galive) (defBody s_law_galive) (defScope s_law_galive) .none kV13 dc13 pm13 an13 cd13 ct13), sl13⟩) (d13 : PySem.W.codeIn K cd13 "_law_galive" = true) (k13 : PySem.W.keepIn K (.ref f13) = true)
    (a14 : PySem.W.nsIn K mainGlobals "_law_e_is_machine" = some (some (.ref f14))) (l14 : K.lookup f14 = some ⟨oc14, od14, .func (PySem.W.fnOf "_law_e_is_machine" "_law_e_is_machine" (defArgs s_law_e_is_machine) (defBody s_law_e_is_machine) (defScope s_law_e_is_machine) .none kV14 dc14 pm14 an14 cd14 ct14), sl14⟩) (d14 : PySem.W.codeIn K cd14 "_law_e_is_machine" = true) (k14 : PySem.W.keepIn K (.ref f14) = true)
    (a15 : PySem.W.nsIn K mainGlobals "_law_e_odd" = some (some (.ref f15))) (l15 : K.lookup f15 = some ⟨oc15, od15, .func (PySem.W.fnOf "_law_e_odd" "_law_e_odd" (defArgs s_law_e_odd) (defBody s_law_e_odd) (defScope s_law_e_odd) .none kV15 dc15 pm15 an15 cd15 ct15), sl15⟩) (d15 : PySem.W.codeIn K cd15 "_law_e_odd" = true) (k15 : PySem.W.keepIn K (.ref f15) = true)
    (a16 : PySem.W.nsIn K mainGlobals "_law_e_right" = some (some (.ref f16))) (l16 : K.lookup f16 = some ⟨oc16, od16, .func (PySem.W.fnOf "_law_e_right" "_law_e_right" (defArgs s_law_e_right) (defBody s_law_e_right) (defScope s_law_e_right) .none kV16 dc16 pm16 an16 cd16 ct16), sl16⟩) (d16 : PySem.W.codeIn K cd16 "_law_e_right" = true) (k16 : PySem.W.keepIn K (.ref f16) = true)
    (a17 : PySem.W.nsIn K mainGlobals "law" = some (some (.ref f17))) (l17 : K.lookup f17 = some ⟨oc17, od17, .func (PySem.W.fnOf "law" "law" (defArgs s_law) (defBody s_law) (defScope s_law) .none kV17 dc17 pm17 an17 cd17 ct17), sl17⟩) (d17 : PySem.W.codeIn K cd17 "law" = true) (k17 : PySem.W.keepIn K (.ref f17) = true)
    (g__MOST_LETTERS : PySem.W.nsIn K mainGlobals "_MOST_LETTERS" = some (some (.int 6 k__MOST_LETTERS)))
    (g__MOST_ROOMS : PySem.W.nsIn K mainGlobals "_MOST_ROOMS" = some (some (.int 200 k__MOST_ROOMS)))
    (g__MOST_SIGNS : PySem.W.nsIn K mainGlobals "_MOST_SIGNS" = some (some (.int 6 k__MOST_SIGNS)))
    (z_len : PySem.W.nsIn K mainGlobals "len" = some none)
    (z_range : PySem.W.nsIn K mainGlobals "range" = some none)
    (z_sorted : PySem.W.nsIn K mainGlobals "sorted" = some none)
    (z_enumerate : PySem.W.nsIn K mainGlobals "enumerate" = some none)
    (z_all : PySem.W.nsIn K mainGlobals "all" = some none)
    (z_tuple : PySem.W.nsIn K mainGlobals "tuple" = some none)
    (z_list : PySem.W.nsIn K mainGlobals "list" = some none)
    (z_zip : PySem.W.nsIn K mainGlobals "zip" = some none)
    (z_isinstance : PySem.W.nsIn K mainGlobals "isinstance" = some none)
    (z_bool : PySem.W.nsIn K mainGlobals "bool" = some none)
    (z_int : PySem.W.nsIn K mainGlobals "int" = some none)
    (z_str : PySem.W.nsIn K mainGlobals "str" = some none)
    (z_repr : PySem.W.nsIn K mainGlobals "repr" = some none)
    : ∃ (fd : FuncData) (cs : List (Addr × Addr)) (sp : Sp), (∀ p ∈ cs, h.get? p.2 = some { cls := .none, data := .fields #[] }) ∧ (∀ p ∈ cs, K.lookup p.2 = none) ∧ (∀ p ∈ cs, PySem.W.CodeHd h p.1 p.2) ∧ (∀ (s : Shared) (u : Value), BindsTo s fd ⟨[u], []⟩ [("script", u)]) ∧
      (∀ (H : Hp) (a : Addr) (ns : List Int), ns.length ≤ 63 → (∀ z ∈ ns, Builtin.Int.intBits z ≤ 1048576) → Tabs cs H → SqL K H a (ns.map V.int) → sp [.ref a] H (fun v H' => v = .bl true ∧ Tabs cs H') fun _ _ _ => False) ∧
      ∀ base : Heap, K.In base → base.Ns mainGlobals mg → (∀ p ∈ cs, GxR.TabB base mg p.1 p.2) → FnG l.prog w K mg base 9 fa fd ["script"] sp := by
  have e := hfa.symm.trans (PySem.W.mg_of X G a17)
  cases e
  have b_len := PySem.W.mg_none_of X G z_len
  have b_range := PySem.W.mg_none_of X G z_range
  have b_sorted := PySem.W.mg_none_of X G z_sorted
  have b_enumerate := PySem.W.mg_none_of X G z_enumerate
  have b_all := PySem.W.mg_none_of X G z_all
  have b_tuple := PySem.W.mg_none_of X G z_tuple
  have b_list := PySem.W.mg_none_of X G z_list
  have b_zip := PySem.W.mg_none_of X G z_zip
  have b_isinstance := PySem.W.mg_none_of X G z_isinstance
  have b_bool := PySem.W.mg_none_of X G z_bool
  have b_int := PySem.W.mg_none_of X G z_int
  have b_str := PySem.W.mg_none_of X G z_str
  have b_repr := PySem.W.mg_none_of X G z_repr
  have m__MOST_LETTERS : ∃ t, mg "_MOST_LETTERS" = some (.int 6 t) := ⟨_, PySem.W.mg_of X G g__MOST_LETTERS⟩
  have m__MOST_ROOMS : ∃ t, mg "_MOST_ROOMS" = some (.int 200 t) := ⟨_, PySem.W.mg_of X G g__MOST_ROOMS⟩
  have m__MOST_SIGNS : ∃ t, mg "_MOST_SIGNS" = some (.int 6 t) := ⟨_, PySem.W.mg_of X G g__MOST_SIGNS⟩
  obtain ⟨w2, x2⟩ := own _ c2 T2 r2 _ _ _ _ _ _ _ a2 l2 rfl rfl t2 u2
  obtain ⟨w4, x4⟩ := own _ c4 T4 r4 _ _ _ _ _ _ _ a4 l4 rfl rfl t4 u4
  obtain ⟨w3, x3⟩ := own _ c3 T3 r3 _ _ _ _ _ _ _ a3 l3 rfl rfl t3 u3
  have D1 : DefAt K mg "is_whole" s_is_whole ["thing"] := defAt_mk X G a1 l1 d1 k1 ((fun_mk (st := s_is_whole) l1 d1 k1).binds (ps := ["thing"]) fun _ _ _ _ _ _ us hl => match us, hl with | [_], _ => rfl)
  have D5 : DefAt K mg "_is_step" s_is_step ["thing", "many"] := defAt_mk X G a5 l5 d5 k5 ((fun_mk (st := s_is_step) l5 d5 k5).binds (ps := ["thing", "many"]) fun _ _ _ _ _ _ us hl => match us, hl with | [_, _], _ => rfl)
  have D6 : DefAt K mg "_all_come_to" s_all_come_to ["onward", "first"] := defAt_mk X G a6 l6 d6 k6 ((fun_mk (st := s_all_come_to) l6 d6 k6).binds (ps := ["onward", "first"]) fun _ _ _ _ _ _ us hl => match us, hl with | [_, _], _ => rfl)
  have D7 : DefAt K mg "_law_e_pen" s_law_e_pen ["script"] := defAt_mk X G a7 l7 d7 k7 ((fun_mk (st := s_law_e_pen) l7 d7 k7).binds (ps := ["script"]) fun _ _ _ _ _ _ us hl => match us, hl with | [_], _ => rfl)
  have D8 : DefAt K mg "_law_e_take" s_law_e_take ["pen", "many"] := defAt_mk X G a8 l8 d8 k8 ((fun_mk (st := s_law_e_take) l8 d8 k8).binds (ps := ["pen", "many"]) fun _ _ _ _ _ _ us hl => match us, hl with | [_, _], _ => rfl)
  have D9 : DefAt K mg "_law_e_signs" s_law_e_signs ["pen"] := defAt_mk X G a9 l9 d9 k9 ((fun_mk (st := s_law_e_signs) l9 d9 k9).binds (ps := ["pen"]) fun _ _ _ _ _ _ us hl => match us, hl with | [_], _ => rfl)
  have D10 : DefAt K mg "_law_e_machine" s_law_e_machine ["pen", "signs", "most"] := defAt_mk X G a10 l10 d10 k10 ((fun_mk (st := s_law_e_machine) l10 d10 k10).binds (ps := ["pen", "signs", "most"]) fun _ _ _ _ _ _ us hl => match us, hl with | [_, _, _], _ => rfl)
  have D11 : DefAt K mg "_law_e_whole" s_law_e_whole ["thing"] := defAt_mk X G a11 l11 d11 k11 ((fun_mk (st := s_law_e_whole) l11 d11 k11).binds (ps := ["thing"]) fun _ _ _ _ _ _ us hl => match us, hl with | [_], _ => rfl)
  have D12 : DefAt K mg "_law_e_is_rooms" s_law_e_is_rooms ["thing"] := defAt_mk X G a12 l12 d12 k12 ((fun_mk (st := s_law_e_is_rooms) l12 d12 k12).binds (ps := ["thing"]) fun _ _ _ _ _ _ us hl => match us, hl with | [_], _ => rfl)
  have D13 : DefAt K mg "_law_galive" s_law_galive ["rooms"] := defAt_mk X G a13 l13 d13 k13 ((fun_mk (st := s_law_galive) l13 d13 k13).binds (ps := ["rooms"]) fun _ _ _ _ _ _ us hl => match us, hl with | [_], _ => rfl)
  have D14 : DefAt K mg "_law_e_is_machine" s_law_e_is_machine ["thing"] := defAt_mk X G a14 l14 d14 k14 ((fun_mk (st := s_law_e_is_machine) l14 d14 k14).binds (ps := ["thing"]) fun _ _ _ _ _ _ us hl => match us, hl with | [_], _ => rfl)
  have D15 : DefAt K mg "_law_e_odd" s_law_e_odd ["pen", "machine", "signs"] := defAt_mk X G a15 l15 d15 k15 ((fun_mk (st := s_law_e_odd) l15 d15 k15).binds (ps := ["pen", "machine", "signs"]) fun _ _ _ _ _ _ us hl => match us, hl with | [_, _, _], _ => rfl)
  have D16 : DefAt K mg "_law_e_right" s_law_e_right ["thing"] := defAt_mk X G a16 l16 d16 k16 ((fun_mk (st := s_law_e_right) l16 d16 k16).binds (ps := ["thing"]) fun _ _ _ _ _ _ us hl => match us, hl with | [_], _ => rfl)
  refine ⟨PySem.W.fnOf "law" "law" (defArgs s_law) (defBody s_law) (defScope s_law) .none kV17 dc17 pm17 an17 cd17 ct17, [(c2, T2), (c4, T4), (c3, T3)], spLaw K T2 T4 T3, ?_, ?_, ?_, fun s v => .of_eq rfl, ?_, fun base _ _ TB => ?_⟩
  · exact fun p hp => by
      simp only [List.mem_cons, List.not_mem_nil, or_false] at hp
      rcases hp with rfl | rfl | rfl
      · exact w2
      · exact w4
      · exact w3
  · exact fun p hp => by
      simp only [List.mem_cons, List.not_mem_nil, or_false] at hp
      rcases hp with rfl | rfl | rfl
      · exact n2
      · exact n4
      · exact n3
  · exact fun p hp => by
      simp only [List.mem_cons, List.not_mem_nil, or_false] at hp
      rcases hp with rfl | rfl | rfl
      · exact x2
      · exact x4
      · exact x3
  · intro H a ns hl _ hT hS
    exact ⟨a, ns, rfl, hS, hl, hT _ List.mem_cons_self, hT _ (List.mem_cons_of_mem _ List.mem_cons_self), hT _ (List.mem_cons_of_mem _ (List.mem_cons_of_mem _ List.mem_cons_self)), fun H' s => ⟨rfl, hT.same s⟩⟩
  have TB2 : GxR.TabB base mg c2 T2 := TB (c2, T2) List.mem_cons_self
  have TB4 : GxR.TabB base mg c4 T4 := TB (c4, T4) (List.mem_cons_of_mem _ List.mem_cons_self)
  have TB3 : GxR.TabB base mg c3 T3 := TB (c3, T3) (List.mem_cons_of_mem _ (List.mem_cons_of_mem _ List.mem_cons_self))
  have D2 : DefTab K mg base "is_sign" s_is_sign ["thing"] T2 := defTab_mk X G a2 l2 d2 k2 ((fun_mk (st := s_is_sign) l2 d2 k2).binds (ps := ["thing"]) fun _ _ _ _ _ _ us hl => match us, hl with | [_], _ => rfl) TB2
  have D3 : DefTab K mg base "is_machine" s_is_machine ["thing"] T3 := defTab_mk X G a3 l3 d3 k3 ((fun_mk (st := s_is_machine) l3 d3 k3).binds (ps := ["thing"]) fun _ _ _ _ _ _ us hl => match us, hl with | [_], _ => rfl) TB3
  have D4 : DefTab K mg base "_is_room" s_is_room ["thing", "many"] T4 := defTab_mk X G a4 l4 d4 k4 ((fun_mk (st := s_is_room) l4 d4 k4).binds (ps := ["thing", "many"]) fun _ _ _ _ _ _ us hl => match us, hl with | [_, _], _ => rfl) TB4
  have o_whole := ok_is_whole (P := l.prog) (w := w) (base := base) D1 b_isinstance b_int b_bool
  have o_sign := ok_is_sign (P := l.prog) (w := w) D2 b_all b_isinstance b_len b_str m__MOST_LETTERS
  have o_step := ok_is_step D5 o_sign o_whole b_isinstance b_tuple b_len
  have o_room := ok_is_room D4 o_step b_all b_isinstance b_tuple b_bool b_zip b_len
  have o_come := ok_all_come_to (P := l.prog) (w := w) (base := base) D6 b_len b_list
  have o_mach := ok_is_machine D3 o_room o_come b_all b_enumerate b_isinstance b_tuple b_len m__MOST_ROOMS m__MOST_SIGNS
  have o_pen := ok_law_e_pen (P := l.prog) (w := w) (base := base) D7 b_list
  have o_take := ok_law_e_take (P := l.prog) (w := w) (base := base) D8 b_len
  have o_signs := ok_law_e_signs D9 o_take b_range b_sorted
  have o_lmach := ok_law_e_machine D10 o_take b_len b_range b_tuple
  have o_lwhole := ok_law_e_whole (P := l.prog) (w := w) (base := base) D11 b_isinstance b_int b_bool
  have o_rooms := ok_law_e_is_rooms D12 o_lwhole b_isinstance b_len b_tuple b_bool b_str
  have o_alive := ok_law_galive (P := l.prog) (w := w) (base := base) D13 b_len b_range
  have o_lis := ok_law_e_is_machine D14 o_rooms o_alive b_len
  have o_odd := ok_law_e_odd D15 o_take b_len b_int b_list
  have o_right := ok_law_e_right D16 o_mach o_lis b_isinstance b_bool b_repr
  exact ok_law (fun_mk (st := s_law) l17 d17 k17) o_pen o_signs o_lmach o_mach o_odd o_right b_all b_len b_range b_tuple
end Sw
set_option Elab.async false
open PySem PySem.W PyProof.Rows
set_option maxRecDepth 100000 in
set_option maxHeartbeats 0 in
theorem PySem.Challenge.cw_soleway_k60_machines_known_holds : PySem.Challenge.rw_soleway_k60_machines_known.Holds := by
  w_on; o_law; k_head; (case hw => w_witness2)
  k_fill
  refine Sw.walk_ofG (l := PySem.Challenge.rw_soleway_k60_machines_known) (n := 63) (k := 9) (x := "script") rfl (by decide) rfl ⟨rfl, by decide, by decide⟩ (fun w h Y => PySem.W.kIn_of Y) ?F
  case F =>
    intro w mg fa h KX G hmg own
    refine' Sw.all_mk KX G hmg own ?a1 ?l1 ?d1 ?k1 ?a2 ?l2 ?d2 ?k2 ?t2 ?u2 ?n2 ?r2 ?a3 ?l3 ?d3 ?k3 ?t3 ?u3 ?n3 ?r3 ?a4 ?l4 ?d4 ?k4 ?t4 ?u4 ?n4 ?r4 ?a5 ?l5 ?d5 ?k5 ?a6 ?l6 ?d6 ?k6 ?a7 ?l7 ?d7 ?k7 ?a8 ?l8 ?d8 ?k8 ?a9 ?l9 ?d9 ?k9 ?a10 ?l10 ?d10 ?k10 ?a11 ?l11 ?d11 ?k11 ?a12 ?l12 ?d12 ?k12 ?a13 ?l13 ?d13 ?k13 ?a14 ?l14 ?d14 ?k14 ?a15 ?l15 ?d15 ?k15 ?a16 ?l16 ?d16 ?k16 ?a17 ?l17 ?d17 ?k17 ?g__MOST_LETTERS ?g__MOST_ROOMS ?g__MOST_SIGNS ?z_len ?z_range ?z_sorted ?z_enumerate ?z_all ?z_tuple ?z_list ?z_zip ?z_isinstance ?z_bool ?z_int ?z_str ?z_repr
    (case a1 => k_is)
    (case l1 => k_is)
    (case d1 => k_is)
    (case k1 => k_is)
    (case a2 => k_is)
    (case l2 => k_is)
    (case d2 => k_is)
    (case k2 => k_is)
    (case t2 => k_is)
    (case u2 => first | rfl | decide +kernel | k_is)
    (case n2 => first | rfl | decide +kernel | k_is)
    (case r2 => first | rfl | decide +kernel | k_is)
    (case a3 => k_is)
    (case l3 => k_is)
    (case d3 => k_is)
    (case k3 => k_is)
    (case t3 => k_is)
    (case u3 => first | rfl | decide +kernel | k_is)
    (case n3 => first | rfl | decide +kernel | k_is)
    (case r3 => first | rfl | decide +kernel | k_is)
    (case a4 => k_is)
    (case l4 => k_is)
    (case d4 => k_is)
    (case k4 => k_is)
    (case t4 => k_is)
    (case u4 => first | rfl | decide +kernel | k_is)
    (case n4 => first | rfl | decide +kernel | k_is)
    (case r4 => first | rfl | decide +kernel | k_is)
    (case a5 => k_is)
    (case l5 => k_is)
    (case d5 => k_is)
    (case k5 => k_is)
    (case a6 => k_is)
    (case l6 => k_is)
    (case d6 => k_is)
    (case k6 => k_is)
    (case a7 => k_is)
    (case l7 => k_is)
    (case d7 => k_is)
    (case k7 => k_is)
    (case a8 => k_is)
    (case l8 => k_is)
    (case d8 => k_is)
    (case k8 => k_is)
    (case a9 => k_is)
    (case l9 => k_is)
    (case d9 => k_is)
    (case k9 => k_is)
    (case a10 => k_is)
    (case l10 => k_is)
    (case d10 => k_is)
    (case k10 => k_is)
    (case a11 => k_is)
    (case l11 => k_is)
    (case d11 => k_is)
    (case k11 => k_is)
    (case a12 => k_is)
    (case l12 => k_is)
    (case d12 => k_is)
    (case k12 => k_is)
    (case a13 => k_is)
    (case l13 => k_is)
    (case d13 => k_is)
    (case k13 => k_is)
    (case a14 => k_is)
    (case l14 => k_is)
    (case d14 => k_is)
    (case k14 => k_is)
    (case a15 => k_is)
    (case l15 => k_is)
    (case d15 => k_is)
    (case k15 => k_is)
    (case a16 => k_is)
    (case l16 => k_is)
    (case d16 => k_is)
    (case k16 => k_is)
    (case a17 => k_is)
    (case l17 => k_is)
    (case d17 => k_is)
    (case k17 => k_is)
    (case g__MOST_LETTERS => k_is)
    (case g__MOST_ROOMS => k_is)
    (case g__MOST_SIGNS => k_is)
    (case z_len => k_is)
    (case z_range => k_is)
    (case z_sorted => k_is)
    (case z_enumerate => k_is)
    (case z_all => k_is)
    (case z_tuple => k_is)
    (case z_list => k_is)
    (case z_zip => k_is)
    (case z_isinstance => k_is)
    (case z_bool => k_is)
    (case z_int => k_is)
    (case z_str => k_is)
    (case z_repr => k_is)
