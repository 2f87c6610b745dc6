import PyProof.Rows.All
import Wide.All
import OpenK.AllK
import Wide.FinOn
import HandS.ForMost
import HandS.TupAny
import HandS.TupMul
import HandS.RevRange
import HandS.Wide
import HandS.Style
import HandS.Flow
import HandS.AnyAll
import HandS.GenList
import HandS.Nested
import HandS.EndTab
import HandS.SetKeys
import HandS.Set
import HandS.Strs
import HandS.SetBool
import HandS.SetFor
import HandS.IsInst
import HandS.Text
import HandS.SortKw
import KE.DataMinMax
import KE.GoesMore
import HandS.Deep
import HandS.SortOrd
import HandS.SortRule
import HandS.RaiseMore
import PyProof.ReprRoads
import KE.KSuperObj
import KE.KExcSuper
import HandS.Exc
import HandS.ForExc
import HandS.TryOnly
import KE.KExcIs
import HandS.ExcIs
import HandS.ExcField
import HandS.More
import HandS.Zip
import HandS.StrMore
import HandS.ForList
import HandS.WordsExc
import PySem.Challenge.RW_soleway_k77_forms_opened
set_option Elab.async false
set_option maxRecDepth 100000
set_option maxHeartbeats 4000000
namespace Sw
open PySem L2 PySem.Spec PyProof.Rows

/-! ### defs of the top -/
section
variable {P : Program} {w : World} {K : PySem.W.Frag} {mg : Str → Option Value} {base : Heap}
/-- a def of the top: it stands under its name, takes its arguments by place -/
structure DefAt (K : PySem.W.Frag) (mg : Str → Option Value) (x : Str) (st : Stmt) (ps : List Str) : Prop where
  ex : ∃ f fd, Fun K x x st f fd ∧ mg x = some (.ref f) ∧ Binds K fd ps []
/-- .. and keeps a promise -/
structure DefOk (P : Program) (w : World) (K : PySem.W.Frag) (mg : Str → Option Value) (base : Heap) (x : Str) (k : Nat) (ps : List Str) (sp : Sp) : Prop where
  ex : ∃ f fd, FnOk P w K mg base CX0 k f fd ps sp ∧ mg x = some (.ref f) ∧ PySem.W.keepIn K (.ref f) = true ∧ Binds K fd ps []
theorem DefOk.mono {x : Str} {j k : Nat} {ps : List Str} {sp : Sp} (F : DefOk P w K mg base x j ps sp) (h : j ≤ k) : DefOk P w K mg base x k ps sp := by
  obtain ⟨f, fd, a, b, c, d⟩ := F.ex
  exact ⟨f, fd, a.mono h, b, c, d⟩
theorem DefOk.imp {x : Str} {k : Nat} {ps : List Str} {sp sp' : Sp} (F : DefOk P w K mg base x k ps sp) (h : ∀ vs H Q E, sp' vs H Q E → sp vs H Q E) : DefOk P w K mg base x k ps sp' := by
  obtain ⟨f, fd, a, b, c, d⟩ := F.ex
  exact ⟨f, fd, a.imp h, b, c, d⟩
theorem DefAt.ok {x : Str} {st : Stmt} {N ps : List Str} {k : Nat} {sp : Sp} (F : DefAt K mg x st ps) (S : FnScope N ps (defScope st)) (len : ∀ vs H Q E, sp vs H Q E → vs.length = ps.length)
    (hbody : ∀ (f : Addr) (cdv : Value) (A : Around) (outer : List Env) (s : Shared) (H : Hp) (vs : List V) (Q : VK) (E : XK), Room k (A.deeper (envOfC x (defScope st) s.heap.objs.size f cdv)) → sp vs H Q E →
      ∃ t, PSs (cxOf CX0 P w K mg base N x (defScope st) f cdv A outer s H E).nox (defBody st) t ∧ t { nx := fun _ H' => Q .non H', rt := Q } (start N vs) H) : DefOk P w K mg base x (k + 1) ps sp := by
  obtain ⟨f, fd, h1, h2, h3⟩ := F.ex
  exact ⟨f, fd, h1.ok S len (fun cdv A outer s H vs Q E hr hs => hbody f cdv A outer s H vs Q E hr hs), h2, h1.kp, h3⟩
end
section
variable {X : Cx} {x : Str} {k : Nat} {ps : List Str} {sp : Sp} {e : Expr} {es : List Expr} {t : TA} {p pos : Pos}
theorem pe_callD (F : DefOk X.prog X.w X.K X.mg X.base x k ps sp) (hr : Room k X.A) (hg : Gl X x) (ha : PA X (e :: es) t) (hx : Passes CX0 X E0 := by exact pass0) (hdb : (x == ("__debug__" : Str)) = false := by decide)
    (he : starEach (e :: es) X.env = (false, eval e X.env) :: starEach es X.env := by rfl) (hpl : (backTo pos (starEach es X.env)).any (·.1) = false := by rfl) : PE X (.Call (.Name x p) (e :: es) [] pos) (tCall sp [] E0 t) := by
  obtain ⟨f, fd, a, b, c, d⟩ := F.ex
  exact pe_call a hr hg b c d .nil hx ha hdb he hpl
end

/-! ### heaps -/
theorem _root_.L2.Same.new {H : Hp} {p : Addr} {o : HO} (h : H p = none) : Same H (upd H p o) := fun b u q => by rw [upd_ne (ne_of_none q h)]; exact q
/-- what was not there may be written again -/
theorem _root_.L2.Same.mut {H H' : Hp} {p : Addr} {o : HO} (e : Same H H') (h : H p = none) : Same H (upd H' p o) := fun a u ha => by
  rw [upd_ne (ne_of_none ha h)]
  exact e a u ha
theorem _root_.L2.Same.rd {H H' : Hp} {a : Addr} {u : HO} (e : Same H H') (h : Rd H a u) : Rd H' a u := by
  rcases h with h | ⟨o, h⟩
  · exact Or.inl (e a _ h)
  · exact Or.inr ⟨o, e a _ h⟩
theorem _root_.L2.Same.sqT {K : PySem.W.Frag} {H H' : Hp} {a : Addr} {xs : List V} (e : Same H H') (h : SqT K H a xs) : SqT K H' a xs := by
  rcases h with h | h
  · exact Or.inl (e.rd h)
  · exact Or.inr h
theorem sT {K : PySem.W.Frag} {H : Hp} {a : Addr} {xs : List V} (h : H a = some (.tup xs)) : SqT K H a xs := Or.inl (Or.inl h)
theorem sL {K : PySem.W.Frag} {H : Hp} {a : Addr} {xs : List V} (h : H a = some (.lst xs)) : SqL K H a xs := Or.inl (Or.inl h)
/-- all but the object at p is as it was -/
def But (p : Addr) (H H' : Hp) : Prop := ∀ b o, H b = some o → b ≠ p → H' b = some o
theorem But.of {p : Addr} {H H' : Hp} (h : Same H H') : But p H H' := fun b o e _ => h b o e
theorem But.trans {p : Addr} {H H1 H2 : Hp} (a : But p H H1) (b : But p H1 H2) : But p H H2 := fun c o e n => b c o (a c o e n) n
theorem But.refl {p : Addr} {H : Hp} : But p H H := fun _ _ e _ => e
theorem But.upd {p : Addr} {H H' : Hp} {o : HO} (a : But p H H') : But p H (upd H' p o) := fun b u e n => by rw [upd_ne n]; exact a b u e n
theorem But.same {p : Addr} {H H' : Hp} (a : But p H H') (h : H p = none) : Same H H' := fun b o e => a b o e (ne_of_none e h)
theorem But.free {p q : Addr} {H H' : Hp} (a : But p H H') (h : H' q = none) (n : q ≠ p) : H q = none := by
  cases e : H q with
  | none => rfl
  | some o =>
    rw [a q o e n] at h
    cases h

/-! ### data in the heap -/
mutual
theorem dpSame {K : PySem.W.Frag} {H H' : Hp} (s : ∀ a u, (∃ xs, u = HO.lst xs ∨ u = HO.tup xs) → Rd H a u → Rd H' a u) : ∀ (d : PyData) (v : V), Dp K H v d → Dp K H' v d
  | .none, _, h => by cases h; exact .non
  | .bool b, _, h => by cases h; exact .bl b
  | .int i, _, h => by cases h; exact .int i
  | .str x, _, h => by cases h; exact .str x
  | .list ds, _, h => by
    cases h with
    | lst h1 h2 =>
      refine .lst ?_ (dpAllSame s ds _ h2)
      rcases h1 with h1 | h1
      · exact .inl (s _ _ ⟨_, .inl rfl⟩ h1)
      · exact .inr h1
  | .tuple ds, _, h => by
    cases h with
    | tup h1 h2 =>
      refine .tup ?_ (dpAllSame s ds _ h2)
      rcases h1 with h1 | h1
      · exact .inl (s _ _ ⟨_, .inr rfl⟩ h1)
      · exact .inr h1
  | .dict _, _, h => by cases h
theorem dpAllSame {K : PySem.W.Frag} {H H' : Hp} (s : ∀ a u, (∃ xs, u = HO.lst xs ∨ u = HO.tup xs) → Rd H a u → Rd H' a u) : ∀ (ds : List PyData) (vs : List V), DpAll K H vs ds → DpAll K H' vs ds
  | [], _, h => by cases h; exact .nil
  | d :: ds, _, h => by
    cases h with
    | cons h1 h2 => exact .cons (dpSame s d _ h1) (dpAllSame s ds _ h2)
end
theorem dpS {K : PySem.W.Frag} {H H' : Hp} (s : Same H H') {d : PyData} {v : V} (h : Dp K H v d) : Dp K H' v d := dpSame (fun _ _ _ r => s.rd r) d v h
theorem dpsS {K : PySem.W.Frag} {H H' : Hp} (s : Same H H') {ds : List PyData} {vs : List V} (h : DpAll K H vs ds) : DpAll K H' vs ds := dpAllSame (fun _ _ _ r => s.rd r) ds vs h
/-- a thing that is no list and no tuple may change -/
theorem dpB {K : PySem.W.Frag} {H H' : Hp} {p : Addr} (s : But p H H') (hp : ∀ u, Rd H p u → ∀ xs, u ≠ .lst xs ∧ u ≠ .tup xs) {d : PyData} {v : V} (h : Dp K H v d) : Dp K H' v d := by
  refine dpSame (fun a u hu r => ?_) d v h
  obtain ⟨xs, hu⟩ := hu
  have n : a ≠ p := by
    rintro rfl
    have := hp u r xs
    rcases hu with e | e
    · exact this.1 e
    · exact this.2 e
  rcases r with r | ⟨o, r⟩
  · exact .inl (s _ _ r n)
  · exact .inr ⟨o, s _ _ r n⟩
theorem dpsLen {K : PySem.W.Frag} {H : Hp} : ∀ {vs : List V} {ds : List PyData}, DpAll K H vs ds → vs.length = ds.length
  | [], _, h => by cases h; rfl
  | _ :: _, _, h => by cases h with | cons _ t => simp [dpsLen t]
theorem dpsAt {K : PySem.W.Frag} {H : Hp} : ∀ {vs : List V} {ds : List PyData} {i : Nat} {d : PyData}, DpAll K H vs ds → ds[i]? = some d → ∃ v, vs[i]? = some v ∧ Dp K H v d
  | [], _, i, d, h, e => by cases h; simp at e
  | v :: vs, _, i, d, h, e => by
    cases h with
    | cons h1 h2 =>
      cases i with
      | zero => simp at e; subst e; exact ⟨v, rfl, h1⟩
      | succ i => simp at e; obtain ⟨u, e1, e2⟩ := dpsAt h2 e; exact ⟨u, by simpa using e1, e2⟩
theorem dpsAtV {K : PySem.W.Frag} {H : Hp} : ∀ {vs : List V} {ds : List PyData} {i : Nat} {v : V}, DpAll K H vs ds → vs[i]? = some v → ∃ d, ds[i]? = some d ∧ Dp K H v d
  | [], _, i, v, h, e => by simp at e
  | v :: vs, _, i, u, h, e => by
    cases h with
    | cons h1 h2 =>
      cases i with
      | zero => simp at e; subst e; exact ⟨_, rfl, h1⟩
      | succ i => simp at e; obtain ⟨u, e1, e2⟩ := dpsAtV h2 e; exact ⟨u, by simpa using e1, e2⟩
theorem dpsApp {K : PySem.W.Frag} {H : Hp} : ∀ {vs us : List V} {ds es : List PyData}, DpAll K H vs ds → DpAll K H us es → DpAll K H (vs ++ us) (ds ++ es)
  | [], _, _, _, h, g => by cases h; exact g
  | _ :: _, _, _, _, h, g => by cases h with | cons h1 h2 => exact .cons h1 (dpsApp h2 g)
/-- a tuple's data by its items -/
theorem dpTup {K : PySem.W.Frag} {H : Hp} {v : V} {ds : List PyData} (h : Dp K H v (.tuple ds)) : ∃ a xs, v = .ref a ∧ SqT K H a xs ∧ DpAll K H xs ds := by
  cases h with
  | tup h1 h2 => exact ⟨_, _, rfl, h1, h2⟩
theorem dpLst {K : PySem.W.Frag} {H : Hp} {v : V} {ds : List PyData} (h : Dp K H v (.list ds)) : ∃ a xs, v = .ref a ∧ SqL K H a xs ∧ DpAll K H xs ds := by
  cases h with
  | lst h1 h2 => exact ⟨_, _, rfl, h1, h2⟩
theorem dpStr {K : PySem.W.Frag} {H : Hp} {v : V} {x : Str} (h : Dp K H v (.str x)) : v = .str x := by cases h; rfl
theorem dpInt {K : PySem.W.Frag} {H : Hp} {v : V} {x : Int} (h : Dp K H v (.int x)) : v = .int x := by cases h; rfl
theorem dpNone {K : PySem.W.Frag} {H : Hp} {v : V} (h : Dp K H v .none) : v = .non := by cases h; rfl
theorem dpNil {K : PySem.W.Frag} {H : Hp} {vs : List V} (h : DpAll K H vs []) : vs = [] := by cases h; rfl
theorem dpCons {K : PySem.W.Frag} {H : Hp} {vs : List V} {d : PyData} {ds : List PyData} (h : DpAll K H vs (d :: ds)) : ∃ v us, vs = v :: us ∧ Dp K H v d ∧ DpAll K H us ds := by
  cases h with
  | cons h1 h2 => exact ⟨_, _, rfl, h1, h2⟩

/-! ### forms -/
inductive Fm where
  | sign (s : Str)
  | row (ps : List Fm)
  | pick (ps : List Fm)
  | times (p : Fm) (low : Nat) (high : Option Nat)
def highD : Option Nat → PyData
  | none => .none
  | some h => .int h
def highV : Option Nat → V
  | none => .non
  | some h => .int h
theorem dpHigh {K : PySem.W.Frag} {H : Hp} {v : V} {o : Option Nat} (h : Dp K H v (highD o)) : v = highV o := by
  cases o with
  | none => exact dpNone h
  | some n => exact dpInt h
theorem highDp {K : PySem.W.Frag} {H : Hp} (o : Option Nat) : Dp K H (highV o) (highD o) := by
  cases o with
  | none => exact .non
  | some n => exact .int _
mutual
def Fm.dat : Fm → PyData
  | .sign s => .tuple [.str "sign", .str s]
  | .row ps => .tuple [.str "row", .tuple (Fm.dats ps)]
  | .pick ps => .tuple [.str "pick", .tuple (Fm.dats ps)]
  | .times p low high => .tuple [.str "times", p.dat, .int low, highD high]
def Fm.dats : List Fm → List PyData
  | [] => []
  | p :: ps => p.dat :: Fm.dats ps
end
theorem Fm.dats_map : ∀ ps : List Fm, Fm.dats ps = ps.map Fm.dat
  | [] => rfl
  | p :: ps => by rw [Fm.dats, Fm.dats_map ps, List.map_cons]
def Fm.kind : Fm → Str
  | .sign _ => "sign"
  | .row _ => "row"
  | .pick _ => "pick"
  | .times _ _ _ => "times"
def Fm.parts : Fm → List Fm
  | .sign _ => []
  | .row ps => ps
  | .pick ps => ps
  | .times p _ _ => [p]
abbrev FmAt (K : PySem.W.Frag) (H : Hp) (v : V) (f : Fm) : Prop := Dp K H v f.dat
abbrev FmsAt (K : PySem.W.Frag) (H : Hp) (vs : List V) (fs : List Fm) : Prop := DpAll K H vs (Fm.dats fs)
/-- every form is a tuple that begins with its kind -/
theorem fmTup {K : PySem.W.Frag} {H : Hp} {v : V} {f : Fm} (h : FmAt K H v f) : ∃ a xs, v = .ref a ∧ SqT K H a (.str f.kind :: xs) := by
  cases f with
  | sign s => obtain ⟨a, xs, rfl, h1, h2⟩ := dpTup h; obtain ⟨v, us, rfl, e, _⟩ := dpCons h2; cases dpStr e; exact ⟨a, us, rfl, h1⟩
  | row s => obtain ⟨a, xs, rfl, h1, h2⟩ := dpTup h; obtain ⟨v, us, rfl, e, _⟩ := dpCons h2; cases dpStr e; exact ⟨a, us, rfl, h1⟩
  | pick s => obtain ⟨a, xs, rfl, h1, h2⟩ := dpTup h; obtain ⟨v, us, rfl, e, _⟩ := dpCons h2; cases dpStr e; exact ⟨a, us, rfl, h1⟩
  | times s l u => obtain ⟨a, xs, rfl, h1, h2⟩ := dpTup h; obtain ⟨v, us, rfl, e, _⟩ := dpCons h2; cases dpStr e; exact ⟨a, us, rfl, h1⟩
theorem fmSign {K : PySem.W.Frag} {H : Hp} {v : V} {s : Str} (h : FmAt K H v (.sign s)) : ∃ a, v = .ref a ∧ SqT K H a [.str "sign", .str s] := by
  obtain ⟨a, xs, rfl, h1, h2⟩ := dpTup h; obtain ⟨v, us, rfl, e, h3⟩ := dpCons h2; cases dpStr e
  obtain ⟨v, us, rfl, e, h4⟩ := dpCons h3; cases dpStr e; cases dpNil h4; exact ⟨a, rfl, h1⟩
theorem fmRow {K : PySem.W.Frag} {H : Hp} {v : V} {ps : List Fm} (h : FmAt K H v (.row ps)) : ∃ a b vs, v = .ref a ∧ SqT K H a [.str "row", .ref b] ∧ SqT K H b vs ∧ FmsAt K H vs ps := by
  obtain ⟨a, xs, rfl, h1, h2⟩ := dpTup h; obtain ⟨v, us, rfl, e, h3⟩ := dpCons h2; cases dpStr e
  obtain ⟨v, us, rfl, e, h4⟩ := dpCons h3; obtain ⟨b, vs, rfl, h5, h6⟩ := dpTup e; cases dpNil h4; exact ⟨a, b, vs, rfl, h1, h5, h6⟩
theorem fmPick {K : PySem.W.Frag} {H : Hp} {v : V} {ps : List Fm} (h : FmAt K H v (.pick ps)) : ∃ a b vs, v = .ref a ∧ SqT K H a [.str "pick", .ref b] ∧ SqT K H b vs ∧ FmsAt K H vs ps := by
  obtain ⟨a, xs, rfl, h1, h2⟩ := dpTup h; obtain ⟨v, us, rfl, e, h3⟩ := dpCons h2; cases dpStr e
  obtain ⟨v, us, rfl, e, h4⟩ := dpCons h3; obtain ⟨b, vs, rfl, h5, h6⟩ := dpTup e; cases dpNil h4; exact ⟨a, b, vs, rfl, h1, h5, h6⟩
theorem fmTimes {K : PySem.W.Frag} {H : Hp} {v : V} {p : Fm} {low : Nat} {high : Option Nat} (h : FmAt K H v (.times p low high)) : ∃ a u, v = .ref a ∧ SqT K H a [.str "times", u, .int low, highV high] ∧ FmAt K H u p := by
  obtain ⟨a, xs, rfl, h1, h2⟩ := dpTup h; obtain ⟨v, us, rfl, e, h3⟩ := dpCons h2; cases dpStr e
  obtain ⟨u, us, rfl, e, h4⟩ := dpCons h3
  obtain ⟨v, us, rfl, e2, h5⟩ := dpCons h4; cases dpInt e2
  obtain ⟨v, us, rfl, e3, h6⟩ := dpCons h5; cases dpHigh e3; cases dpNil h6
  exact ⟨a, u, rfl, h1, e⟩
end Sw
set_option Elab.async false
set_option maxRecDepth 100000
set_option maxHeartbeats 4000000
namespace Sw
open PySem L2 PySem.Spec PyProof.Rows GenW
/-! ### any, all of a generator expression, its element of any kind -/
/-- a code object's table: it may grow -/
def TabE (P : Addr) : HO := .ext fun h => ∃ ps : Array Value, h.get? P = some { cls := .none, data := .fields ps } ∧ TriplesOk ps.toList
section
variable {X : Cx} {pins : List (Addr × Obj)} {σ : L2.St} {H : Hp} {s : Shared}
theorem tabE_ok {P : Program} {w : World} {h : Heap} {a : Addr} {ps : Array Value} (e : h.get? a = some { cls := .none, data := .fields ps }) (t : TriplesOk ps.toList) : ObjOk P w H h a (TabE a) :=
  ⟨⟨ps, e, t⟩, ⟨_, e⟩, fun _ _ ⟨ps, q, t⟩ k => ⟨ps, k _ q, t⟩⟩
theorem inv_tabE {P : Addr} {ps' : Array Value} {h' : Heap} {tk : Nat} (I : Inv X pins σ H s) (hP : H P = some (TabE P)) (k : ∀ b o, b ≠ P → s.heap.get? b = some o → h'.get? b = some o)
    (hm : h'.get? P = some { cls := .none, data := .fields ps' }) (ht : TriplesOk ps'.toList) : Inv X pins σ H { s with heap := h', toks := tk } := by
  have nN : ∀ b, H b = none → b ≠ P := fun b e z => by
    rw [z, hP] at e
    cases e
  have nO : ∀ b x, H b = some (.own x) → b ≠ P := fun b x e z => by
    rw [z, hP] at e
    cases e
  refine I.step (g' := s.gens) (d' := s.drawn) (ch := []) (fun b hb => absurd hb (by simp)) (fun b o _ _ _ e n => k b o (nN b n) e) (fun b o _ _ _ e n => ⟨o.slots, k b o (nN b n) e⟩) (fun _ _ _ _ n => n) (fun b o _ e => ?_)
    (fun _ _ e => e) (fun _ _ _ e => e) (fun b ps e => ⟨#[], by rw [e]; simp⟩) (fun m hn => ?_) (fun b u e => ?_) I.bare
  · by_cases hb : b = P
    · rw [hb]
      exact ⟨_, hm⟩
    · exact ⟨o, k b o hb e⟩
  · obtain ⟨ob, es, ep, ho, r⟩ := hn
    exact ⟨ob, es, ep, k _ ob (nN _ I.free) ho, r⟩
  · by_cases hb2 : b = P
    · subst hb2
      rw [hP] at e
      cases e
      exact tabE_ok hm ht
    · refine (I.hok b u e).stay (fun d v hd q => k d v ?_ q) (fun _ q => q) fun _ _ q => q
      rcases hd with z | z
      · rw [z]
        exact hb2
      · exact nO d _ z
theorem gen_code {M : Model} {A : Around} {E : Value → Shared → Prop} {c P : Addr} {gpos : Pos} {qual : Str} {scope : Scope} {Q : Value → Shared → Prop} (I : Inv X pins σ H s) (TB : GxR.TabB X.base X.mg c P) (hcode : X.env.code = .ref c) (hP : H P = some (TabE P))
    (hQ : ∀ code h' tk, Inv X pins σ H { s with heap := h', toks := tk } → (∀ b o, b ≠ P → s.heap.get? b = some o → h'.get? b = some o) → s.heap.objs.size ≤ h'.objs.size → Q code { s with heap := h', toks := tk }) :
    wpAny M A (genexprCode X.env gpos qual scope) Q E s := by
  obtain ⟨⟨ps, e, ht⟩, _⟩ := I.hok P _ hP
  have cd : PySem.W.CodeHd s.heap c P := TB.code.keeps fun b u e => I.bk b u e
  cases hf : codeAmong gpos ps.toList with
  | none =>
    refine wpAny_genexprCodeX hcode (cd.code e ht) (cd.tab e) hf fun c' h' tk hx hge hlt hco' _ htab' _ => ?_
    obtain ⟨o1, vs, f1, tf, fl, tg, inF, tx, tt, op, _, _, _, _, _, _, _, _, _, htr, _⟩ := hco'
    exact hQ _ h' tk (inv_tabE I hP hx htab'.2 htr) hx (Nat.le_trans hge (Nat.le_of_lt hlt))
  | some cv =>
    refine wpAny_genexprCode_hit hcode (cd.code e ht) hf ?_
    exact hQ cv s.heap s.toks I (fun _ _ _ q => q) (Nat.le_refl _)
/-! ### the frame -/
abbrev genv (X : Cx) (scope : Scope) (C : Addr) (code : Value) : Env := genEnv scope (cloFrom X.env.cells scope.names []) C code builtinsNs X.env
abbrev _root_.L2.Cx.gen (X : Cx) (s : Shared) (H : Hp) (scope : Scope) (C : Addr) (code : Value) (A' : Around) (fp : List Addr) (pn : List (Addr × Obj)) : Cx :=
  { X with A := A', s_0 := s, H_0 := H, env := genv X scope C code, outer := X.stack, stack := genv X scope C code :: X.stack, ex := fp, fn := fun _ => false, calm := true, pn := pn, xe := fun _ _ => False }
structure GenSc (scope : Scope) : Prop where
  co : (scope.isCoroutine : Bool) = false
  cell : ∀ nk ∈ scope.names, nk.2 ≠ NameKind.cell
  dot : scope.names.lookup (".0" : Str) = some (.local : NameKind)
theorem gen_start {scope : Scope} {own : List (Str × Nat)} {fp : List Addr} {pn : List (Addr × Obj)} {C : Addr} {code : Value} {A' : Around} {s' : Shared} {m : Str → Option Value} (I : Inv X pins σ H s) (ok : BlkOk X.N X.env.scope scope own) (G : GenSc scope) (hN : X.N.Nodup)
    (hfp : ∀ b ∈ fp, FpOk X pins H b ∧ b < s.heap.objs.size) (hC : s.heap.objs.size ≤ C) (hA : A'.handled = none) (hF : A'.frames = some (genv X scope C code :: X.stack))
    (hos : s'.os = s.os) (hb : AllBare s'.gens) (k : ∀ b o, s.heap.get? b = some o → s'.heap.get? b = some o) (hn : s'.heap.Ns C m)
    (hpn : ∀ p ∈ pn, s'.heap.get? p.1 = some p.2 ∧ s.heap.objs.size ≤ p.1 ∧ p.1 ≠ C ∧ ∀ v, p.2.data ≠ .cell v) :
    Inv (X.gen s H scope C code A' fp pn) [] (wipe σ (own.map (·.2))) H s' := by
  have hCap : ∀ y ∈ scope.names, y.2 = .free → ∃ c, X.env.cells.lookup y.1 = some c := fun y hy e => by
    rcases ok.free y hy e with k | k
    · exact I.ok.has _ (.inl k)
    · exact I.ok.has _ (.inr k)
  have cm : ∀ {y c}, (cloFrom X.env.cells scope.names []).lookup y = some c → X.env.cells.lookup y = some c := fun {y c} e => NdefX.clo_cm hCap e
  have clt : ∀ {y c}, X.env.cells.lookup y = some c → c < s.heap.objs.size := fun {y c} e => by
    obtain ⟨w, z⟩ := I.cell _ _ e
    exact z.lt
  have okG : (X.gen s H scope C code A' fp pn).Ok := by
    refine ⟨I.ok.mod, ok.kind, I.ok.glob, rfl, hC, fun y z c e1 e2 => I.ok.inj y z c (cm e1) (cm e2), fun y hy => ?_, fun y c z => (by cases z), fun _ => hA, hF, .inr ⟨rfl, rfl⟩, fun b hb => ⟨?_, fun y c e z => ?_⟩, I.bs, Nat.le_trans I.ok.bsz I.sz, fun b o e hb => ?_, fun b hb z => ?_, I.stack, I.stkFree⟩
    · have hy : scope.names.lookup y = some .cell ∨ scope.names.lookup y = some .free := hy
      rcases hy with hy | hy
      · exact absurd rfl (G.cell _ (PySem.mem_of_lookup hy))
      · obtain ⟨c, hc⟩ := hCap _ (PySem.mem_of_lookup hy) rfl
        exact ⟨c, NdefX.clo_has hCap (PySem.mem_of_lookup hy) hc⟩
    · exact Nat.ne_of_lt (Nat.lt_of_lt_of_le (hfp b hb).2 hC)
    · exact (hfp b hb).1.2.2.2.2.1 y c (cm e) z
    · rcases (hfp b hb).1.2.2.2.1 with z | z
      · exact I.ok.noex b o e z
      · exact absurd (Nat.lt_of_lt_of_le (Heap.lt_size e) (Nat.le_trans I.ok.bsz z)) (Nat.lt_irrefl _)
    · rcases List.mem_cons.mp (I.stkSub b z) with z | z
      · exact (hfp b hb).1.2.1 z
      · exact (hfp b hb).1.2.2.1 z
  refine ⟨okG, hos, hb, Un.kept k, ⟨m, hn, fun i y av e1 e2 e3 => ?_⟩, fun y c e => ?_, I.hok.fresh hC, fun y c e => I.freeC y c (cm e), fun p hp => ?_, I.hok.kept k, by rw [wipe_length]; exact I.len⟩
  · obtain ⟨e2, hne⟩ := wipe_some e2
    have no : ∀ kd, scope.names.lookup y = some kd → ¬ (kd = .local ∨ kd = .cell) := fun kd e hh => by
      rcases ok.own _ (PySem.mem_of_lookup e) hh with e' | e'
      · obtain ⟨p, hp, hpy⟩ := List.mem_map.mp e'
        have e3 := ok.ix p hp
        have : p.1 = y := hpy
        rw [this] at e3
        exact hne (List.mem_map.mpr ⟨p, hp, nodup_ix hN e3 e1⟩)
      · exact e' (List.mem_of_getElem? e1)
    have e3 : Vis scope y := e3
    have hfr : scope.names.lookup y = some .free := by
      rcases e3 with e3 | e3 | e3
      · exact absurd (.inl rfl) (no _ e3)
      · exact absurd (.inr rfl) (no _ e3)
      · exact e3
    obtain ⟨m0, hn0, hl⟩ := I.loc
    have hsc := ok.free _ (PySem.mem_of_lookup hfr) rfl
    have hVs : Vis X.env.scope y := hsc.elim (fun k => .inr (.inl k)) (fun k => .inr (.inr k))
    obtain ⟨w, r, q⟩ := hl i y av e1 e2 hVs
    refine ⟨w, r, .inr ⟨.inr hfr, ?_⟩⟩
    rcases q with ⟨kk, _⟩ | ⟨_, c', e', z⟩
    · have kk : X.env.scope.names.lookup y = some .local := kk
      rcases hsc with k1 | k1 <;> rw [show X.env.scope.names.lookup y = _ from k1] at kk <;> cases kk
    · exact ⟨c', NdefX.clo_has hCap (PySem.mem_of_lookup hfr) e', z.keeps k⟩
  · obtain ⟨w, z⟩ := I.cell y c (cm e)
    exact ⟨w, z.keeps k⟩
  · have hp : p ∈ pn := by simpa using hp
    obtain ⟨h1, h2, h3, h4⟩ := hpn p hp
    refine ⟨h1, I.hok.fresh h2, h3, fun z => ?_, h4⟩
    rcases List.mem_cons.mp (I.stkSub p.1 z) with z | z
    · exact absurd I.lt (by rw [← z]; exact Nat.not_lt.mpr h2)
    · exact I.nofs h2 z
end
end Sw
set_option Elab.async false
set_option maxRecDepth 100000
set_option maxHeartbeats 4000000
namespace Sw
open PySem L2 PySem.Spec PyProof.Rows GenW
/-! ### the generator's turns -/
/-- behind what the consumer does meanwhile: all objects stand, generators and tokens may have changed -/
theorem inv_later {X : Cx} {pins : List (Addr × Obj)} {σ : L2.St} {H : Hp} {s s' : Shared} (I : Inv X pins σ H s) (k : ∀ b o, s.heap.get? b = some o → s'.heap.get? b = some o) (hos : s'.os = s.os) (hb : AllBare s'.gens) : Inv X pins σ H s' :=
  I.call' (ch := []) hos (Un.kept k) (I.hok.kept k) hb fun b hb => absurd hb (by simp)
section
variable {X : Cx} {tg elt iter : Expr} {scope : Scope} {pos : Pos} {it : Addr}
abbrev genC (tg elt iter : Expr) (scope : Scope) (pos : Pos) (it : Addr) (env : Env) : Code := .compLoop (.GeneratorExp elt [⟨tg, iter, [], 0⟩] scope pos) 0 (.ref it) .none env
abbrev genS (tg elt iter : Expr) (scope : Scope) (pos : Pos) (it : Addr) (env : Env) : Code := .compStart (.GeneratorExp elt [⟨tg, iter, [], 0⟩] scope pos) 0 (.ref it) .none env
/-- at its end -/
def RG (X : Cx) (QT : Hp → Prop) : Nat → Shared → Shared → Prop := fun _ _ s₁ => ∃ σc H, Inv X [] σc H s₁ ∧ QT H
/-- a truth is handed out; if it is go, it may be asked on -/
def YG (X : Cx) (go : Bool) (QF : Hp → Prop) : Protocol := fun _ _ v s kap => ∃ b σc H, v = .bool b ∧ Inv X [] σc H s ∧ (b = !go → QF H) ∧
  (b = go → ∀ s'', (∀ b o, s.heap.get? b = some o → s''.heap.get? b = some o) → s''.os = s.os → AllBare s''.gens → kap (.send .none) s'')
/-- what a generator expression's walk asks: go the truth by which its consumer goes on -/
def GWalk (go : Bool) (J : It) (g : TG) (te : TE) (σ0 : L2.St) (vs : List Nat) (QT QF : Hp → Prop) (W : Nat → Nat → Hp → Prop) : Prop := ∀ i m H, W i m H →
  (J.stop i H ∧ QT H) ∨ (J.go i H ∧ ∃ Nx : Hp → Prop, (∀ H', Nx H' → ∃ m', m' < m ∧ W (i + 1) m' H') ∧ ∀ x H', J.yld i H x H' → g x σ0 H' fun σ2 H2 => wipe σ2 vs = σ0 ∧ te σ2 H2 fun y H3 => ∃ b, y = .bl b ∧ if b = go then Nx H3 else QF H3)
theorem seg_turns {A : Around} {fp : List Addr} {tn : Nat → Heap → Prop} {J : It} {g : TG} {te : TE} {go : Bool} {σ0 : L2.St} {vs : List Nat} {QT QF : Hp → Prop} {W : Nat → Nat → Hp → Prop}
    (hA : A.over (genC tg elt iter scope pos it X.env) [] = X.A) (hc : X.calm = true) (hx : X.xe = fun _ _ => False) (hco : X.env.scope.isCoroutine = false) (hex : ∀ b ∈ fp, b ∈ X.ex ∧ b ≠ X.env.locals ∧ b ∉ X.fs ∧ (∀ x c, X.env.cells.lookup x = some c → c ≠ b) ∧ ∀ p ∈ X.pn, p.1 ≠ b)
    (T : Turn X.prog X.w X.K tg J fp it tn) (hg : PG X tg g) (he : PE X elt te) (hw : ∀ σ : L2.St, wipe (wipe σ vs) vs = wipe σ vs) (turn : GWalk go J g te σ0 vs QT QF W) :
    ∀ (n m i : Nat) (σc : L2.St) (H : Hp) (s₀ s : Shared), m < n → W i m H → Inv X [] σc H s → wipe σc vs = σ0 → tn i s.heap → (∀ b ∈ fp, H b = none) →
      Seg (model X.prog X.w) A (fun n s₀ r s₁ => r = .ok .next ∧ RG X QT n s₀ s₁) (YG X go QF) n s₀ (genC tg elt iter scope pos it X.env) ((model X.prog X.w).den (genC tg elt iter scope pos it X.env)) [] s := by
  intro n
  induction n with
  | zero => intro m i σc H s₀ s h; exact absurd h (Nat.not_lt_zero _)
  | succ n ih =>
    intro m i σc H s₀ s hm w0 I hσ st fr
    have stat : ∀ {H' : Hp}, (∀ b ∈ fp, H' b = none) → ∀ b ∈ fp, FpOk X [] H' b := fun {H'} hn b hb => by
      obtain ⟨h1, h2, h3, h4, h5⟩ := hex b hb
      exact ⟨hn b hb, h2, h3, .inl h1, h4, fun p hp => h5 p (by simpa using hp)⟩
    have I0 : Inv X [] σ0 H s := I.weak (by rw [← hσ, wipe_length]) fun i v e => by rw [← hσ] at e; exact (wipe_some e).1
    show Seg _ A _ _ _ s₀ _ ((compTurn (.GeneratorExp elt [⟨tg, iter, [], 0⟩] scope pos) 0 (.ref it) .none X.env).onRaise (leaving X.env)) [] s
    rw [compTurn_gen, Sem.onRaise_eq_wrap]
    refine seg_bind_wrap (wpAny_standAt ?_)
    rcases turn i m H w0 with ⟨stop, qt⟩ | ⟨hgo, Nx, hN, step⟩
    · refine seg_bind_wrap ?_
      rw [hA]
      refine thn (T.done X rfl rfl rfl hc i [] s σ0 H _ I0 (stat fr) st stop) fun r s1 ⟨hr, I1⟩ => ?_
      subst hr
      exact seg_end (.ok .next) ⟨rfl, σ0, H, I1, qt⟩
    · refine seg_bind_wrap ?_
      rw [hA]
      refine thn (T.item X rfl rfl rfl hc i [] s σ0 H _ I0 (stat fr) st hgo) fun r s1 ⟨u, hr, h1⟩ => ?_
      subst hr
      refine seg_bind_wrap ?_
      rw [hA]
      refine thn h1 fun _ s2 ⟨x, H2, I2, r2, y2, st2, fr2⟩ => ?_
      have I2' := I2.pinned (stat fr2) (T.obj _ _ st2)
      refine seg_bind_wrap ?_
      rw [hA]
      have h3 := hg.run _ s2 σ0 H2 x u _ I2' r2 (step x H2 y2)
      rw [hx] at h3
      refine thnF h3 fun _ s3 ⟨σ3, H3, I3, w3, q3⟩ => ?_
      refine seg_bind_wrap ?_
      rw [List.forIn_nil]
      refine wpAny_pure ?_
      simp only [if_true]
      have hy : ∀ v, yieldOut X.env v = yieldValue v := fun v => by simp only [yieldOut, hco, Bool.false_eq_true, if_false]
      simp only [hy]
      rw [Sem.bind_eq_wrap', Sem.bind_eq_wrap', Sem.wrap_wrap, Sem.wrap_wrap]
      refine seg_wrap ?_
      rw [hA]
      have h4 := he.run _ s3 σ3 H3 _ I3 q3
      rw [hx] at h4
      refine thnF h4 fun v s4 ⟨y, H4, I4, r4, b, ey, q4⟩ => ?_
      subst ey
      obtain rfl : v = Value.bool b := r4
      have fr4 : ∀ b ∈ fp, H4 b = none := fun b hb => by
        obtain ⟨o, e, d⟩ := T.obj _ _ st2 b hb
        exact (I4.pin (b, o) (List.mem_append_right _ (List.mem_append_right _ (mem_pinsAt hb e)))).2.1
      have kp4 : ∀ b ∈ fp, ∀ o, s2.heap.get? b = some o → s4.heap.get? b = some o := fun b hb o e => (I4.pin (b, o) (List.mem_append_right _ (List.mem_append_right _ (mem_pinsAt hb e)))).1
      have I4' := I4.unpinned
      refine seg_at (seg_yield rfl rfl rfl ⟨b, σ3, H4, rfl, I4', fun hb => ?_, fun hb s'' k hos hbr => ?_⟩)
      · rw [if_neg (by rw [hb]; cases go <;> decide)] at q4
        exact q4
      · rw [if_pos hb] at q4
        obtain ⟨m', hm', w4⟩ := hN H4 q4
        refine seg_again rfl (ih m' (i + 1) σ3 H4 s'' s'' (by omega) w4 (inv_later I4' k hos hbr) w3 (T.keep _ _ _ st2 fun b hb o e => k b o (kp4 b hb o e)) fr4)
/-- .. begun -/
theorem seg_begin {A : Around} {fp : List Addr} {tn : Nat → Heap → Prop} {J : It} {g : TG} {te : TE} {go : Bool} {σ0 : L2.St} {vs : List Nat} {QT QF : Hp → Prop} {W : Nat → Nat → Hp → Prop}
    (hA : A.over (genC tg elt iter scope pos it X.env) [] = X.A) (hc : X.calm = true) (hx : X.xe = fun _ _ => False) (hco : X.env.scope.isCoroutine = false) (hex : ∀ b ∈ fp, b ∈ X.ex ∧ b ≠ X.env.locals ∧ b ∉ X.fs ∧ (∀ x c, X.env.cells.lookup x = some c → c ≠ b) ∧ ∀ p ∈ X.pn, p.1 ≠ b)
    (T : Turn X.prog X.w X.K tg J fp it tn) (hg : PG X tg g) (he : PE X elt te) (hw : ∀ σ : L2.St, wipe (wipe σ vs) vs = wipe σ vs) (turn : GWalk go J g te σ0 vs QT QF W)
    (n m : Nat) (σc : L2.St) (H : Hp) (s₀ s : Shared) (hm : m < n) (w0 : W 0 m H) (I : Inv X [] σc H s) (hσ : wipe σc vs = σ0) (st : tn 0 s.heap) (fr : ∀ b ∈ fp, H b = none) :
      Seg (model X.prog X.w) A (fun n s₀ r s₁ => r = .ok .next ∧ RG X QT n s₀ s₁) (YG X go QF) n s₀ (genS tg elt iter scope pos it X.env) ((model X.prog X.w).den (genS tg elt iter scope pos it X.env)) [] s := by
  have loop := seg_turns (scope := scope) (pos := pos) (iter := iter) hA hc hx hco hex T hg he hw turn n m 0 σc H s₀ s hm w0 I hσ st fr
  show Seg _ A _ _ _ s₀ _ ((compStart (.GeneratorExp elt [⟨tg, iter, [], 0⟩] scope pos) 0 (.ref it) .none X.env).onRaise (leaving X.env)) [] s
  unfold compStart
  rw [Sem.onRaise_eq_wrap]
  show Seg _ A _ _ _ s₀ _ ((ask >>= _).wrap _ _ _ _) [] s
  refine seg_bind_wrap (wpAny_askSetting ?_)
  split
  · exact seg_again rfl loop
  · refine seg_bind_wrap (wpAny_rule ?_)
    show Seg _ A _ _ _ s₀ _ ((standAt iter.pos >>= _).wrap _ _ _ _) [] s
    exact seg_bind_wrap (wpAny_standAt (seg_bind_wrap (T.self _ 0 s _ _ st (seg_again rfl loop))))
end
end Sw
set_option Elab.async false
set_option maxRecDepth 100000
set_option maxHeartbeats 4000000
namespace Sw
open PySem L2 PySem.Spec PyProof.Rows GenW
/-! ### all, any: the consumer -/
section
variable {X : Cx} {A : Around} {a : Addr} {g : Nat} {go : Bool} {QT QF : Hp → Prop} {R : Result → Shared → Prop}
/-- the generator sleeps or has not begun; it may be asked so often -/
def GSt (X : Cx) (A : Around) (g : Nat) (go : Bool) (QT QF : Hp → Prop) (n : Nat) (s : Shared) : Prop :=
  (∃ σc H, Inv X [] σc H s) ∧ ∃ gs, s.gens[g]? = some gs ∧ gs.Goes (model X.prog X.w) A.in1.in1 (fun n s₀ r s₁ => r = .ok .next ∧ RG X QT n s₀ s₁) (YG X go QF) n (.send .none) (s.setGen g .running)
theorem gen_next {E : Value → Shared → Prop} {n : Nat} {s : Shared} {Q : Option Value → Shared → Prop} (hh : A.handled = none) (hroom : A.depth < recursionLimit) (hpn : ∀ s' : Shared, (∀ p ∈ X.pn, s'.heap.get? p.1 = some p.2) → s'.heap.IsGen a g) (st : GSt X A g go QT QF n s)
    (hE : ∀ σc H s', Inv X [] σc H s' → QT H → Q none s') (hF : ∀ σc H s', Inv X [] σc H s' → QF H → Q (some (.bool (!go))) s') (hG : ∀ m s', n = m + 1 → GSt X A g go QT QF m s' → Q (some (.bool go)) s') :
    wpAny (model X.prog X.w) A.in1 (pyNext (.ref a)) Q E s := by
  obtain ⟨⟨σc, H, I⟩, gs, hgs, hgo⟩ := st
  have isg : ∀ {σc : L2.St} {H : Hp} {s' : Shared}, Inv X [] σc H s' → s'.heap.IsGen a g := fun I => hpn _ fun p hp => (I.pin p (List.mem_append_left _ hp)).1
  have hlt : g < s.gens.size := by
    rcases Nat.lt_or_ge g s.gens.size with h | h
    · exact h
    · rw [Array.getElem?_eq_none h] at hgs; cases hgs
  refine wpAny_gsz (n := s.gens.size) (Nat.le_refl _) ?_
  refine wpAny_pyNext_genexpQ (A := A.in1) (Y := YG X go QF) (P := RG X QT) hh I.nolimit hroom (isg I) hgs hgo (fun v s₁ gs' hb hv hsz => ?_) (fun s₁ hp h' hk hsz => ?_)
  · obtain ⟨b, σ1, H1, rfl, I1, q0, q1⟩ := hv
    have hsz : s.gens.size ≤ s₁.gens.size := by rw [← setGen_size s₁ g gs']; exact hsz
    have I2 : Inv X [] σ1 H1 (s₁.setGen g gs') := inv_later I1 (fun _ _ e => e) rfl (allBare_setGen I1.bare hb)
    by_cases e : b = go
    · have k := q1 e ((s₁.setGen g gs').setGen g .running) (fun _ _ e => e) rfl (allBare_setGen (allBare_setGen I1.bare hb) rfl)
      cases n with
      | zero => exact k.elim
      | succ m =>
        rw [e]
        exact hG m _ rfl ⟨⟨σ1, H1, I2⟩, gs', setGen_at (Nat.lt_of_lt_of_le hlt hsz), k⟩
    · have e2 : b = !go := by cases b <;> cases go <;> simp_all
      rw [e2]
      exact hF σ1 H1 _ I2 (q0 e2)
  · obtain ⟨σ1, H1, I1, qt⟩ := hp
    exact hE σ1 H1 _ (inv_later (s := s₁) I1 hk rfl (allBare_setGen I1.bare rfl)) qt
theorem all_loop (hh : A.handled = none) (hroom : A.depth < recursionLimit) (hpn : ∀ s' : Shared, (∀ p ∈ X.pn, s'.heap.get? p.1 = some p.2) → s'.heap.IsGen a g)
    (hT : ∀ σc H s', Inv X [] σc H s' → QT H → R (.ok (.ret (.bool true))) s') (hF : ∀ σc H s', Inv X [] σc H s' → QF H → R (.ok (.ret (.bool false))) s') :
    ∀ (n : Nat) (s : Shared), GSt X A g true QT QF n s → codeAny (model X.prog X.w) A (.builtin "all.loop" ⟨[.ref a], []⟩) R s := by
  intro n
  induction n with
  | zero =>
    intro s st
    refine codeAny_builtin F.entry_all_loop ?_
    rw [Around.under_plainId F.plain_all_loop _]
    show wpAny _ A.in1 (pyNext (.ref a) >>= _) _ _ s
    refine wpAny_bind (gen_next hh hroom hpn st (fun σc H s' I q => ?_) (fun σc H s' I q => ?_) (fun m s' e => by cases e))
    · exact wpAny_bind (wpAny_rule (wpAny_pure (hT σc H s' I q)))
    · refine wpAny_bind (wpAny_holding (wpAny_truthy_bool ?_))
      refine wpAny_bind (wpAny_letGo ?_)
      simp only [Bool.not_true, Bool.false_eq_true, if_false]
      exact wpAny_bind (wpAny_rule (wpAny_pure (hF σc H s' I q)))
  | succ n ih =>
    intro s st
    refine codeAny_builtin F.entry_all_loop ?_
    rw [Around.under_plainId F.plain_all_loop _]
    show wpAny _ A.in1 (pyNext (.ref a) >>= _) _ _ s
    refine wpAny_bind (gen_next hh hroom hpn st (fun σc H s' I q => ?_) (fun σc H s' I q => ?_) (fun m s' e st' => ?_))
    · exact wpAny_bind (wpAny_rule (wpAny_pure (hT σc H s' I q)))
    · refine wpAny_bind (wpAny_holding (wpAny_truthy_bool ?_))
      refine wpAny_bind (wpAny_letGo ?_)
      simp only [Bool.not_true, Bool.false_eq_true, if_false]
      exact wpAny_bind (wpAny_rule (wpAny_pure (hF σc H s' I q)))
    · cases e
      refine wpAny_bind (wpAny_holding (wpAny_truthy_bool ?_))
      refine wpAny_bind (wpAny_letGo ?_)
      simp only [if_true]
      exact wpAny_pure ⟨plainId_quiet F.plain_all_loop _, ih s' st'⟩
theorem any_loop (hh : A.handled = none) (hroom : A.depth < recursionLimit) (hpn : ∀ s' : Shared, (∀ p ∈ X.pn, s'.heap.get? p.1 = some p.2) → s'.heap.IsGen a g)
    (hT : ∀ σc H s', Inv X [] σc H s' → QT H → R (.ok (.ret (.bool false))) s') (hF : ∀ σc H s', Inv X [] σc H s' → QF H → R (.ok (.ret (.bool true))) s') :
    ∀ (n : Nat) (s : Shared), GSt X A g false QT QF n s → codeAny (model X.prog X.w) A (.builtin "any.loop" ⟨[.ref a], []⟩) R s := by
  intro n
  induction n with
  | zero =>
    intro s st
    refine codeAny_builtin F.entry_any_loop ?_
    rw [Around.under_plainId F.plain_any_loop _]
    show wpAny _ A.in1 (pyNext (.ref a) >>= _) _ _ s
    refine wpAny_bind (gen_next hh hroom hpn st (fun σc H s' I q => ?_) (fun σc H s' I q => ?_) (fun m s' e => by cases e))
    · exact wpAny_bind (wpAny_rule (wpAny_pure (hT σc H s' I q)))
    · refine wpAny_bind (wpAny_holding (wpAny_truthy_bool ?_))
      refine wpAny_bind (wpAny_letGo ?_)
      simp only [Bool.not_false, if_true]
      exact wpAny_bind (wpAny_rule (wpAny_pure (hF σc H s' I q)))
  | succ n ih =>
    intro s st
    refine codeAny_builtin F.entry_any_loop ?_
    rw [Around.under_plainId F.plain_any_loop _]
    show wpAny _ A.in1 (pyNext (.ref a) >>= _) _ _ s
    refine wpAny_bind (gen_next hh hroom hpn st (fun σc H s' I q => ?_) (fun σc H s' I q => ?_) (fun m s' e st' => ?_))
    · exact wpAny_bind (wpAny_rule (wpAny_pure (hT σc H s' I q)))
    · refine wpAny_bind (wpAny_holding (wpAny_truthy_bool ?_))
      refine wpAny_bind (wpAny_letGo ?_)
      simp only [Bool.not_false, if_true]
      exact wpAny_bind (wpAny_rule (wpAny_pure (hF σc H s' I q)))
    · cases e
      refine wpAny_bind (wpAny_holding (wpAny_truthy_bool ?_))
      refine wpAny_bind (wpAny_letGo ?_)
      simp only [Bool.false_eq_true, if_false]
      exact wpAny_pure ⟨plainId_quiet F.plain_any_loop _, ih s' st'⟩
end
/-! ### the generator made -/
section
variable {X : Cx} {tg elt iter : Expr} {scope : Scope} {own : List (Str × Nat)} {c P : Addr} {k : Nat} {wi : TI} {g : TG} {te : TE} {go : Bool} {gpos : Pos}
def tGen (P : Addr) (wi : TI) (g : TG) (te : TE) (vs : List Nat) (go : Bool) : TE := fun σ H Q => wi σ H fun J H1 => H1 P = some (TabE P) ∧ ∃ W : Nat → Nat → Hp → Prop, (∃ m, W 0 m H1) ∧
  GWalk go J g te (wipe σ vs) vs (fun H => Q (.bl go) H) (fun H => Q (.bl (!go)) H) W
abbrev genAr (X : Cx) (G : Expr) (it : Addr) (env : Env) : Around := X.A.in1.in1.over (.compLoop G 0 (.ref it) .none env) []
theorem wipe2 (σ : L2.St) (vs : List Nat) : wipe (wipe σ vs) vs = wipe σ vs := by
  refine List.ext_getElem? fun i => ?_
  by_cases h : i ∈ vs
  · by_cases hi : i < σ.length
    · have q : ∀ τ : L2.St, i < τ.length → (wipe τ vs)[i]? = some none := fun τ ht => by
        cases e : (wipe τ vs)[i]? with
        | none => rw [List.getElem?_eq_none_iff, wipe_length] at e; omega
        | some o =>
          cases o with
          | none => rfl
          | some v => exact absurd h (wipe_some e).2
      rw [q _ (by rw [wipe_length]; exact hi), q _ hi]
    · rw [List.getElem?_eq_none (by rw [wipe_length, wipe_length]; omega), List.getElem?_eq_none (by rw [wipe_length]; omega)]
  · rw [wipe_out h]
theorem room_gen {e : Expr} {it : Addr} {env : Env} {A : Around} (hr : Room (k + 1) A) {sc : Scope} {gs : List Comprehension} {ps : Pos} : Room k (A.in1.in1.over (.compLoop (.GeneratorExp e gs sc ps) 0 (.ref it) .none env) []) := by
  refine ⟨hr.hd, ?_, ?_⟩
  · have := hr.dp
    show A.depth + 0 + (1 + 0 + 0 + 0) + 3 * k + 5 < _
    omega
  · have := hr.un
    show A.units + 1 + 1 + 0 + 3 * 1 + 16 * k + 200 < _
    omega
theorem gen_made {pins : List (Addr × Obj)} {s : Shared} {σ : L2.St} {H : Hp} {Q : VK} {Q' : Value → Shared → Prop} (hr : Room (k + 1) X.A) (hN : X.N.Nodup) (TB : GxR.TabB X.base X.mg c P) (hcode : X.env.code = .ref c) (ok : BlkOk X.N X.env.scope scope own) (G : GenSc scope) (hi : PI X tg iter wi)
    (hg : ∀ (s : Shared) (H : Hp) (C : Addr) (code : Value) (A' : Around) (fp : List Addr) (pn : List (Addr × Obj)), Room k A' → PG (X.gen s H scope C code A' fp pn) tg g)
    (he : ∀ (s : Shared) (H : Hp) (C : Addr) (code : Value) (A' : Around) (fp : List Addr) (pn : List (Addr × Obj)), Room k A' → PE (X.gen s H scope C code A' fp pn) elt te)
    (hs : ∀ v, genFold iter X.env v = pure v) (I : Inv X pins σ H s) (h : tGen P wi g te (own.map (·.2)) go σ H Q)
    (hQ : ∀ (X' : Cx) (a : Addr) (gn n : Nat) (s' : Shared), X'.prog = X.prog → X'.w = X.w → (∀ s' : Shared, (∀ p ∈ X'.pn, s'.heap.get? p.1 = some p.2) → s'.heap.IsGen a gn) → GSt X' X.A gn go (fun H => Q (.bl go) H) (fun H => Q (.bl (!go)) H) n s' →
      (∀ σc H s', Inv X' [] σc H s' → Inv X pins σ H s') → s'.heap.IsGen a gn → Q' (.ref a) s') :
    wpAny (model X.prog X.w) X.A (eval (.GeneratorExp elt [⟨tg, iter, [], 0⟩] scope gpos) X.env) Q' X.xe s := by
  have hCap : ∀ y ∈ scope.names, y.2 = .free → ∃ c, X.env.cells.lookup y.1 = some c := fun y hy e => by
    rcases ok.free y hy e with k | k
    · exact I.ok.has _ (.inl k)
    · exact I.ok.has _ (.inr k)
  refine wpAny_GeneratorExp_make G.co (closure_ok hCap) G.cell G.dot ok.kind (by have := hr.dp; omega) ?_ hs
  refine thn (hi.run pins s σ H _ I h) fun xv s1 hx => thn hx fun itv s2 h2 => ?_
  obtain ⟨it, fp, tn, J, H2, e, I2, T, st2, f2, hP, W, ⟨m0, w0⟩, turn⟩ := h2
  subst e
  refine ⟨I2.nolimit, gen_code I2 TB hcode hP fun code h3 tk3 I3 k3 hsz3 => ?_⟩
  obtain ⟨bm, ob, e1, e2, e3, e4, e5, e6, e7, e8⟩ := TB.bm
  refine wpAny_builtinsFor (m := X.mg) (by rw [I3.ok.glob]; exact I3.mod.glob.keeps I3.bk) e1 e2 (I3.bk _ _ e5) e6 e7 e8 ?_
  generalize hs3 : ({ s2 with heap := h3, toks := tk3 } : Shared) = s3 at I3
  have eh3 : h3 = s3.heap := by rw [← hs3]
  subst eh3
  intro h' hn' hsb
  have es3 : s2.gens = s3.gens := by rw [← hs3]
  have st3 : tn 0 s3.heap := T.keep _ _ _ st2 fun b hb o e => k3 b o (fun z => by
    have := (f2 b hb).1
    rw [z, hP] at this
    cases this) e
  have sz3 : ∀ b ∈ fp, b < s3.heap.objs.size := fun b hb => by
    obtain ⟨o, e, _⟩ := T.obj _ _ st3 b hb
    exact Heap.lt_size e
  have hsz : h'.objs.size = s3.heap.objs.size + 1 := by rw [hsb.1, Heap.size_push]
  have keep' : ∀ b o, s3.heap.get? b = some o → h'.get? b = some o := fun b o e => hsb.extBut b o (Nat.ne_of_lt (Heap.lt_size e)) (Heap.get?_push_of_some _ e)
  generalize hgo : ({ cls := .type "generator", data := .fields #[.int s3.gens.size 0, .str "<genexpr>" (s3.toks + 1), .str (X.env.qual ++ "<genexpr>") (s3.toks + 1 + 1)] } : Obj) = gobj
  have keep5 : ∀ b o, s3.heap.get? b = some o → (h'.push gobj).get? b = some o := fun b o e => Heap.get?_push_of_some _ (keep' b o e)
  generalize hGE : (Expr.GeneratorExp elt [⟨tg, iter, [], 0⟩] scope gpos) = GE
  have hX : ∃ X', X' = X.gen s3 H2 scope s3.heap.objs.size code (genAr X GE it (genv X scope s3.heap.objs.size code)) fp [(h'.objs.size, gobj)] := ⟨_, rfl⟩
  obtain ⟨X', eX⟩ := hX
  have isg : ∀ s' : Shared, (∀ p ∈ X'.pn, s'.heap.get? p.1 = some p.2) → s'.heap.IsGen h'.objs.size s3.gens.size := fun s' hp => by
    have q := hp (h'.objs.size, gobj) (by rw [eX]; exact List.mem_singleton.mpr rfl)
    exact ⟨_, _, _, q, by rw [← hgo], by rw [← hgo], by rw [← hgo]⟩
  have hroom : Room k X'.A := by
    rw [eX, ← hGE]
    exact room_gen hr
  have hgc : gobj.data = .fields #[.int s3.gens.size 0, .str "<genexpr>" (s3.toks + 1), .str (X.env.qual ++ "<genexpr>") (s3.toks + 1 + 1)] := by rw [← hgo]
  have start : ∀ s' : Shared, s'.os = s3.os → AllBare s'.gens → (∀ b o, (h'.push gobj).get? b = some o → s'.heap.get? b = some o) → Inv X' [] (wipe σ (own.map (·.2))) H2 s' := fun s' ho hb kk => by
    rw [eX]
    refine gen_start (m := _) I3 ok G hN (fun b hb => ⟨f2 b hb, sz3 b hb⟩) (Nat.le_refl _) hr.hd ?_ ho hb (fun b o e => kk b o (keep5 b o e)) (Heap.Ns.keeps (hn'.push _) kk) fun p hp => ?_
    · have hfr := I3.ok.frames
      rw [← hGE]
      have hfr2 : X.A.in1.in1.frames = some X.stack := hfr
      unfold genAr Around.over
      rw [hfr2]
      rfl
    · rw [List.mem_singleton.mp hp]
      refine ⟨kk _ _ (Heap.get?_push_size _ (by rw [← hgo]; rfl)), by show s3.heap.objs.size ≤ h'.objs.size; omega, by show h'.objs.size ≠ s3.heap.objs.size; omega, fun v z => ?_⟩
      rw [hgc] at z
      cases z
  have back : ∀ σc H s', Inv X' [] σc H s' → Inv X pins σ H s' := fun σc H s' I' => by
    rw [eX] at I'
    exact I3.call' (ch := fp) I'.os I'.base I'.hok I'.bare fun b hb => ⟨(f2 b hb).2.2.2.1, (f2 b hb).2.1, (f2 b hb).2.2.2.2.1, (f2 b hb).2.2.2.2.2⟩
  have hbare : ∀ {c : Code}, AllBare (s3.gens.push (.fresh c)) := fun {c} => I3.bare.push rfl
  refine hQ X' h'.objs.size s3.gens.size (m0 + 1) _ (by rw [eX]) (by rw [eX]) isg ⟨⟨_, _, start _ (by rw [← hs3]) ?_ fun _ _ e => e⟩, _, Array.getElem?_push_size .., rfl, ?_⟩ back ?_
  · exact hbare
  · have I0 := start (({ heap := h'.push gobj, gens := s3.gens.push (.fresh (.compStart GE 0 (.ref it) .none (genv X scope s3.heap.objs.size code))), drawn := s3.drawn, toks := s3.toks + 1 + 1 + 1, os := s3.os } : Shared).setGen s3.gens.size .running) rfl (allBare_setGen (g := s3.gens.size) (x := .running) (s := { heap := h'.push gobj, gens := s3.gens.push (.fresh (.compStart GE 0 (.ref it) .none (genv X scope s3.heap.objs.size code))), drawn := s3.drawn, toks := s3.toks + 1 + 1 + 1, os := s3.os }) hbare rfl) fun _ _ e => e
    have hf : ∀ b ∈ fp, H2 b = none := fun b hb => (f2 b hb).1
    have st5 : tn 0 (h'.push gobj) := T.keep _ _ _ st3 fun b hb o e => keep5 b o e
    have hA : X.A.in1.in1.over (genC tg elt iter scope gpos it X'.env) [] = X'.A := by rw [eX, ← hGE]
    have key := seg_begin (X := X') (scope := scope) (pos := gpos) (iter := iter) (tg := tg) (elt := elt) (it := it) (A := X.A.in1.in1) (fp := fp) (tn := tn) (J := J) (g := g) (te := te) (go := go) (σ0 := wipe σ (own.map (·.2))) (vs := own.map (·.2))
      (QT := fun H => Q (.bl go) H) (QF := fun H => Q (.bl (!go)) H) (W := W) hA (by rw [eX]) (by rw [eX]) (by rw [eX]; exact G.co) (fun b hb => ?_) (by rw [eX]; exact T) (by rw [eX]; exact hg _ _ _ _ _ _ _ (by rw [eX] at hroom; exact hroom)) (by rw [eX]; exact he _ _ _ _ _ _ _ (by rw [eX] at hroom; exact hroom))
      (fun σ => wipe2 σ _) turn (m0 + 1) m0 _ H2 (({ heap := h'.push gobj, gens := s3.gens.push (.fresh (.compStart GE 0 (.ref it) .none (genv X scope s3.heap.objs.size code))), drawn := s3.drawn, toks := s3.toks + 1 + 1 + 1, os := s3.os } : Shared).setGen s3.gens.size .running) (({ heap := h'.push gobj, gens := s3.gens.push (.fresh (.compStart GE 0 (.ref it) .none (genv X scope s3.heap.objs.size code))), drawn := s3.drawn, toks := s3.toks + 1 + 1 + 1, os := s3.os } : Shared).setGen s3.gens.size .running) (Nat.lt_succ_self _) w0 I0 (wipe2 σ _) st5 hf
    · have eC : (genS tg elt iter scope gpos it X'.env) = .compStart GE 0 (.ref it) .none (genv X scope s3.heap.objs.size code) := by rw [eX, ← hGE]
      rw [eC] at key
      exact key
    · rw [eX]
      refine ⟨hb, Nat.ne_of_lt (sz3 b hb), fun z => ?_, fun x c e z => ?_, fun p hp => ?_⟩
      · rcases List.mem_cons.mp (I3.stkSub b z) with z | z
        · exact (f2 b hb).2.1 z
        · exact (f2 b hb).2.2.1 z
      · exact (f2 b hb).2.2.2.2.1 x c (NdefX.clo_cm hCap e) z
      · rw [List.mem_singleton.mp hp]
        have q1 : b < s3.heap.objs.size := sz3 b hb
        show h'.objs.size ≠ b
        rw [hsz]
        exact Nat.ne_of_gt (Nat.lt_succ_of_lt q1)
  · exact ⟨_, _, _, Heap.get?_push_size _ (by rw [← hgo]; rfl), by rw [← hgo], by rw [← hgo], by rw [← hgo]⟩
theorem pe_allG {x : Str} {p pos : Pos} (hx : x = "all") (hr : Room (k + 1) X.A) (hgl : Gl X x) (hm : X.mg x = none) (hN : X.N.Nodup) (TB : GxR.TabB X.base X.mg c P) (hcode : X.env.code = .ref c) (ok : BlkOk X.N X.env.scope scope own) (G : GenSc scope) (hi : PI X tg iter wi)
    (hg : ∀ (s : Shared) (H : Hp) (C : Addr) (code : Value) (A' : Around) (fp : List Addr) (pn : List (Addr × Obj)), Room k A' → PG (X.gen s H scope C code A' fp pn) tg g)
    (he : ∀ (s : Shared) (H : Hp) (C : Addr) (code : Value) (A' : Around) (fp : List Addr) (pn : List (Addr × Obj)), Room k A' → PE (X.gen s H scope C code A' fp pn) elt te)
    (hs : ∀ v, genFold iter X.env v = pure v := by intro _; rfl)
    (hst : starEach [.GeneratorExp elt [⟨tg, iter, [], 0⟩] scope gpos] X.env = (false, eval (.GeneratorExp elt [⟨tg, iter, [], 0⟩] scope gpos) X.env) :: starEach [] X.env := by rfl) :
    PE X (.Call (.Name x p) [.GeneratorExp elt [⟨tg, iter, [], 0⟩] scope gpos] [] pos) (tGen P wi g te (own.map (·.2)) true) := by
  subst hx
  refine ⟨fun pins s σ H Q I h => ?_⟩
  refine wpAny_Call_Name_kw (ld_blt I hgl hm (show bootBuiltins "all" = some (.builtin "all") by decide +kernel) ?_)
  refine PyProof.Rows.callWith_builtin1 ?_ hst (by rfl)
  rw [hst]
  show wpAny _ _ (spliced ((false, eval (.GeneratorExp elt [⟨tg, iter, [], 0⟩] scope gpos) X.env) :: backTo pos (starEach [] X.env))) _ _ s
  refine Calls.spliced_cons (gen_made hr hN TB hcode ok G hi hg he hs I h fun X' a gn n s' ep ew isg st back hgen => ?_)
  refine Calls.spliced_nil ?_
  refine call_function_tree F.kind_all F.plain_all F.entry_all (F.args_all1 _) ?_
  unfold Builtin.«all»
  refine wpAny_bind (wpAny_of_eq (a := Value.ref a) (by rfl) ?_)
  refine wpAny_bind (wpAny_pyIter_gen hgen ?_)
  refine wpAny_pure ⟨plainId_quiet F.plain_all_loop _, ?_⟩
  rw [← ep, ← ew]
  refine all_loop hr.hd (by have := hr.dp; omega) isg (fun σc H' s'' I' q => ?_) (fun σc H' s'' I' q => ?_) n s' st
  · exact ⟨.bl true, H', back _ _ _ I', rfl, q⟩
  · exact ⟨.bl false, H', back _ _ _ I', rfl, q⟩
theorem pe_anyG {x : Str} {p pos : Pos} (hx : x = "any") (hr : Room (k + 1) X.A) (hgl : Gl X x) (hm : X.mg x = none) (hN : X.N.Nodup) (TB : GxR.TabB X.base X.mg c P) (hcode : X.env.code = .ref c) (ok : BlkOk X.N X.env.scope scope own) (G : GenSc scope) (hi : PI X tg iter wi)
    (hg : ∀ (s : Shared) (H : Hp) (C : Addr) (code : Value) (A' : Around) (fp : List Addr) (pn : List (Addr × Obj)), Room k A' → PG (X.gen s H scope C code A' fp pn) tg g)
    (he : ∀ (s : Shared) (H : Hp) (C : Addr) (code : Value) (A' : Around) (fp : List Addr) (pn : List (Addr × Obj)), Room k A' → PE (X.gen s H scope C code A' fp pn) elt te)
    (hs : ∀ v, genFold iter X.env v = pure v := by intro _; rfl)
    (hst : starEach [.GeneratorExp elt [⟨tg, iter, [], 0⟩] scope gpos] X.env = (false, eval (.GeneratorExp elt [⟨tg, iter, [], 0⟩] scope gpos) X.env) :: starEach [] X.env := by rfl) :
    PE X (.Call (.Name x p) [.GeneratorExp elt [⟨tg, iter, [], 0⟩] scope gpos] [] pos) (tGen P wi g te (own.map (·.2)) false) := by
  subst hx
  refine ⟨fun pins s σ H Q I h => ?_⟩
  refine wpAny_Call_Name_kw (ld_blt I hgl hm boot_any ?_)
  refine PyProof.Rows.callWith_builtin1 ?_ hst (by rfl)
  rw [hst]
  show wpAny _ _ (spliced ((false, eval (.GeneratorExp elt [⟨tg, iter, [], 0⟩] scope gpos) X.env) :: backTo pos (starEach [] X.env))) _ _ s
  refine Calls.spliced_cons (gen_made hr hN TB hcode ok G hi hg he hs I h fun X' a gn n s' ep ew isg st back hgen => ?_)
  refine Calls.spliced_nil ?_
  refine call_function_tree F.kind_any F.plain_any F.entry_any (F.args_any1 _) ?_
  unfold Builtin.«any»
  refine wpAny_bind (wpAny_of_eq (a := Value.ref a) (by rfl) ?_)
  refine wpAny_bind (wpAny_pyIter_gen hgen ?_)
  refine wpAny_pure ⟨plainId_quiet F.plain_any_loop _, ?_⟩
  rw [← ep, ← ew]
  refine any_loop hr.hd (by have := hr.dp; omega) isg (fun σc H' s'' I' q => ?_) (fun σc H' s'' I' q => ?_) n s' st
  · exact ⟨.bl false, H', back _ _ _ I', rfl, q⟩
  · exact ⟨.bl true, H', back _ _ _ I', rfl, q⟩
end
/-! ### what the walks ask, by lists -/
theorem gw_tup {K : PySem.W.Frag} {a : Addr} {xs : List V} {go : Bool} {g : TG} {te : TE} {σ0 : L2.St} {vs : List Nat} {QT QF : Hp → Prop} {H : Hp} (Pv : Nat → Hp → Prop) (h0 : Pv 0 H) (hl : ∀ i H, i ≤ xs.length → Pv i H → SqT K H a xs)
    (hs : ∀ i x H, xs[i]? = some x → Pv i H → g x σ0 H fun σ2 H2 => wipe σ2 vs = σ0 ∧ te σ2 H2 fun y H3 => ∃ b, y = .bl b ∧ if b = go then Pv (i + 1) H3 else QF H3) (hd : ∀ H, Pv xs.length H → QT H) :
    ∃ W : Nat → Nat → Hp → Prop, (∃ m, W 0 m H) ∧ GWalk go (Itt K a) g te σ0 vs QT QF W := by
  refine ⟨fun i m H => i ≤ xs.length ∧ m = xs.length - i ∧ Pv i H, ⟨xs.length, Nat.zero_le _, by simp, h0⟩, ?_⟩
  rintro i m H ⟨hi, rfl, hp⟩
  have hL := hl i H hi hp
  by_cases e : i = xs.length
  · exact .inl ⟨⟨xs, hL, by omega⟩, hd H (by rw [← e]; exact hp)⟩
  · have hlt : i < xs.length := by omega
    refine .inr ⟨⟨xs, xs[i], hL, List.getElem?_eq_getElem hlt⟩, Pv (i + 1), fun H' hq => ⟨_, by omega, hlt, rfl, hq⟩, fun x H' hy => ?_⟩
    obtain ⟨rfl, hx⟩ := hy
    exact hs i x _ (hx xs hL) hp
theorem gw_list {K : PySem.W.Frag} {a : Addr} {xs : List V} {go : Bool} {g : TG} {te : TE} {σ0 : L2.St} {vs : List Nat} {QT QF : Hp → Prop} {H : Hp} (Pv : Nat → Hp → Prop) (h0 : Pv 0 H) (hl : ∀ i H, i ≤ xs.length → Pv i H → SqL K H a xs)
    (hs : ∀ i x H, xs[i]? = some x → Pv i H → g x σ0 H fun σ2 H2 => wipe σ2 vs = σ0 ∧ te σ2 H2 fun y H3 => ∃ b, y = .bl b ∧ if b = go then Pv (i + 1) H3 else QF H3) (hd : ∀ H, Pv xs.length H → QT H) :
    ∃ W : Nat → Nat → Hp → Prop, (∃ m, W 0 m H) ∧ GWalk go (Itl K a) g te σ0 vs QT QF W := by
  refine ⟨fun i m H => i ≤ xs.length ∧ m = xs.length - i ∧ Pv i H, ⟨xs.length, Nat.zero_le _, by simp, h0⟩, ?_⟩
  rintro i m H ⟨hi, rfl, hp⟩
  have hL := hl i H hi hp
  by_cases e : i = xs.length
  · exact .inl ⟨⟨xs, hL, by omega⟩, hd H (by rw [← e]; exact hp)⟩
  · have hlt : i < xs.length := by omega
    refine .inr ⟨⟨xs, xs[i], hL, List.getElem?_eq_getElem hlt⟩, Pv (i + 1), fun H' hq => ⟨_, by omega, hlt, rfl, hq⟩, fun x H' hy => ?_⟩
    obtain ⟨rfl, hx⟩ := hy
    exact hs i x _ (hx xs hL) hp
end Sw
set_option Elab.async false
set_option maxRecDepth 100000
set_option maxHeartbeats 4000000
namespace Sw
open PySem L2 PySem.Spec PyProof.Rows GenW
/-! ### the end of a law over defs with generator expressions: their tables are tracked as things that may grow -/
abbrev Tabs (ts : List (Addr × Addr)) (H : Hp) : Prop := ∀ p ∈ ts, H p.2 = some (TabE p.2)
theorem Tabs.same {ts : List (Addr × Addr)} {H H' : Hp} (h : Tabs ts H) (s : Same H H') : Tabs ts H' := fun p hp => s _ _ (h p hp)
theorem law_callE {P : Program} {w : World} {K : PySem.W.Frag} {mg mb : Str → Option Value} {k : Nat} {fa a : Addr} {cs : List (Addr × Addr)} {fd : FuncData} {x : Str} {sp : Sp} {s₁ : Shared} {vs : List Value} {ns : List Int}
    (KX : K.In s₁.heap) (hns : s₁.heap.Ns mainGlobals mg) (hb : s₁.heap.Ns builtinsNs mb) (hbb : ∀ x : Str, x ≠ "__name__" → mb x = bootBuiltins x) (hlim : s₁.heap.NoLimit) (hg : s₁.gens = #[])
    (hT : ∀ p ∈ cs, s₁.heap.get? p.2 = some { cls := .none, data := .fields #[] }) (nT : ∀ p ∈ cs, K.lookup p.2 = none) (C : ∀ p ∈ cs, PySem.W.CodeHd s₁.heap p.1 p.2)
    (hbm : ∃ (bm : Addr) (ob : Obj), mg "__builtins__" = some (.ref bm) ∧ bm ≠ builtinsNs ∧ s₁.heap.get? bm = some ob ∧ ob.cls = .type "module" ∧ ob.dict = some builtinsNs ∧ ob.data = .plain)
    (ha : s₁.heap.get? a = some { cls := .type "list", data := .seq vs.toArray }) (hi : IntsAre vs ns) (hl : ns.length ≤ sizeLine) (hr : Room k callerA)
    (F : ∀ base : Heap, K.In base → base.Ns mainGlobals mg → (∀ p ∈ cs, GxR.TabB base mg p.1 p.2) → FnOk P w K mg base CX0 k fa fd [x] sp) (hbind : ∀ (s : Shared) (u : Value), BindsTo s fd ⟨[u], []⟩ [(x, u)])
    (hsp : ∀ H : Hp, Tabs cs H → SqL K H a (ns.map V.int) → sp [.ref a] H (fun v H' => v = .bl true ∧ Tabs cs H') fun _ _ _ => False) :
    codeAny (model P w) callerA (.call (.ref fa) ⟨[.ref a], []⟩) (fun r s' => r = .ok (.ret (.bool true)) ∧ OldK s₁.heap s'.heap ∧ s'.os = s₁.os ∧ AllBare s'.gens) s₁ := by
  have rv := vals_ints hi
  have lenV := hi.length
  have isT : ∀ b : Addr, b ∈ cs.map (·.2) → s₁.heap.get? b = some { cls := .none, data := .fields #[] } := fun b hb => by
    obtain ⟨p, hp, e⟩ := List.mem_map.mp hb
    rw [← e]
    exact hT p hp
  have aT : a ∉ cs.map (·.2) := fun z => by
    have q := isT a z
    rw [ha] at q
    have z' : Data.seq vs.toArray _ = Data.fields #[] := congrArg Obj.data (Option.some.inj q)
    cases z'
  have memT : ∀ p ∈ cs, p.2 ∈ cs.map (·.2) := fun p hp => List.mem_map.mpr ⟨p, hp, rfl⟩
  have core : ∀ H : Hp, Tabs cs H → (∀ b, H b = none ∨ b ∈ cs.map (·.2) ∨ ∃ o xs, H b = some (.frz o (.lst xs))) → SqL K H a (ns.map V.int) → HOk P w H s₁.heap → (∀ b, H b ≠ none → b = a ∨ b ∈ cs.map (·.2)) → (H a ≠ none → K.lookup a = none) →
      codeAny (model P w) callerA (.call (.ref fa) ⟨[.ref a], []⟩) (fun r s' => r = .ok (.ret (.bool true)) ∧ OldK s₁.heap s'.heap ∧ s'.os = s₁.os ∧ AllBare s'.gens) s₁ := by
    intro H hH hO hS hok hA hK
    have base_of : ∀ {b : Addr} {o : Obj}, s₁.heap.get? b = some o → H b = none → (hidT s₁.heap H).get? b = some o := fun e n => hidT_get e n
    have noD : ∀ {b : Addr} {o : Obj}, s₁.heap.get? b = some o → (∀ vs n, o.data ≠ .seq vs n) → o.data ≠ .fields #[] → H b = none := fun {b o} e h1 h2 => by
      cases q : H b with
      | none => rfl
      | some u =>
        rcases hA b (by rw [q]; simp) with e' | e'
        · rw [e', ha] at e
          cases e
          exact (h1 _ _ rfl).elim
        · rw [isT b e'] at e
          cases e
          exact (h2 rfl).elim
    have noA : ∀ {b : Addr} {o : Obj} {es : Array DictEntry} {ep : Nat}, s₁.heap.get? b = some o → o.data = .dict es ep → H b = none := fun {b o es ep} e d => by
      refine noD e (fun vs n z => ?_) fun z => ?_
      · rw [d] at z
        cases z
      · rw [d] at z
        cases z
    have nsK : ∀ {b : Addr} {m : Str → Option Value}, s₁.heap.Ns b m → (hidT s₁.heap H).Ns b m := fun {b m} ⟨o, es, ep, e, d, r⟩ => ⟨o, es, ep, base_of e (noA e d), d, r⟩
    have hKb : K.In (hidT s₁.heap H) := fun b o e => base_of (KX b o e) (by
      cases q : H b with
      | none => rfl
      | some u =>
        rcases hA b (by rw [q]; simp) with e' | e'
        · rw [e'] at e q
          rw [hK (by rw [q]; simp)] at e
          cases e
        · obtain ⟨p, hp, ep⟩ := List.mem_map.mp e'
          rw [← ep, nT p hp] at e
          cases e)
    have hM : L2.Mod K mg (hidT s₁.heap H) := ⟨hKb, nsK hns, ⟨mb, nsK hb, hbb⟩, let ⟨mc, h1, h2⟩ := hlim; ⟨mc, nsK h1, h2⟩⟩
    have TB : ∀ p ∈ cs, GxR.TabB (hidT s₁.heap H) mg p.1 p.2 := fun p hp => by
      have hTp := hT p hp
      refine ⟨?_, ?_, fun z => ?_⟩
      · obtain ⟨o, us, file, tf, flags, tg, inF, text, tt, e1, r1, r2, r3, r4, r5, r6, r7, r8, hne⟩ := C p hp
        refine ⟨o, us, file, tf, flags, tg, inF, text, tt, base_of e1 (noD e1 (fun vs n z => ?_) fun z => ?_), r1, r2, r3, r4, r5, r6, r7, r8, hne⟩
        · rw [r2] at z
          cases z
        · rw [r2] at z
          cases z
          simp at r3
      · obtain ⟨bm, ob, b1, b2, b3, b4, b5, b6⟩ := hbm
        have nG : bm ≠ mainGlobals := fun q => by
          obtain ⟨o, es, ep, e, hd, _⟩ := hns
          rw [q, e] at b3
          cases b3
          rw [hd] at b6
          cases b6
        have nP : bm ≠ p.2 := fun q => by
          rw [q, hTp] at b3
          cases b3
          cases b6
        refine ⟨bm, ob, b1, b2, nG, nP, base_of b3 (noD b3 (fun vs n z => ?_) fun z => ?_), b4, b5, b6⟩
        · rw [b6] at z
          cases z
        · rw [b6] at z
          cases z
      · obtain ⟨o, es, ep, e, hd, _⟩ := hns
        rw [z, hTp] at e
        cases e
        cases hd
    have e0 : Env0 P w K mg (hidT s₁.heap H) callerA [] s₁ H := ⟨rfl, hM, fun b o e => of_hidT e, Nat.le_of_eq (hidT_size _ _), trivial, fun b hb => absurd (show b ∈ ([] : List Addr) from hb) (by simp), hok, .of_eq hg⟩
    refine codeAny_mono ((F _ hKb (nsK hns) TB).run callerA [] s₁ H ⟨[.ref a], []⟩ [.ref a] [.ref a] _ _ hr e0 (hbind s₁ (.ref a)) (.cons rfl .nil) (hsp H hH hS)) fun r s' h => ?_
    cases r with
    | error e => exact False.elim h
    | ok fl =>
      cases fl with
      | next => exact False.elim h
      | brk => exact False.elim h
      | cont => exact False.elim h
      | ret u =>
        obtain ⟨v, H', os, bare, un, hok', r', q⟩ := h
        obtain ⟨qv, qT⟩ := q
        subst qv
        obtain rfl : u = Value.bool true := r'
        have stays : ∀ b o, b ∉ cs.map (·.2) → s₁.heap.get? b = some o → s'.heap.get? b = some o := fun b o nb e => by
          cases q : H b with
          | none => exact un.keep b o e q (by intro z; exact absurd (show b ∈ ([] : List Addr) from z) (by simp)) (by simp)
          | some u =>
            rcases hO b with z | z | ⟨ob, xs, z⟩
            · rw [q] at z; cases z
            · exact absurd z nb
            · obtain ⟨e1, _⟩ := hok b _ z
              obtain ⟨e2, _⟩ := hok' b _ (un.frzs b ob _ z)
              rw [e] at e1; cases e1
              exact e2
        have grew : ∀ p ∈ cs, ∃ more : Array Value, s'.heap.get? p.2 = some { cls := .none, data := .fields more } := fun p hp => by
          obtain ⟨⟨ps, z, _⟩, _⟩ := hok' p.2 _ (qT p hp)
          exact ⟨ps, z⟩
        refine ⟨rfl, ⟨fun b o e => ?_, fun b o e => ?_⟩, os, bare⟩
        · by_cases hb : b ∈ cs.map (·.2)
          · obtain ⟨p, hp, ep⟩ := List.mem_map.mp hb
            obtain ⟨more, hm⟩ := grew p hp
            rw [← ep] at e ⊢
            rw [hT p hp] at e
            cases e
            exact .inr (.inl ⟨((C p hp).tab (hT p hp)).isCodeTable, rfl, #[], more, rfl, by rw [Array.empty_append]; exact hm⟩)
          · exact .inl (stays b o hb e)
        · by_cases hb : b ∈ cs.map (·.2)
          · obtain ⟨p, hp, ep⟩ := List.mem_map.mp hb
            obtain ⟨more, hm⟩ := grew p hp
            rw [← ep]
            exact ⟨_, hm⟩
          · exact ⟨o, stays b o hb e⟩
  have tOk : ∀ {H : Hp} {b : Addr}, b ∈ cs.map (·.2) → ObjOk P w H s₁.heap b (TabE b) := fun hb => tabE_ok (isT _ hb) (by trivial)
  cases hk : K.lookup a with
  | some o =>
    have e := KX a o hk
    rw [ha] at e
    cases e
    refine core (fun b => if b ∈ cs.map (·.2) then some (TabE b) else none) (fun p hp => if_pos (memT p hp)) (fun b => ?_) (.inr ⟨_, vs.toArray, _, hk, rfl, rfl, rfl, by rw [List.size_toArray, lenV]; exact hl, by simpa using rv⟩) (fun b u z => ?_) (fun b z => ?_) fun z => absurd (show (if a ∈ cs.map (·.2) then some (TabE a) else none) = none from if_neg aT) z
    · by_cases hb : b ∈ cs.map (·.2)
      · exact .inr (.inl hb)
      · exact .inl (if_neg hb)
    · by_cases hb : b ∈ cs.map (·.2)
      · have z' := (if_pos hb).symm.trans z
        cases z'
        exact tOk hb
      · have z' := (if_neg hb).symm.trans z
        cases z'
    · by_cases hb : b ∈ cs.map (·.2)
      · exact .inr hb
      · exact absurd (if_neg hb) z
  | none =>
    refine core (fun b => if b = a then some (.frz { cls := .type "list", data := .seq vs.toArray } (.lst (ns.map V.int))) else if b ∈ cs.map (·.2) then some (TabE b) else none) (fun p hp => (if_neg (show ¬ p.2 = a from fun z => aT (by rw [← z]; exact memT p hp))).trans (if_pos (memT p hp))) (fun b => ?_)
      (.inl (.inr ⟨{ cls := .type "list", data := .seq vs.toArray }, if_pos rfl⟩)) (fun b u z => ?_) (fun b z => ?_) fun _ => hk
    · by_cases hb : b = a
      · exact .inr (.inr ⟨_, _, if_pos hb⟩)
      · by_cases hb2 : b ∈ cs.map (·.2)
        · exact .inr (.inl hb2)
        · exact .inl ((if_neg hb).trans (if_neg hb2))
    · by_cases hb : b = a
      · have z' := (if_pos hb).symm.trans z
        cases z'
        rw [hb]
        exact ⟨ha, by rw [List.length_map]; exact hl, vs, _, rv, ha⟩
      · have z1 := (if_neg hb).symm.trans z
        by_cases hb2 : b ∈ cs.map (·.2)
        · have z' := (if_pos hb2).symm.trans z1
          cases z'
          exact tOk hb2
        · have z' := (if_neg hb2).symm.trans z1
          cases z'
    · by_cases hb : b = a
      · exact .inl hb
      · by_cases hb2 : b ∈ cs.map (·.2)
        · exact .inr hb2
        · exact absurd ((if_neg hb).trans (if_neg hb2)) z
/-- the tables of the defs that stand under these names: empty at the law's entry -/
def OwnT (K : PySem.W.Frag) (h : Heap) (x : Str) (c P : Addr) : Prop := ∀ (f : Addr) (o : Obj) (fd : FuncData) (e : Value) (dd : Option Addr) (vs : Array Value) (sl : Array (Option Value)), PySem.W.nsIn K mainGlobals x = some (some (.ref f)) → K.lookup f = some o → o.data = .func fd → fd.code = .ref c → K.lookup c = some ⟨e, dd, .fields vs, sl⟩ → vs[11]? = some (.ref P) →
  h.get? P = some { cls := .none, data := .fields #[] } ∧ PySem.W.CodeHd h c P
theorem walk_ofE {l : PySem.W.OpenLaw} {n k : Nat} {q : Program} {loose : List Str} {XP : (Str → Option Value) → Heap → Prop} {YP : World → Heap → Prop} {d : DefRec} {K : Params → PySem.W.Frag} {x : Str}
    (hn : l.most = some n) (hn2 : n ≤ sizeLine) (hdf : d.params.defaults = []) (hr : Room k callerA) (hY : ∀ (w : World) (h : Heap), YP w h → (K w.params).In h)
    (F : ∀ (w : World) (mg : Str → Option Value) (fa : Addr) (h : Heap), (K w.params).In h → h.Ns mainGlobals mg → mg d.name = some (.ref fa) → (∀ x c P, ((recsOf q).any fun e => e.name == x) = true → OwnT (K w.params) h x c P) →
      ∃ (fd : FuncData) (cs : List (Addr × Addr)) (sp : Sp), (∀ p ∈ cs, h.get? p.2 = some { cls := .none, data := .fields #[] }) ∧ (∀ p ∈ cs, (K w.params).lookup p.2 = none) ∧ (∀ p ∈ cs, PySem.W.CodeHd h p.1 p.2) ∧ (∀ (s : Shared) (u : Value), BindsTo s fd ⟨[u], []⟩ [(x, u)]) ∧
        (∀ (H : Hp) (a : Addr) (ns : List Int), ns.length ≤ n → (∀ z ∈ ns, Builtin.Int.intBits z ≤ 1048576) → Tabs cs H → SqL (K w.params) H a (ns.map V.int) → sp [.ref a] H (fun v H' => v = .bl true ∧ Tabs cs H') fun _ _ _ => False) ∧
        ∀ base : Heap, (K w.params).In base → base.Ns mainGlobals mg → (∀ p ∈ cs, GxR.TabB base mg p.1 p.2) → FnOk l.prog w (K w.params) mg base CX0 k fa fd [x] sp) :
    PySem.W.WalkO q loose XP YP l.row.toRowW d [] (fun f vs => PySem.call f vs) := by
  refine Att.attach_callB hn hdf fun w s₀ s₁ mg mb fa o pm cd doc a vs ns G Y ho hd hcd hmg hobj hints hlen hbits hg => ?_
  have KX := hY w _ Y
  obtain ⟨fd, cs, sp, hT, nT, C, hb, hsp, hF⟩ := F w mg fa _ KX G.T.g hmg fun x c P hrec f o1 fd1 e dd vs1 sl k0 k1 k2 k3 k4 k5 => by
    obtain ⟨dL, hm, hn1⟩ := List.any_eq_true.mp hrec
    have hn2 : dL.name = x := beq_iff_eq.mp hn1
    obtain ⟨a', o', fd', c', P', h1, h2, h3, h4, h5, h6⟩ := G.T.tab dL hm
    have q0 := PySem.W.mg_of KX G.T.g k0
    rw [hn2, q0] at h1
    cases h1
    have g1 := KX _ _ k1
    rw [g1] at h2
    cases h2
    rw [k2] at h3
    cases h3
    rw [k3] at h4
    cases h4
    have h6' := h6
    obtain ⟨⟨oc, vc, e1, _, e3, e4⟩, hP⟩ := h6
    have g2 := KX _ _ k4
    rw [g2] at e1
    cases e1
    cases e3
    rw [k5] at e4
    cases e4
    exact ⟨hP, PySem.W.CodeHd.of h5 h6'⟩
  exact law_callE KX G.T.g G.T.b G.T.builtins G.T.nolimit hg hT nT C G.T.bmain hobj hints (Nat.le_trans hlen hn2) hr hF hb (fun H hH hS => hsp H a ns hlen hbits hH hS)
end Sw
set_option Elab.async false
set_option maxRecDepth 100000
set_option maxHeartbeats 4000000
namespace Sw
open PySem L2 PySem.Spec PyProof.Rows
/-! ### sets of keys whose table may be walked -/
def Led (w : World) (t : SetTable) : Prop := Ris t.place.toList ∧ (w.params.followText "set-order" = true ∨ t.led = true)
def Sk (P : Program) (w : World) (h : Heap) (a : Addr) (S : Key → Bool) (n : Nat) : Prop :=
  ∃ o es ep t, h.get? a = some o ∧ o.ExactSet ∧ o.data = .set es ep t ∧ ElemsOf (mixKind P w) es.toList ∧ (∀ k, S k = true ↔ ∃ e ∈ es.toList, (mixKind P w).is k e.2 = true) ∧ es.size < scanBound ∧ t.fits es.size = true ∧ es.size = n ∧ Led w t
theorem Sk.of {P : Program} {w : World} {h : Heap} {a : Addr} {S : Key → Bool} {n : Nat} (x : Sk P w h a S n) : h.SetOf (mixKind P w) a S n := by
  obtain ⟨o, es, ep, t, h1, h2, h3, h4, h5, h6, h7, h8, _⟩ := x
  exact ⟨o, es, ep, t, h1, h2, h3, h4, h5, h6, h7, h8⟩
theorem Sk.keep {P : Program} {w : World} {h h' : Heap} {a : Addr} {S : Key → Bool} {n : Nat} (x : Sk P w h a S n) (k : ∀ o, h.get? a = some o → h'.get? a = some o) : Sk P w h' a S n := by
  obtain ⟨o, es, ep, t, h1, r⟩ := x
  exact ⟨o, es, ep, t, k o h1, r⟩
theorem Sk.fresh (P : Program) (w : World) (h : Heap) : Sk P w (h.push { cls := .type "set", dict := none, data := .set #[] 0 (.fresh 0 0 (!w.params.followText "set-order")) }) h.objs.size (fun _ => false) 0 := by
  refine ⟨_, #[], 0, _, Heap.get?_push_size _ rfl, ⟨rfl, rfl, rfl⟩, rfl, fun e he => by simp at he, fun k => by simp, by decide, by rfl, rfl, List.Pairwise.nil, ?_⟩
  show _ ∨ (!w.params.followText "set-order") = true
  cases w.params.followText "set-order" <;> simp
section
variable {P : Program} {w : World} {A : Around} {E : Value → Shared → Prop} {s : Shared} {a : Addr}
theorem quiet2 (b : Bool) {x : String} {s₁ : Shared} {Q : Unit → Shared → Prop} (q : Q () s₁) : wpAny (model P w) A (match b with | true => rule x | false => pure ()) Q E s₁ := by
  cases b
  · exact wpAny_pure q
  · exact wpAny_rule q
/-- what stands behind a new element -/
theorem sk_laid {g : Bool → Sem Unit} (hg : ∀ (b : Bool) (s₁ : Shared) (Q : Unit → Shared → Prop), Q () s₁ → wpAny (model P w) A (g b) Q E s₁) {o : Obj} {es es1 : Array (Int × Value)} {ep n : Nat} {t t2 : SetTable} {S : Key → Bool} {wasDummy : Bool} {R : Option Bool → Shared → Prop}
    (ho : s.heap.get? a = some o) (hex : o.ExactSet) (hd : o.data = .set es ep t) (hel : ElemsOf (mixKind P w) es1.toList) (hm : ∀ k, S k = true ↔ ∃ e ∈ es1.toList, (mixKind P w).is k e.2 = true) (hb : es1.size < scanBound) (hf : t2.fits es1.size = true) (hn : es1.size = n) (hL : Led w t2)
    (k : ∀ h', Heap.SameBut a s.heap h' → Sk P w h' a S n → R (some true) { s with heap := h' }) :
    wpAny (model P w) A (do
        storeSet a es1 t2
        if (!wasDummy && t2.tooFull) = true then do
            g (relayAll t2 es1 (SetTable.grown es1.size)).2.2
            storeSet a (relayAll t2 es1 (SetTable.grown es1.size)).1 (relayAll t2 es1 (SetTable.grown es1.size)).2.1
            pure (some true)
          else pure (some true)) R E s := by
  have at1 := store_at (es' := es1) (t' := t2) ho hd
  have b1 := Heap.SameBut.update s.heap a (Obj.putSet es1 t2)
  refine wpAny_bind (wpAny_storeSet_of ho hd ?_ (fits_of_scanBound hb))
  split
  · have p := relayAll_perm t2 es1 (SetTable.grown es1.size)
    have f := relayAll_fits t2 es1 (SetTable.grown es1.size)
    have r := relayAll_ris t2 es1 (SetTable.grown es1.size)
    have l := relayAll_led t2 es1 (SetTable.grown es1.size)
    cases e : relayAll t2 es1 (SetTable.grown es1.size) with
    | mk es2 z =>
      obtain ⟨t3, gave⟩ := z
      rw [e] at p f r l
      have sz : es2.size = es1.size := by
        have := p.length_eq
        rwa [Array.length_toList, Array.length_toList] at this
      refine wpAny_bind (hg _ _ _ (wpAny_bind (wpAny_storeSet_of at1 rfl ?_ (fits_of_scanBound (by show es2.size < _; rw [sz]; exact hb)))))
      refine wpAny_pure (k _ (b1.trans (Heap.SameBut.update _ a _)) ?_)
      refine ⟨_, es2, _, t3, store_at at1 rfl, hex, rfl, hel.perm p, fun x => (hm x).trans ?_, by rw [sz]; exact hb, f, by rw [sz]; exact hn, r, hL.2.imp id fun q => l.trans q⟩
      exact ⟨fun ⟨y, hy, q⟩ => ⟨y, p.mem_iff.mpr hy, q⟩, fun ⟨y, hy, q⟩ => ⟨y, p.mem_iff.mp hy, q⟩⟩
  · exact wpAny_pure (k _ b1 ⟨_, es1, _, t2, at1, hex, rfl, hel, hm, hb, hf, hn, hL⟩)
theorem sk_add_hashed {S : Key → Bool} {n : Nat} {k : Key} {u : Value} {Q : Bool → Shared → Prop} (hk : (mixKind P w).is k u = true) (hs : u.scannable = true) (x : Sk P w s.heap a S n) (room : n + 1 < scanBound)
    (q : ∀ h', Heap.SameBut a s.heap h' → Sk P w h' a (fun j => S j || decide (j = k)) (if S k = true then n else n + 1) → Q (!S k) { s with heap := h' }) :
    wpAny (model P w) A (setAddHashed a u ((mixKind P w).hash k)) Q E s := by
  obtain ⟨o, es, ep, t, ho, hex, hd, hel, hm, hb, hf, hn, hL⟩ := x
  unfold setAddHashed setAddHashedIn
  refine wpAny_holding (wpAny_bind (wpAny_setState_of ho hd hf ?_))
  dsimp only
  rw [byScan_of hs hb hel]
  simp only [↓reduceIte]
  unfold setAddByScan
  refine wpAny_bind (wpAny_bind (wpAny_rule (wpAny_bind (wpAny_setScan_of hk ho hd hf hel ?_))))
  cases hi : List.findIdx? (fun e => (mixKind P w).is k e.2) es.toList with
  | some j =>
    obtain ⟨hj, pj, _⟩ := List.findIdx?_eq_some_iff_getElem.mp hi
    have inS : S k = true := (hm k).mpr ⟨_, List.getElem_mem hj, pj⟩
    refine wpAny_pure (wpAny_pure ?_)
    have r := q s.heap (Heap.SameBut.refl a s.heap) ⟨o, es, ep, t, ho, hex, hd, hel, fun i => ?_, hb, hf, by rw [if_pos inS]; exact hn, hL⟩
    · rw [inS] at r
      exact r
    · show (S i || decide (i = k)) = true ↔ _
      rw [← hm i]
      by_cases e : i = k
      · rw [e, inS]; simp
      · rw [decide_eq_false e, Bool.or_false]
  | none =>
    have out : ∀ e ∈ es.toList, (mixKind P w).is k e.2 = false := fun e he => by
      have := List.findIdx?_eq_none_iff.mp hi e he
      simpa using this
    have notS : S k = false := by
      cases e : S k with
      | false => rfl
      | true =>
        obtain ⟨y, hy, q⟩ := (hm k).mp e
        rw [out y hy] at q
        cases q
    have p := layNew_perm t es ((mixKind P w).hash k) u
    have f := layNew_fits t es ((mixKind P w).hash k) u
    have r := layNew_ris t es ((mixKind P w).hash k) u hL.1
    have l := layNew_led t es ((mixKind P w).hash k) u
    dsimp only
    generalize layNew t es ((mixKind P w).hash k) u = Z at p f r l ⊢
    obtain ⟨es1, t1, wd, gave⟩ := Z
    dsimp only at p f r l ⊢
    rw [Array.toList_push] at p
    have hel1 : ElemsOf (mixKind P w) es1.toList := (hel.push hk hs).perm p
    have hn1 : es1.size = n + 1 := by
      have := p.length_eq
      rw [List.length_append, List.length_singleton, Array.length_toList, Array.length_toList] at this
      omega
    have hm1 : ∀ i, (S i || decide (i = k)) = true ↔ ∃ e ∈ es1.toList, (mixKind P w).is i e.2 = true := fun i => by
      rw [Bool.or_eq_true, hm i, decide_eq_true_eq]
      constructor
      · rintro (⟨y, hy, z⟩ | e)
        · exact ⟨y, p.mem_iff.mpr (List.mem_append_left _ hy), z⟩
        · rw [e]
          exact ⟨_, p.mem_iff.mpr (List.mem_append_right _ (List.mem_singleton.mpr rfl)), hk⟩
      · rintro ⟨y, hy, z⟩
        rcases List.mem_append.mp (p.mem_iff.mp hy) with hy | hy
        · exact .inl ⟨y, hy, z⟩
        · rw [List.mem_singleton.mp hy] at z
          exact .inr ((mixKind P w).inj _ _ _ z hk)
    have L1 : Led w t1 := ⟨r, hL.2.imp id fun z => l.trans z⟩
    have done : ∀ h', Heap.SameBut a s.heap h' → Sk P w h' a (fun j => S j || decide (j = k)) (n + 1) → Q true { s with heap := h' } := fun h' sb x => by
      have := q h' sb
      rw [notS] at this
      exact this x
    refine wpAny_bind (quiet2 _ ?_)
    split
    · refine wpAny_bind ?_
      rw [hashByValue_scannable 8 hs]
      refine wpAny_pure (sk_laid (fun b s₁ Q' z => by cases b <;> first | exact wpAny_pure z | exact wpAny_rule z) ho hex hd hel1 hm1 (by rw [hn1]; exact room) ?_ hn1 ?_ fun h' sb x => ?_)
      · first | (split <;> first | exact f | exact SetTable.fits_plain_off f) | exact f
      · first | (split <;> exact L1) | exact L1
      · dsimp only; exact wpAny_pure (done h' sb x)
    · refine wpAny_bind (wpAny_pure ?_)
      simp only [↓reduceIte]
      refine sk_laid (fun b s₁ Q' z => by cases b <;> first | exact wpAny_pure z | exact wpAny_rule z) ho hex hd hel1 hm1 (by rw [hn1]; exact room) f hn1 L1 fun h' sb x => ?_
      dsimp only
      exact wpAny_pure (done h' sb x)
end
end Sw
set_option Elab.async false
set_option maxRecDepth 100000
set_option maxHeartbeats 4000000
namespace Sw
open PySem L2 PySem.Spec PyProof.Rows
/-- a set of keys, as a thing of the heap -/
def SkO (P : Program) (w : World) (a : Addr) (S : Key → Bool) (n : Nat) : HO := .ext fun h => Sk P w h a S n
theorem sk_new {P : Program} {w : World} {H : Hp} {h : Heap} {a : Addr} {S : Key → Bool} {n : Nat} (x : Sk P w h a S n) : ObjOk P w H h a (SkO P w a S n) := by
  obtain ⟨o, _, _, _, ho, _⟩ := id x
  exact ⟨x, ⟨o, ho⟩, fun _ _ p k => p.keep k⟩
theorem sk_get {X : Cx} {pins : List (Addr × Obj)} {σ : L2.St} {H : Hp} {s : Shared} {a : Addr} {S : Key → Bool} {n : Nat} (I : Inv X pins σ H s) (ha : H a = some (SkO X.prog X.w a S n)) : Sk X.prog X.w s.heap a S n := (I.hok a _ ha).1
section
variable {X : Cx}
theorem call_add_sk {A : Around} {E : Value → Shared → Prop} {P : Program} {w : World} {s : Shared} {a : Addr} {S : Key → Bool} {n : Nat} {k : Key} {u : Value} {Q : Value → Shared → Prop} (hk : (mixKind P w).is k u = true) (hs : u.scannable = true) (x : Sk P w s.heap a S n) (room : n + 1 < scanBound)
    (q : ∀ h', Heap.SameBut a s.heap h' → Sk P w h' a (fun j => S j || decide (j = k)) (if S k = true then n else n + 1) → Q .none { s with heap := h', toks := s.toks + 1 }) :
    wpAny (model P w) A (call (.builtin "set.add") [.ref a, u]) Q E s := by
  refine wpAny_call_entry F.slot_set_add x.of.typeIs F.entry_set_add ?_ (F.args_set_add_2 _ _)
  unfold Builtin.«set.add» Builtin.Frozenset.oneOther
  simp only [List.isEmpty_nil, bind_assoc]
  unfold Builtin.Frozenset.addrOf setAdd
  refine wpAny_bind (wpAny_pure ?_)
  try dsimp only
  refine wpAny_bind (wpAny_pure ?_)
  try dsimp only
  refine wpAny_bind (wpAny_holding (wpAny_bind ((mixKind P w).pyHash hk ?_)))
  refine sk_add_hashed (s := { s with toks := s.toks + 1 }) hk hs x room fun h' sb y => ?_
  show wpAny _ _ (ret Value.none) _ _ _
  exact wpAny_pure ⟨_, rfl, q h' sb y⟩
def rAddSk (P : Program) (w : World) : V → List V → Hp → VK → Prop := fun x xs H Q => ∃ (a : Addr) (k : Key) (S : Key → Bool) (n : Nat), x = V.ref a ∧ xs = [kV k] ∧ H a = some (SkO P w a S n) ∧ n + 1 < scanBound ∧ Q .non (upd H a (SkO P w a (fun j => S j || decide (j = k)) (if S k = true then n else n + 1)))
theorem mt_addSk : MtR X "set.add" (rAddSk X.prog X.w) := by
  intro pins s σ H x xs v us Q I rx rxs h
  obtain ⟨a, k, S, n, rfl, rfl, ha, room, q⟩ := h
  cases rx
  obtain ⟨u, hu⟩ : ∃ u, us = [u] := by
    cases rxs with
    | cons r t => cases t; exact ⟨_, rfl⟩
  subst hu
  have ru : RelV (kV k) u := by
    cases rxs with
    | cons r t => exact r
  refine call_add_sk (kV_is ru) (key_scan ru) (sk_get I ha) room fun h' sb y => ?_
  obtain ⟨o, _, _, _, ho, _⟩ := id y
  exact ⟨.non, _, I.write (e := a) (t' := s.toks + 1) (by rw [ha]; trivial) (.inl rfl) (fun b u hb hu => (sb.2 b hb).trans hu) ⟨o, ho⟩ (sk_new y), rfl, q⟩
/-! ### len -/
def rLenSk (P : Program) (w : World) : List V → Hp → VK → Prop := fun xs H Q => ∃ (D : Addr) (S : Key → Bool) (n : Nat), xs = [V.ref D] ∧ H D = some (SkO P w D S n) ∧ n ≤ 4095 ∧ Q (.int (n : Int)) H
theorem cr_lenSk : CallR X (.builtin "len") (rLenSk X.prog X.w) := by
  intro pins s σ H xs us Q I r h
  obtain ⟨D, S, n, rfl, hD, hn, q⟩ := h
  cases r with
  | cons r t =>
    cases t
    cases r
    obtain ⟨o, es, ep, t, ho, hex, hd, _, _, _, hf, hz⟩ := (sk_get I hD).of
    exact call_len_set ho hex hd hf (by rw [hz]; omega) ⟨.int (n : Int), H, I.tok _, ⟨_, by rw [hz]⟩, q⟩
end
end Sw
set_option Elab.async false
set_option maxRecDepth 100000
set_option maxHeartbeats 4000000
namespace Sw
open PySem L2 PySem.Spec PyProof.Rows
/-! ### set comprehensions of texts, of one clause and of two -/
/-- a comprehension's turn: M what a kept item does -/
def turnOf (p : Pos) (it : Value) (tg : Expr) (ifs : List Expr) (env : Env) (M : Sem PySem.Fin) (code : Code) : Sem PySem.Fin := do
  standAt p
  match ← pyNext it with
  | none => pure (.done .next)
  | some v =>
    letOwnedTupleGo tg it v
    assign tg env v
    let mut ok := true
    for c in ifs do
      if ok then ok ← isTrue c env (eval c env)
    if ok then M else again code
theorem turn1 (elt tg iter : Expr) (ifs : List Expr) (scope : Scope) (pos : Pos) (it acc : Value) (env : Env) :
    compTurn (.SetComp elt [⟨tg, iter, ifs, 0⟩] scope pos) 0 it acc env = turnOf iter.pos it tg ifs env (do (do let v ← eval elt env; standAt elt.pos; let _ ← call (.builtin "set.add") [acc, v]); again (.compLoop (.SetComp elt [⟨tg, iter, ifs, 0⟩] scope pos) 0 it acc env)) (.compLoop (.SetComp elt [⟨tg, iter, ifs, 0⟩] scope pos) 0 it acc env) := by rfl
theorem turn2o (elt tg iter tg1 iter1 : Expr) (ifs ifs1 : List Expr) (scope : Scope) (pos : Pos) (it acc : Value) (env : Env) :
    compTurn (.SetComp elt [⟨tg, iter, ifs, 0⟩, ⟨tg1, iter1, ifs1, 0⟩] scope pos) 0 it acc env = turnOf iter.pos it tg ifs env (do
      let x ← eval iter1 env
      standAt iter1.pos
      let x ← foldedSetIterable iter1 env x
      let _ ← runOwn (.compStart (.SetComp elt [⟨tg, iter, ifs, 0⟩, ⟨tg1, iter1, ifs1, 0⟩] scope pos) 1 (← holding [x] (pyIter x)) acc env) env
      again (.compLoop (.SetComp elt [⟨tg, iter, ifs, 0⟩, ⟨tg1, iter1, ifs1, 0⟩] scope pos) 0 it acc env)) (.compLoop (.SetComp elt [⟨tg, iter, ifs, 0⟩, ⟨tg1, iter1, ifs1, 0⟩] scope pos) 0 it acc env) := by rfl
theorem turn2i (elt tg iter tg1 iter1 : Expr) (ifs ifs1 : List Expr) (scope : Scope) (pos : Pos) (it acc : Value) (env : Env) :
    compTurn (.SetComp elt [⟨tg, iter, ifs, 0⟩, ⟨tg1, iter1, ifs1, 0⟩] scope pos) 1 it acc env = turnOf iter1.pos it tg1 ifs1 env (do (do let v ← eval elt env; standAt elt.pos; let _ ← call (.builtin "set.add") [acc, v]); again (.compLoop (.SetComp elt [⟨tg, iter, ifs, 0⟩, ⟨tg1, iter1, ifs1, 0⟩] scope pos) 1 it acc env))
      (.compLoop (.SetComp elt [⟨tg, iter, ifs, 0⟩, ⟨tg1, iter1, ifs1, 0⟩] scope pos) 1 it acc env) := by rfl
/-- a walk with a thing done each turn, told by heaps; the block's slots are σ0 at each turn's begin -/
def CWalk (J : It) (g : TG) (tt : TT) (body : L2.St → Hp → (Hp → Prop) → Prop) (σ0 : L2.St) (vs : List Nat) (QT : Hp → Prop) (W : Nat → Nat → Hp → Prop) : Prop := ∀ i m H, W i m H →
  (J.stop i H ∧ QT H) ∨ (J.go i H ∧ ∃ Nx : Hp → Prop, (∀ H', Nx H' → ∃ m', m' < m ∧ W (i + 1) m' H') ∧ ∀ x H', J.yld i H x H' → g x σ0 H' fun σ2 H2 => wipe σ2 vs = σ0 ∧ tt σ2 H2 fun b H3 => if b = true then body σ2 H3 Nx else Nx H3)
/-- what M does in a block: from σ2, H to the wish, the slots those that were known -/
def Does (Y : Cx) (M : Sem PySem.Fin) (code : Code) (body : L2.St → Hp → (Hp → Prop) → Prop) (vs : List Nat) : Prop := ∀ (pins : List (Addr × Obj)) (s : Shared) (σ2 : L2.St) (H : Hp) (Nx : Hp → Prop), Inv Y pins σ2 H s → body σ2 H Nx →
  wpAny (model Y.prog Y.w) Y.A M (fun fin s' => fin = .again code ∧ ∃ σ3 H', Inv Y pins σ3 H' s' ∧ (∀ (j : Nat) v, (wipe σ2 vs)[j]? = some (some v) → σ3[j]? = some (some v)) ∧ Nx H') (fun _ _ => False) s
theorem loop_turns {Y : Cx} {e : Expr} {d : Nat} {it : Addr} {acc : Value} {p : Pos} {tg : Expr} {ifs : List Expr} {M : Sem PySem.Fin} {fp : List Addr} {tn : Nat → Heap → Prop} {J : It} {g : TG} {tt : TT} {body : L2.St → Hp → (Hp → Prop) → Prop} {σ0 : L2.St} {vs : List Nat} {QT : Hp → Prop} {W : Nat → Nat → Hp → Prop} {pins : List (Addr × Obj)} {R : Result → Shared → Prop}
    (hq : (Code.compLoop e d (.ref it) acc Y.env).quiet = true) (hU : Y.A.under (.compLoop e d (.ref it) acc Y.env) = Y.A) (hden : (model Y.prog Y.w).den (.compLoop e d (.ref it) acc Y.env) = (compTurn e d (.ref it) acc Y.env).onRaise (fun x => do noteFrame x Y.env; theTreesLotGoes x))
    (ht : compTurn e d (.ref it) acc Y.env = turnOf p (.ref it) tg ifs Y.env M (.compLoop e d (.ref it) acc Y.env))
    (hc : Y.calm = true) (hx : Y.xe = fun _ _ => False) (hfp : ∀ b ∈ fp, b ≠ Y.env.locals ∧ b ∉ Y.fs ∧ (b ∈ Y.ex ∨ Y.s_0.heap.objs.size ≤ b) ∧ (∀ x c, Y.env.cells.lookup x = some c → c ≠ b) ∧ ∀ p ∈ Y.pn ++ pins, p.1 ≠ b)
    (T : Turn Y.prog Y.w Y.K tg J fp it tn) (hg : PG Y tg g) (htt : PTs Y ifs tt) (hM : Does Y M (.compLoop e d (.ref it) acc Y.env) body vs) (h0 : wipe σ0 vs = σ0) (walk : CWalk J g tt body σ0 vs QT W)
    (hR : ∀ H s', Inv Y pins σ0 H s' → QT H → R (.ok .next) s') :
    ∀ (m : Nat) (s : Shared), (∃ i H, Inv Y pins σ0 H s ∧ tn i s.heap ∧ (∀ b ∈ fp, H b = none) ∧ W i m H) → codeAny (model Y.prog Y.w) Y.A (.compLoop e d (.ref it) acc Y.env) R s := by
  intro m s hI
  refine codeAny_loop hq (fun m s => ∃ i H, Inv Y pins σ0 H s ∧ tn i s.heap ∧ (∀ b ∈ fp, H b = none) ∧ W i m H) (fun n s hI => ?_) m hI
  obtain ⟨i, H, I, st, fr, w0⟩ := hI
  rw [hU, hden]
  refine wpAny_noted ?_
  rw [ht]
  unfold turnOf
  have stat : ∀ {H' : Hp}, (∀ b ∈ fp, H' b = none) → ∀ b ∈ fp, FpOk Y pins H' b := fun {H'} hn b hb => ⟨hn b hb, hfp b hb⟩
  refine wpAny_bind (wpAny_standAt ?_)
  rcases walk i n H w0 with ⟨stop, qt⟩ | ⟨hgo, Nx, hN, step⟩
  · refine wpAny_bind (thnF (T.done Y rfl rfl rfl hc i pins s σ0 H (fun _ _ => False) I (stat fr) st stop) fun r s1 ⟨hr, I1⟩ => ?_)
    subst hr
    exact wpAny_pure (hR H s1 I1 qt)
  · refine wpAny_bind (thnF (T.item Y rfl rfl rfl hc i pins s σ0 H (fun _ _ => False) I (stat fr) st hgo) fun r s1 ⟨u, hr, h1⟩ => ?_)
    subst hr
    refine wpAny_bind (thnF h1 fun _ s2 ⟨x, H2, I2, r2, y2, st2, fr2⟩ => ?_)
    have I2' := I2.pinned (stat fr2) (T.obj _ _ st2)
    have h3 := hg.run _ s2 σ0 H2 x u _ I2' r2 (step x H2 y2)
    rw [hx] at h3
    refine wpAny_bind (thnF h3 fun _ s3 ⟨σ3, H3, I3, w3, q3⟩ => ?_)
    have h4 := htt.run _ s3 σ3 H3 _ I3 q3
    rw [hx] at h4
    refine wpAny_bind (thnF h4 fun ok s4 ⟨H4, I4, q4⟩ => ?_)
    have hl : σ0.length = σ3.length := by rw [← w3, wipe_length]
    have fin : ∀ {s' : Shared} {H' : Hp} {σ' : L2.St}, Inv Y (pins ++ pinsAt fp s2.heap) σ' H' s' → (∀ (j : Nat) v, σ0[j]? = some (some v) → σ'[j]? = some (some v)) → Nx H' → ∃ m', m' < n ∧ ∃ i H, Inv Y pins σ0 H s' ∧ tn i s'.heap ∧ (∀ b ∈ fp, H b = none) ∧ W i m' H := fun {s' H' σ'} I' hs nx => by
      obtain ⟨m', hm, w'⟩ := hN H' nx
      have pin' : ∀ b ∈ fp, ∀ o, s2.heap.get? b = some o → s'.heap.get? b = some o ∧ H' b = none := fun b hb o e =>
        let z := I'.pin (b, o) (List.mem_append_right _ (List.mem_append_right _ (mem_pinsAt hb e)))
        ⟨z.1, z.2.1⟩
      refine ⟨m', hm, i + 1, H', I'.unpinned.weak (by rw [hl, I3.len, I'.len]) hs, T.keep _ _ _ st2 fun b hb o e => (pin' b hb o e).1, fun b hb => ?_, w'⟩
      obtain ⟨o, e, _⟩ := T.obj _ _ st2 b hb
      exact (pin' b hb o e).2
    cases ok with
    | false =>
      rw [if_neg Bool.false_ne_true] at q4
      refine wpAny_pure ⟨rfl, fin I4 (fun j v e => ?_) q4⟩
      rw [← w3] at e
      exact (wipe_some e).1
    | true =>
      rw [if_pos rfl] at q4
      refine thnF (hM _ s4 σ3 H4 Nx I4 q4) fun f s5 ⟨ef, σ5, H5, I5, k5, n5⟩ => ?_
      subst ef
      refine ⟨rfl, fin I5 (fun j v e => ?_) n5⟩
      rw [← w3] at e
      exact k5 j v e
end Sw
set_option Elab.async false
set_option maxRecDepth 100000
set_option maxHeartbeats 4000000
namespace Sw
open PySem L2 PySem.Spec PyProof.Rows PpSet
/-! ### the frame of a set comprehension -/
def tSetAdd (P : Program) (w : World) (D : Addr) (te : TE) : L2.St → Hp → (Hp → Prop) → Prop := fun σ2 H Nx => te σ2 H fun y H4 => ∃ (k : Key) (S : Key → Bool) (n : Nat), y = kV k ∧ H4 D = some (SkO P w D S n) ∧ n + 1 < scanBound ∧ Nx (upd H4 D (SkO P w D (fun j => S j || decide (j = k)) (if S k = true then n else n + 1)))
theorem does_add {Y : Cx} {elt : Expr} {te : TE} {D : Addr} {code : Code} {vs : List Nat} (he : PE Y elt te) (hx : Y.xe = fun _ _ => False) :
    Does Y (do (do let v ← eval elt Y.env; standAt elt.pos; let _ ← call (.builtin "set.add") [.ref D, v]); again code) code (tSetAdd Y.prog Y.w D te) vs := by
  intro pins s σ2 H Nx I q
  have h1 := he.run _ s σ2 H _ I q
  rw [hx] at h1
  refine wpAny_bind (wpAny_bind (thnF h1 fun v s1 ⟨y, H1, I1, r1, k, S, n, ey, hD, hn, nx⟩ => ?_))
  subst ey
  refine wpAny_bind (wpAny_standAt (wpAny_bind ?_))
  have h2 := mt_addSk (X := Y) pins s1 σ2 H1 (.ref D) [kV k] (.ref D) [v] (fun _ H' => Nx H') I1 rfl (.cons r1 .nil) ⟨D, k, S, n, rfl, rfl, hD, hn, nx⟩
  rw [hx] at h2
  refine thnF h2 fun _ s2 ⟨_, H2, I2, _, n2⟩ => ?_
  exact wpAny_pure (wpAny_pure ⟨rfl, σ2, H2, I2, fun j v e => (wipe_some e).1, n2⟩)
section
variable {X : Cx} {tg elt iter : Expr} {ifs : List Expr} {rest : List Comprehension} {scope : Scope} {own : List (Str × Nat)} {pos : Pos} {wi : TI}
/-- the block in which the walk runs, told to who proves the loop -/
structure SBlk (X : Cx) (σ : L2.St) (vs : List Nat) (scope : Scope) (D it : Addr) (fp : List Addr) (Y : Cx) : Prop where
  isB : ∃ s3 H3 C cl, Y = X.blk s3 H3 scope (compEnvC scope cl C X.env) fp
theorem set_frame {pins : List (Addr × Obj)} {s : Shared} {σ : L2.St} {H : Hp} {Q : VK} (hc : X.calm = true) (hN : X.N.Nodup) (I : Inv X pins σ H s) (hi : PI X tg iter wi) (ok : BlkOk X.N X.env.scope scope own) (hs : ∀ x, foldedSetIterable iter X.env x = pure x)
    {R0 : It → Addr → Hp → Prop} (h : wi σ H fun J H1 => ∀ D, H1 D = none → R0 J D (upd H1 D (SkO X.prog X.w D (fun _ => false) 0)))
    (loop : ∀ (Y : Cx) (D it : Addr) (J : It) (fp : List Addr) (tn : Nat → Heap → Prop) (H3 : Hp) (s4 : Shared) (R : Result → Shared → Prop), SBlk X σ (own.map (·.2)) scope D it fp Y → Inv Y [] (wipe σ (own.map (·.2))) H3 s4 → Turn Y.prog Y.w Y.K tg J fp it tn → tn 0 s4.heap → (∀ b ∈ fp, H3 b = none) → R0 J D H3 →
      (∀ b ∈ fp, b ≠ Y.env.locals ∧ b ∉ Y.fs ∧ (b ∈ Y.ex ∨ Y.s_0.heap.objs.size ≤ b) ∧ (∀ x c, Y.env.cells.lookup x = some c → c ≠ b) ∧ ∀ p ∈ Y.pn ++ [], p.1 ≠ b) →
      (∀ H s', Inv Y [] (wipe σ (own.map (·.2))) H s' → Q (.ref D) H → R (.ok .next) s') → codeAny (model Y.prog Y.w) Y.A (.compLoop (.SetComp elt (⟨tg, iter, ifs, 0⟩ :: rest) scope pos) 0 (.ref it) (.ref D) Y.env) R s4) :
    wpAny (model X.prog X.w) X.A (eval (.SetComp elt (⟨tg, iter, ifs, 0⟩ :: rest) scope pos) X.env) (EP X pins σ Q) X.xe s := by
  have hCap : ∀ y ∈ scope.names, y.2 = .free → ∃ c, X.env.cells.lookup y.1 = some c := fun y hy e => by
    rcases ok.free y hy e with k | k
    · exact I.ok.has _ (.inl k)
    · exact I.ok.has _ (.inr k)
  rw [eval_SetComp]
  show wpAny _ _ (comprehension (.SetComp elt (⟨tg, iter, ifs, 0⟩ :: rest) scope pos) scope X.env _ (newSet (.type "set")) false (eval iter X.env)) _ _ s
  refine wpAny_comprehension_free (g := ⟨tg, iter, ifs, 0⟩) (gs := rest) (use := none) rfl hs (closure_ok hCap) ok.kind (fun y hy e => by rw [ok.uniq y hy, e]) (thn (hi.run pins s σ H _ I h) fun xv s1 hx => thn hx fun itv s2 h2 => ?_)
  obtain ⟨it, fp, tn, J, H2, e, I2, T, st2, f2, q⟩ := h2
  subst e
  refine newSet_ok (newEnv_comp ?_)
  generalize hD : s2.heap.objs.size = D
  have hDn : H2 D = none := I2.hok.fresh (Nat.le_of_eq hD)
  have q0 := q D hDn
  generalize hs3 : ({ s2 with heap := s2.heap.push { cls := .type "set", dict := none, data := .set #[] 0 (.fresh 0 0 (!X.w.params.followText "set-order")) } } : Shared) = s3
  have I3 : Inv X pins σ (upd H2 D (SkO X.prog X.w D (fun _ => false) 0)) s3 := by
    rw [← hs3]
    refine I2.laid (t' := s2.toks) (fun b o e => Heap.get?_push_of_some _ e) (Nat.le_of_eq hD) ?_
    rw [← hD]
    exact sk_new (Sk.fresh X.prog X.w s2.heap)
  have h3 : s3.heap = s2.heap.push { cls := .type "set", dict := none, data := .set #[] 0 (.fresh 0 0 (!X.w.params.followText "set-order")) } := by rw [← hs3]
  have sz : ∀ b ∈ fp, b < s2.heap.objs.size := fun b hb => by
    obtain ⟨o, e, _⟩ := T.obj _ _ st2 b hb
    exact Heap.lt_size e
  generalize hH3 : upd H2 D (SkO X.prog X.w D (fun _ => false) 0) = H3 at I3 q0
  have f3 : ∀ b ∈ fp, FpOk X pins H3 b ∧ b < s3.heap.objs.size := fun b hb => by
    have hlt := sz b hb
    refine ⟨⟨?_, (f2 b hb).2⟩, by rw [h3, Heap.size_push]; exact Nat.lt_succ_of_lt hlt⟩
    rw [← hH3, upd_ne (by rw [← hD]; exact Nat.ne_of_lt hlt)]
    exact (f2 b hb).1
  have st3 : tn 0 s3.heap := T.keep _ _ _ st2 fun b _ o e => by rw [h3]; exact Heap.get?_push_of_some _ e
  have I4 := block_start I3 ok hN f3
  have kp4 : ∀ b o, s3.heap.get? b = some o → (pushCells (s3.heap.push { cls := .type "dict", data := .dict #[] }) scope.names).get? b = some o := fun b o e => pushCells_keeps _ _ _ _ (Heap.get?_push_of_some _ e)
  have st4 : tn 0 (pushCells (s3.heap.push { cls := .type "dict", data := .dict #[] }) scope.names) := T.keep _ _ _ st3 fun b _ o e => kp4 b o e
  show codeAny _ _ (.compStart (.SetComp elt (⟨tg, iter, ifs, 0⟩ :: rest) scope pos) 0 (.ref it) (.ref D) (compEnvC scope (cellsFrom (s3.heap.objs.size + 1) scope.names (cloFrom X.env.cells scope.names [])) s3.heap.objs.size X.env)) (compPost (model X.prog X.w) X.A X.xe none (EP X pins σ Q) (.ref D) s3.heap.objs.size) { s3 with heap := pushCells (s3.heap.push { cls := .type "dict", data := .dict #[] }) scope.names }
  have lp := loop _ D it J fp tn H3 _ (compPost (model X.prog X.w) X.A X.xe none (EP X pins σ Q) (.ref D) s3.heap.objs.size) ⟨s3, H3, _, _, rfl⟩ I4 T st4 (fun b hb => (f3 b hb).1.1) q0
    (fun b hb => ⟨(I4.ok.exf b hb).1, I4.ok.exfs b hb, .inl hb, fun x c e => (I4.ok.exf b hb).2 x c e, fun p hp => absurd (show p ∈ ([] : List (Addr × Obj)) ++ [] from hp) (by simp)⟩)
    (fun H' s' I6 qq => by
      have I7 : Inv X pins σ H' s' := I3.call' (ch := fp) I6.os I6.base I6.hok I6.bare fun b hb => ⟨(f3 b hb).1.2.2.2.1, (f3 b hb).1.2.1, (f3 b hb).1.2.2.2.2.1, (f3 b hb).1.2.2.2.2.2⟩
      obtain ⟨m, hn, _⟩ := I6.loc
      refine ⟨m, hn, fun h'' sb => ?_⟩
      obtain ⟨f0, f1, f2, f4, f5, f6⟩ := I3.fpOk (b := s3.heap.objs.size) (Nat.le_refl _) (show H' s3.heap.objs.size = none from I6.free)
      exact ⟨.ref D, H', I7.turned (t' := s'.toks) (fun b o hb e => (sb.2 b hb).trans e) f0 f1 f4 f5 f6, rfl, qq⟩)
  exact codeAny_compStart_set lp (T.self X.A 0 _ _ _ st4 lp)
/-- {elt for tg in iter if ..}, elt a text or a whole number -/
def tSet1 (P : Program) (w : World) (wi : TI) (g : TG) (tt : TT) (te : TE) (vs : List Nat) : TE := fun σ H Q => wi σ H fun J H1 => ∀ D, H1 D = none → ∃ W : Nat → Nat → Hp → Prop, (∃ m, W 0 m (upd H1 D (SkO P w D (fun _ => false) 0))) ∧
  CWalk J g tt (tSetAdd P w D te) (wipe σ vs) vs (fun H => Q (.ref D) H) W
theorem wipeSame (σ : L2.St) (vs : List Nat) : wipe (wipe σ vs) vs = wipe σ vs := wipe2 σ vs
theorem pe_set1 {g : TG} {tt : TT} {te : TE} (hc : X.calm = true) (hN : X.N.Nodup) (hi : PI X tg iter wi) (ok : BlkOk X.N X.env.scope scope own)
    (hg : ∀ (s : Shared) (H : Hp) (C : Addr) (cl : List (Str × Addr)) (fp : List Addr), PG (X.blk s H scope (compEnvC scope cl C X.env) fp) tg g) (ht : ∀ (s : Shared) (H : Hp) (C : Addr) (cl : List (Str × Addr)) (fp : List Addr), PTs (X.blk s H scope (compEnvC scope cl C X.env) fp) ifs tt)
    (he : ∀ (s : Shared) (H : Hp) (C : Addr) (cl : List (Str × Addr)) (fp : List Addr), PE (X.blk s H scope (compEnvC scope cl C X.env) fp) elt te) (hs : ∀ x, foldedSetIterable iter X.env x = pure x := by intro _; rfl) :
    PE X (.SetComp elt [⟨tg, iter, ifs, 0⟩] scope pos) (tSet1 X.prog X.w wi g tt te (own.map (·.2))) := by
  refine ⟨fun pins s σ H Q I h => ?_⟩
  refine set_frame hc hN I hi ok hs (R0 := fun J D H3 => ∃ W : Nat → Nat → Hp → Prop, (∃ m, W 0 m H3) ∧ CWalk J g tt (tSetAdd X.prog X.w D te) (wipe σ (own.map Prod.snd)) (own.map Prod.snd) (fun H => Q (.ref D) H) W) h fun Y D it J fp tn H3 s4 R B I4 T st4 fr q0 hfp hR => ?_
  obtain ⟨s3, H3', C, cl, rfl⟩ := B.isB
  obtain ⟨W, ⟨m0, w0⟩, walk⟩ := q0
  exact loop_turns (Y := X.blk s3 H3' scope (compEnvC scope cl C X.env) fp) rfl rfl rfl (turn1 ..) hc rfl hfp T (hg _ _ _ _ _) (ht _ _ _ _ _) (does_add (he _ _ _ _ _) rfl) (wipe2 σ _) walk hR m0 s4 ⟨0, H3, I4, st4, fr, w0⟩
/-! two clauses -/
variable {tg1 iter1 : Expr} {ifs1 : List Expr}
theorem start1 {prog : Program} {w : World} {A : Around} {R : Result → Shared → Prop} {s : Shared} {it acc : Value} {env : Env} (h0 : codeAny (model prog w) A (.compLoop (.SetComp elt [⟨tg, iter, ifs, 0⟩, ⟨tg1, iter1, ifs1, 0⟩] scope pos) 1 it acc env) R s)
    (h : wpAny (model prog w) A (pyIter it) (fun it' s' => codeAny (model prog w) A (.compLoop (.SetComp elt [⟨tg, iter, ifs, 0⟩, ⟨tg1, iter1, ifs1, 0⟩] scope pos) 1 it' acc env) R s') (notedBy (model prog w) A env fun x s' => R (.error x) s') s) :
    codeAny (model prog w) A (.compStart (.SetComp elt [⟨tg, iter, ifs, 0⟩, ⟨tg1, iter1, ifs1, 0⟩] scope pos) 1 it acc env) R s := by
  refine codeAny_of_tree ?_
  show wpAny _ _ ((compStart (.SetComp elt [⟨tg, iter, ifs, 0⟩, ⟨tg1, iter1, ifs1, 0⟩] scope pos) 1 it acc env).onRaise _) _ _ s
  refine wpAny_notedAt ?_
  unfold compStart
  show wpAny _ _ (ask >>= _) _ _ s
  refine wpAny_bind (wpAny_askSetting (wpAny_ite ?_))
  split
  · first
      | exact wpAny_bind (wpAny_pure (wpAny_pure ⟨rfl, h0⟩))
      | exact wpAny_pure ⟨rfl, h0⟩
  · first
      | exact wpAny_bind (wpAny_rule (wpAny_bind (wpAny_standAt (wpAny_bind (wpAny_mono h (fun it' s' h' => wpAny_pure ⟨rfl, h'⟩) fun _ _ x => x)))))
      | (refine wpAny_bind (wpAny_rule ?_); show wpAny _ _ (standAt iter1.pos >>= _) _ _ s; exact wpAny_bind (wpAny_standAt (wpAny_bind (wpAny_mono h (fun it' s' h' => wpAny_pure ⟨rfl, h'⟩) fun _ _ x => x))))
def tInner (wi1 : TI) (g1 : TG) (tt1 : TT) (add : L2.St → Hp → (Hp → Prop) → Prop) (vs1 : List Nat) : L2.St → Hp → (Hp → Prop) → Prop := fun σ2 H Nx => wi1 σ2 H fun J1 H1 => ∃ W1 : Nat → Nat → Hp → Prop, (∃ m, W1 0 m H1) ∧ CWalk J1 g1 tt1 add (wipe σ2 vs1) vs1 Nx W1
theorem does_inner {Y : Cx} {wi1 : TI} {g1 : TG} {tt1 : TT} {te : TE} {D it : Addr} {vs vs1 : List Nat} (hc : Y.calm = true) (hx : Y.xe = fun _ _ => False) (hv : ∀ i ∈ vs1, i ∈ vs) (hi1 : PI Y tg1 iter1 wi1) (hg1 : PG Y tg1 g1) (ht1 : PTs Y ifs1 tt1) (he : PE Y elt te) (hs1 : ∀ x, foldedSetIterable iter1 Y.env x = pure x) :
    Does Y (do
      let x ← eval iter1 Y.env
      standAt iter1.pos
      let x ← foldedSetIterable iter1 Y.env x
      let _ ← runOwn (.compStart (.SetComp elt [⟨tg, iter, ifs, 0⟩, ⟨tg1, iter1, ifs1, 0⟩] scope pos) 1 (← holding [x] (pyIter x)) (.ref D) Y.env) Y.env
      again (.compLoop (.SetComp elt [⟨tg, iter, ifs, 0⟩, ⟨tg1, iter1, ifs1, 0⟩] scope pos) 0 (.ref it) (.ref D) Y.env))
      (.compLoop (.SetComp elt [⟨tg, iter, ifs, 0⟩, ⟨tg1, iter1, ifs1, 0⟩] scope pos) 0 (.ref it) (.ref D) Y.env) (tInner wi1 g1 tt1 (tSetAdd Y.prog Y.w D te) vs1) vs := by
  intro pins s σ2 H Nx I q
  have h1 := hi1.run pins s σ2 H _ I q
  rw [hx] at h1
  refine wpAny_bind (thnF h1 fun xv s1 hxv => wpAny_bind (wpAny_standAt (wpAny_bind (wpAny_of_eq (hs1 xv) (wpAny_bind (wpAny_holding (thnF hxv fun itv s2 h2 => ?_)))))))
  obtain ⟨it1, fp1, tn1, J1, H1, e1, I1, T1, st1, f1, W1, ⟨m1, w1⟩, walk1⟩ := h2
  subst e1
  refine wpAny_bind (wpAny_runOwn ?_)
  rw [Around.mark_none]
  have lp : codeAny (model Y.prog Y.w) Y.A (.compLoop (.SetComp elt [⟨tg, iter, ifs, 0⟩, ⟨tg1, iter1, ifs1, 0⟩] scope pos) 1 (.ref it1) (.ref D) Y.env)
      (fun r s' => match r with
        | .ok _ => ∃ H', Inv Y pins (wipe σ2 vs1) H' s' ∧ Nx H'
        | .error _ => False) s2 :=
    loop_turns (Y := Y) (pins := pins) rfl rfl rfl (turn2i ..) hc hx (fun b hb => (f1 b hb).2) T1 hg1 ht1 (does_add he hx) (wipe2 σ2 vs1) walk1 (fun H' s' I' nx => ⟨H', I', nx⟩) m1 s2
      ⟨0, H1, I1.weak (wipe_length _ _) (fun i v e => (wipe_some e).1), st1, fun b hb => (f1 b hb).1, w1⟩
  refine codeAny_mono (start1 lp (T1.self Y.A 0 _ _ _ st1 lp)) fun r s' hr => ?_
  cases r with
  | error e => exact hr.elim
  | ok f =>
    obtain ⟨H', I', nx⟩ := hr
    refine wpAny_pure ⟨rfl, wipe σ2 vs1, H', I', fun j v e => ?_, nx⟩
    obtain ⟨e1, e2⟩ := wipe_some e
    rw [wipe_out fun z => e2 (hv j z)]
    exact e1
/-- {elt for tg in iter if .. for tg1 in iter1 if ..} -/
def tSet2 (P : Program) (w : World) (wi : TI) (g : TG) (tt : TT) (wi1 : TI) (g1 : TG) (tt1 : TT) (te : TE) (vs vs1 : List Nat) : TE := fun σ H Q => wi σ H fun J H1 => ∀ D, H1 D = none → ∃ W : Nat → Nat → Hp → Prop, (∃ m, W 0 m (upd H1 D (SkO P w D (fun _ => false) 0))) ∧
  CWalk J g tt (tInner wi1 g1 tt1 (tSetAdd P w D te) vs1) (wipe σ vs) vs (fun H => Q (.ref D) H) W
theorem pe_set2 {wi1 : TI} {g g1 : TG} {tt tt1 : TT} {te : TE} {vs1 : List Nat} (hc : X.calm = true) (hN : X.N.Nodup) (hi : PI X tg iter wi) (ok : BlkOk X.N X.env.scope scope own) (hv : ∀ i ∈ vs1, i ∈ own.map (·.2))
    (hg : ∀ (s : Shared) (H : Hp) (C : Addr) (cl : List (Str × Addr)) (fp : List Addr), PG (X.blk s H scope (compEnvC scope cl C X.env) fp) tg g) (ht : ∀ (s : Shared) (H : Hp) (C : Addr) (cl : List (Str × Addr)) (fp : List Addr), PTs (X.blk s H scope (compEnvC scope cl C X.env) fp) ifs tt)
    (hi1 : ∀ (s : Shared) (H : Hp) (C : Addr) (cl : List (Str × Addr)) (fp : List Addr), PI (X.blk s H scope (compEnvC scope cl C X.env) fp) tg1 iter1 wi1)
    (hg1 : ∀ (s : Shared) (H : Hp) (C : Addr) (cl : List (Str × Addr)) (fp : List Addr), PG (X.blk s H scope (compEnvC scope cl C X.env) fp) tg1 g1) (ht1 : ∀ (s : Shared) (H : Hp) (C : Addr) (cl : List (Str × Addr)) (fp : List Addr), PTs (X.blk s H scope (compEnvC scope cl C X.env) fp) ifs1 tt1)
    (he : ∀ (s : Shared) (H : Hp) (C : Addr) (cl : List (Str × Addr)) (fp : List Addr), PE (X.blk s H scope (compEnvC scope cl C X.env) fp) elt te) (hs : ∀ x, foldedSetIterable iter X.env x = pure x := by intro _; rfl) (hs1 : ∀ env x, foldedSetIterable iter1 env x = pure x := by intro _ _; rfl) :
    PE X (.SetComp elt [⟨tg, iter, ifs, 0⟩, ⟨tg1, iter1, ifs1, 0⟩] scope pos) (tSet2 X.prog X.w wi g tt wi1 g1 tt1 te (own.map (·.2)) vs1) := by
  refine ⟨fun pins s σ H Q I h => ?_⟩
  refine set_frame hc hN I hi ok hs (R0 := fun J D H3 => ∃ W : Nat → Nat → Hp → Prop, (∃ m, W 0 m H3) ∧ CWalk J g tt (tInner wi1 g1 tt1 (tSetAdd X.prog X.w D te) vs1) (wipe σ (own.map Prod.snd)) (own.map Prod.snd) (fun H => Q (.ref D) H) W) h fun Y D it J fp tn H3 s4 R B I4 T st4 fr q0 hfp hR => ?_
  obtain ⟨s3, H3', C, cl, rfl⟩ := B.isB
  obtain ⟨W, ⟨m0, w0⟩, walk⟩ := q0
  exact loop_turns (Y := X.blk s3 H3' scope (compEnvC scope cl C X.env) fp) rfl rfl rfl (turn2o ..) hc rfl hfp T (hg _ _ _ _ _) (ht _ _ _ _ _) (does_inner hc rfl hv (hi1 _ _ _ _ _) (hg1 _ _ _ _ _) (ht1 _ _ _ _ _) (he _ _ _ _ _) (hs1 _)) (wipe2 σ _) walk hR m0 s4 ⟨0, H3, I4, st4, fr, w0⟩
/-- walks over tuples, lists -/
theorem cw_tup {K : PySem.W.Frag} {a : Addr} {xs : List V} {g : TG} {tt : TT} {body : L2.St → Hp → (Hp → Prop) → Prop} {σ0 : L2.St} {vs : List Nat} {QT : Hp → Prop} {H : Hp} (Pv : Nat → Hp → Prop) (h0 : Pv 0 H) (hl : ∀ i H, i ≤ xs.length → Pv i H → SqT K H a xs)
    (hs : ∀ i x H, xs[i]? = some x → Pv i H → g x σ0 H fun σ2 H2 => wipe σ2 vs = σ0 ∧ tt σ2 H2 fun b H3 => if b = true then body σ2 H3 (Pv (i + 1)) else Pv (i + 1) H3) (hd : ∀ H, Pv xs.length H → QT H) :
    ∃ W : Nat → Nat → Hp → Prop, (∃ m, W 0 m H) ∧ CWalk (Itt K a) g tt body σ0 vs QT W := by
  refine ⟨fun i m H => i ≤ xs.length ∧ m = xs.length - i ∧ Pv i H, ⟨xs.length, Nat.zero_le _, by simp, h0⟩, ?_⟩
  rintro i m H ⟨hi, rfl, hp⟩
  have hL := hl i H hi hp
  by_cases e : i = xs.length
  · exact .inl ⟨⟨xs, hL, by omega⟩, hd H (by rw [← e]; exact hp)⟩
  · have hlt : i < xs.length := by omega
    refine .inr ⟨⟨xs, xs[i], hL, List.getElem?_eq_getElem hlt⟩, Pv (i + 1), fun H' hq => ⟨_, by omega, hlt, rfl, hq⟩, fun x H' hy => ?_⟩
    obtain ⟨rfl, hx⟩ := hy
    exact hs i x _ (hx xs hL) hp
theorem cw_list {K : PySem.W.Frag} {a : Addr} {xs : List V} {g : TG} {tt : TT} {body : L2.St → Hp → (Hp → Prop) → Prop} {σ0 : L2.St} {vs : List Nat} {QT : Hp → Prop} {H : Hp} (Pv : Nat → Hp → Prop) (h0 : Pv 0 H) (hl : ∀ i H, i ≤ xs.length → Pv i H → SqL K H a xs)
    (hs : ∀ i x H, xs[i]? = some x → Pv i H → g x σ0 H fun σ2 H2 => wipe σ2 vs = σ0 ∧ tt σ2 H2 fun b H3 => if b = true then body σ2 H3 (Pv (i + 1)) else Pv (i + 1) H3) (hd : ∀ H, Pv xs.length H → QT H) :
    ∃ W : Nat → Nat → Hp → Prop, (∃ m, W 0 m H) ∧ CWalk (Itl K a) g tt body σ0 vs QT W := by
  refine ⟨fun i m H => i ≤ xs.length ∧ m = xs.length - i ∧ Pv i H, ⟨xs.length, Nat.zero_le _, by simp, h0⟩, ?_⟩
  rintro i m H ⟨hi, rfl, hp⟩
  have hL := hl i H hi hp
  by_cases e : i = xs.length
  · exact .inl ⟨⟨xs, hL, by omega⟩, hd H (by rw [← e]; exact hp)⟩
  · have hlt : i < xs.length := by omega
    refine .inr ⟨⟨xs, xs[i], hL, List.getElem?_eq_getElem hlt⟩, Pv (i + 1), fun H' hq => ⟨_, by omega, hlt, rfl, hq⟩, fun x H' hy => ?_⟩
    obtain ⟨rfl, hx⟩ := hy
    exact hs i x _ (hx xs hL) hp
end
end Sw
set_option Elab.async false
set_option maxRecDepth 100000
set_option maxHeartbeats 4000000
namespace Sw
open PySem L2 PySem.Spec PyProof.Rows
section
variable {α : Type} [DecidableEq α]
def addNew (O : List α) (k : α) : List α := if k ∈ O then O else O ++ [k]
def nubL (ks : List α) : List α := ks.foldl addNew []
theorem nubL_snoc (ks : List α) (k : α) : nubL (ks ++ [k]) = addNew (nubL ks) k := by unfold nubL; rw [List.foldl_append]; rfl
theorem addNew_nd {O : List α} {k : α} (h : O.Nodup) : (addNew O k).Nodup := by
  unfold addNew
  by_cases e : k ∈ O
  · rw [if_pos e]; exact h
  · rw [if_neg e, (List.perm_append_singleton k O).nodup_iff, List.nodup_cons]; exact ⟨e, h⟩
theorem addNew_mem {O : List α} {k x : α} : x ∈ addNew O k ↔ x ∈ O ∨ x = k := by
  unfold addNew
  by_cases e : k ∈ O
  · rw [if_pos e]
    exact ⟨.inl, fun h => h.elim id fun q => q ▸ e⟩
  · rw [if_neg e, List.mem_append, List.mem_singleton]
theorem fold_nd : ∀ {ks O : List α}, O.Nodup → (ks.foldl addNew O).Nodup
  | [], _, h => h
  | k :: ks, _, h => by rw [List.foldl_cons]; exact fold_nd (addNew_nd h)
theorem nubL_nd (ks : List α) : (nubL ks).Nodup := fold_nd List.nodup_nil
theorem fold_mem {x : α} : ∀ {ks O : List α}, x ∈ ks.foldl addNew O ↔ x ∈ O ∨ x ∈ ks
  | [], _ => by simp
  | k :: ks, O => by
    rw [List.foldl_cons, fold_mem, addNew_mem, List.mem_cons]
    exact ⟨fun h => h.elim (fun h => h.elim .inl fun h => .inr (.inl h)) fun h => .inr (.inr h), fun h => h.elim (fun h => .inl (.inl h)) fun h => h.elim (fun h => .inl (.inr h)) .inr⟩
theorem nubL_mem {ks : List α} {x : α} : x ∈ nubL ks ↔ x ∈ ks := by unfold nubL; rw [fold_mem]; simp
theorem fold_pre : ∀ {ks O : List α}, ∃ B, ks.foldl addNew O = O ++ B
  | [], O => ⟨[], by simp⟩
  | k :: ks, O => by
    rw [List.foldl_cons]
    obtain ⟨B, hB⟩ := fold_pre (ks := ks) (O := addNew O k)
    rw [hB]
    unfold addNew
    by_cases e : k ∈ O
    · rw [if_pos e]; exact ⟨B, rfl⟩
    · rw [if_neg e]; exact ⟨k :: B, by simp⟩
theorem nd_le : ∀ {l L : List α}, l.Nodup → (∀ x, x ∈ l → x ∈ L) → l.length ≤ L.length
  | [], _, _, _ => Nat.zero_le _
  | x :: l, L, nd, h => by
    rw [List.nodup_cons] at nd
    have hx := h x List.mem_cons_self
    have := nd_le (l := l) (L := L.erase x) nd.2 fun y hy => (List.mem_erase_of_ne (fun e => nd.1 (by rw [← e]; exact hy))).mpr (h y (List.mem_cons_of_mem _ hy))
    rw [List.length_erase_of_mem hx] at this
    have := List.length_pos_of_mem hx
    rw [List.length_cons]
    omega
theorem nub_len_le (ks : List α) : (nubL ks).length ≤ ks.length := nd_le (nubL_nd ks) fun x hx => nubL_mem.mp hx
theorem cover_nd : ∀ {l L : List α}, l.Nodup → (∀ x, x ∈ l → x ∈ L) → L.length ≤ l.length → L.Nodup
  | l, [], _, _, _ => List.nodup_nil
  | l, y :: L, nd, h, hl => by
    rw [List.nodup_cons]
    by_cases hy : y ∈ L
    · exfalso
      have := nd_le (l := l) (L := L) nd fun x hx => by
        rcases List.mem_cons.mp (h x hx) with e | e
        · rw [e]; exact hy
        · exact e
      rw [List.length_cons] at hl
      omega
    · refine ⟨hy, cover_nd (l := l.erase y) (nd.sublist List.erase_sublist) (fun x hx => ?_) ?_⟩
      · have hx' := (nd.mem_erase_iff).mp hx
        rcases List.mem_cons.mp (h x hx'.2) with e | e
        · exact absurd e hx'.1
        · exact e
      · by_cases hy2 : y ∈ l
        · rw [List.length_erase_of_mem hy2]
          rw [List.length_cons] at hl
          omega
        · have := nd_le (l := l) (L := L) nd fun x hx => by
            rcases List.mem_cons.mp (h x hx) with e | e
            · exact absurd (e ▸ hx) hy2
            · exact e
          rw [List.length_cons] at hl
          rw [List.erase_of_not_mem hy2]
          omega
end
theorem nub_add (L : List Str) (t : Str) : (nubL (L ++ [t])).length = if t ∈ L then (nubL L).length else (nubL L).length + 1 := by
  rw [nubL_snoc]
  unfold addNew
  by_cases e : t ∈ L
  · rw [if_pos e, if_pos (nubL_mem.mpr e)]
  · rw [if_neg e, if_neg (fun q => e (nubL_mem.mp q)), List.length_append]
    rfl
/-- the texts of a set -/
def TxK (P : Program) (w : World) (H : Hp) (D : Addr) (L : List Str) : Prop := ∃ S, H D = some (SkO P w D S (nubL L).length) ∧ ∀ k, S k = true ↔ ∃ t, t ∈ L ∧ k = Sum.inr t
theorem TxK.same {P : Program} {w : World} {H H' : Hp} {D : Addr} {L : List Str} (h : TxK P w H D L) (s : Same H H') : TxK P w H' D L := by
  obtain ⟨S, h1, h2⟩ := h
  exact ⟨S, s _ _ h1, h2⟩
theorem TxK.nil {P : Program} {w : World} {H : Hp} {D : Addr} : TxK P w (upd H D (SkO P w D (fun _ => false) 0)) D [] := ⟨_, upd_same, fun k => ⟨fun h => (by cases h), fun ⟨t, ht, _⟩ => (by cases ht)⟩⟩
theorem TxK.add {P : Program} {w : World} {H : Hp} {D : Addr} {L : List Str} (t : Str) (S : Key → Bool) (h : ∀ k, S k = true ↔ ∃ t, t ∈ L ∧ k = Sum.inr t) :
    TxK P w (upd H D (SkO P w D (fun j => S j || decide (j = Sum.inr t)) (if S (Sum.inr t) = true then (nubL L).length else (nubL L).length + 1))) D (L ++ [t]) := by
  have e : (if S (Sum.inr t) = true then (nubL L).length else (nubL L).length + 1) = (nubL (L ++ [t])).length := by
    rw [nub_add]
    by_cases q : t ∈ L
    · rw [if_pos q, if_pos ((h _).mpr ⟨t, q, rfl⟩)]
    · rw [if_neg q, if_neg (fun z => by
        obtain ⟨u, hu, e⟩ := (h _).mp z
        cases e
        exact q hu)]
  rw [e]
  refine ⟨_, upd_same, fun k => ?_⟩
  rw [Bool.or_eq_true, h k]
  constructor
  · rintro (⟨u, hu, e⟩ | e)
    · exact ⟨u, List.mem_append_left _ hu, e⟩
    · exact ⟨t, by simp, of_decide_eq_true e⟩
  · rintro ⟨u, hu, e⟩
    rcases List.mem_append.mp hu with hu | hu
    · exact .inl ⟨u, hu, e⟩
    · rw [List.mem_singleton.mp hu] at e
      exact .inr (decide_eq_true e)
/-! ### sorted of a set of texts -/
theorem strs_of {P : Program} {w : World} {S : Key → Bool} {L : List Str} (hS : ∀ k, S k = true ↔ ∃ t, t ∈ L ∧ k = Sum.inr t) : ∀ vs : List Value, (∀ v ∈ vs, ∃ k, (mixKind P w).is k v = true ∧ S k = true) → ∃ ts : List Str, StrsAre vs ts ∧ ∀ t, t ∈ ts → t ∈ L
  | [], _ => ⟨[], .nil, fun t h => by cases h⟩
  | v :: vs, h => by
    obtain ⟨k, h1, h2⟩ := h v (by simp)
    obtain ⟨t, ht, rfl⟩ := (hS k).mp h2
    obtain ⟨ts, h3, h4⟩ := strs_of hS vs fun u hu => h u (List.mem_cons_of_mem _ hu)
    rw [mixKind_is] at h1
    rcases keyIs_shape h1 with ⟨i, u, e, _⟩ | ⟨x, u, e, rfl⟩
    · cases e
    · have ex : t = x := Sum.inr.inj e
      subst ex
      exact ⟨t :: ts, .cons t u h3, fun y hy => by
        rcases List.mem_cons.mp hy with rfl | hy
        · exact ht
        · exact h4 y hy⟩
theorem strs_has {vs : List Value} {ts : List Str} (h : StrsAre vs ts) {t : Str} {u : Tok} (hm : Value.str t u ∈ vs) : t ∈ ts := by
  induction h with
  | nil => cases hm
  | cons y z _ ih =>
    rcases List.mem_cons.mp hm with e | hm
    · cases e; simp
    · exact List.mem_cons_of_mem _ (ih hm)
theorem sorted_sk {P : Program} {w : World} {A : Around} {E : Value → Shared → Prop} {s : Shared} {a : Addr} {S : Key → Bool} {L : List Str} {Q : Value → Shared → Prop} (x : Sk P w s.heap a S (nubL L).length) (hS : ∀ k, S k = true ↔ ∃ t, t ∈ L ∧ k = Sum.inr t) (hh : A.handled = none) (h64 : (nubL L).length < 64)
    (q : ∀ s' p (out : Array Value) (c : Nat) (ys : List Str), (∀ b o, s.heap.get? b = some o → s'.heap.get? b = some o) → s'.gens = s.gens → s'.os = s.os → s.heap.objs.size ≤ p → s'.heap.get? p = some (seqObj "list" out c) → StrsAre out.toList ys → ys.Perm (nubL L) → sortedS ys = true → Q (.ref p) s') :
    wpAny (model P w) A (call (.builtin "sorted") [.ref a]) Q E s := by
  obtain ⟨o, es, ep, t, ho, hex, hd, hel, hm, hb, hf, hn, hr, hl⟩ := x
  refine Calls.call_function_entry kind_sorted plain_sorted entry_sorted (args_sorted1 _) ?_
  unfold Builtin.«sorted»
  refine wpAny_bind (m := checkCount "sorted" 1 1 _) (wpAny_pure ?_)
  refine wpAny_bind (collect_set (A := A.in1) hh ⟨o, ho, hex.1, hd⟩ hf hb hr hl fun s1 vs k1 hz g1 o1 pm => ?_)
  have hvl : vs.length = (nubL L).length := by rw [pm.length_eq, List.length_map, Array.length_toList]; exact hn
  obtain ⟨ts, hts, htL⟩ := strs_of (P := P) (w := w) hS vs fun v hv => by
    obtain ⟨e, he, ev⟩ := List.mem_map.mp (pm.mem_iff.mp hv)
    obtain ⟨⟨k, h1, _⟩, _⟩ := hel e he
    rw [← ev]
    exact ⟨k, h1, (hm k).mpr ⟨e, he, h1⟩⟩
  have htl : ts.length = vs.length := (StrsAre.len_eq hts).symm
  have hLt : ∀ t, t ∈ nubL L → t ∈ ts := fun t ht => by
    obtain ⟨e, he, h1⟩ := (hm (Sum.inr t)).mp ((hS _).mpr ⟨t, nubL_mem.mp ht, rfl⟩)
    have hv : e.2 ∈ vs := pm.mem_iff.mpr (List.mem_map_of_mem he)
    rw [mixKind_is] at h1
    rcases keyIs_shape h1 with ⟨i, u, e', _⟩ | ⟨y, u, e', ev⟩
    · cases e'
    · rw [Sum.inr.inj e']
      rw [ev] at hv
      exact strs_has hts hv
  have hnd : ts.Nodup := cover_nd (nubL_nd L) hLt (by omega)
  have hperm : ts.Perm (nubL L) := (List.perm_ext_iff_of_nodup hnd (nubL_nd L)).mpr fun t => ⟨fun h => nubL_mem.mpr (htL t h), hLt t⟩
  refine wpAny_bind (wpAny_newList ?_ (by rw [hvl, sizeLine_eq]; omega))
  have hoL : (s1.heap.push (seqObj "list" vs.toArray 0)).get? s1.heap.objs.size = some (seqObj "list" vs.toArray 0) := Heap.get?_push_size _ rfl
  refine wpAny_bind (wpAny_holding (wpAny_call_entry slot_list_sort ⟨_, hoL, rfl⟩ entry_list_sort (list_sort_treeK strKind_oneLt hoL hts.keysOf (fun v₁ v₂ rest e => keyKind_strs (by rw [← e]; exact hts)) (by rw [hvl]; exact h64) fun st' hp hs => ?_) (args_list_sort _)))
  obtain ⟨ys, y1, y2, y3⟩ := sorted_out_str hts hp hs
  obtain ⟨c, hc⟩ := sortedHeap_at (vs := vs) (out := (arrOf st').map (·.2)) hoL
  refine ⟨_, rfl, wpAny_pure ⟨_, rfl, q _ s1.heap.objs.size _ c ys (fun b u e => ?_) g1 o1 hz hc y1 (y2.trans hperm) y3⟩⟩
  have r := k1 b u e
  have hlt := Heap.lt_size r
  show (sortedHeap (s1.heap.push (seqObj "list" vs.toArray 0)) s1.heap.objs.size vs _).get? b = some u
  rw [sortedHeap_old (Nat.ne_of_lt hlt) (by rw [size_push']; exact Nat.lt_succ_of_lt hlt)]
  exact Heap.get?_push_of_some _ r
def rSortSk (P : Program) (w : World) : List V → Hp → VK → Prop := fun xs H Q => ∃ (a : Addr) (L : List Str), xs = [V.ref a] ∧ TxK P w H a L ∧ (nubL L).length < 64 ∧ ∀ (ys : List Str) (p : Addr), ys.Perm (nubL L) → sortedS ys = true → H p = none → Q (.ref p) (upd H p (.lst (ys.map V.str)))
theorem cr_sortSk {X : Cx} (hc : X.calm = true) : CallR X (.builtin "sorted") (rSortSk X.prog X.w) := by
  intro pins s σ H vs us Q I r h
  obtain ⟨a, L, rfl, ⟨S, ha, hS⟩, h64, q⟩ := h
  rw [Vals.ref1 r]
  refine sorted_sk (sk_get I ha) hS (I.ok.hd hc) h64 fun s' p out c ys k g o hp hg hi hpm hs => ?_
  have hlen : (ys.map V.str).length ≤ sizeLine := by rw [List.length_map, hpm.length_eq, sizeLine_eq]; omega
  have hn : H p = none := I.hok.fresh hp
  have J : Inv X pins σ (upd H p (.lst (ys.map V.str))) { s with heap := s'.heap, gens := s'.gens, drawn := s'.drawn, toks := s'.toks } :=
    I.call (ch := []) (Un.laid k hp hn) (I.hok.laid k hp ⟨hlen, out.toList, c, vals_of_strs hi, hg⟩) (by rw [g]; exact I.bare) (fun _ z => nomatch z)
  have e : s' = { s with heap := s'.heap, gens := s'.gens, drawn := s'.drawn, toks := s'.toks } := by
    cases s'
    cases s
    cases o
    rfl
  rw [e]
  exact ⟨.ref p, _, J, rfl, q ys p hpm hs hn⟩
end Sw
set_option Elab.async false
set_option maxRecDepth 100000
set_option maxHeartbeats 4000000
namespace Sw
open PySem L2 PySem.Spec PyProof.Rows
/-! ### set(l) of a list of texts -/
def TxSk (P : Program) (w : World) (h : Heap) (a : Addr) (L : List Str) : Prop := ∃ S, Sk P w h a S (nubL L).length ∧ ∀ k, S k = true ↔ ∃ t, t ∈ L ∧ k = Sum.inr t
theorem TxSk.keep {P : Program} {w : World} {h h' : Heap} {a : Addr} {L : List Str} (x : TxSk P w h a L) (k : ∀ o, h.get? a = some o → h'.get? a = some o) : TxSk P w h' a L := by
  obtain ⟨S, h1, h2⟩ := x
  exact ⟨S, h1.keep k, h2⟩
theorem TxSk.more {P : Program} {w : World} {h : Heap} {a : Addr} {L : List Str} {S : Key → Bool} (t : Str) (hS : ∀ k, S k = true ↔ ∃ t, t ∈ L ∧ k = Sum.inr t) (x : Sk P w h a (fun j => S j || decide (j = Sum.inr t)) (if S (Sum.inr t) = true then (nubL L).length else (nubL L).length + 1)) : TxSk P w h a (L ++ [t]) := by
  have e : (if S (Sum.inr t) = true then (nubL L).length else (nubL L).length + 1) = (nubL (L ++ [t])).length := by
    rw [nub_add]
    by_cases q : t ∈ L
    · rw [if_pos q, if_pos ((hS _).mpr ⟨t, q, rfl⟩)]
    · rw [if_neg q, if_neg (fun z => by
        obtain ⟨u, hu, e⟩ := (hS _).mp z
        cases e
        exact q hu)]
  rw [e] at x
  refine ⟨_, x, fun k => ?_⟩
  rw [Bool.or_eq_true, hS k]
  constructor
  · rintro (⟨u, hu, e⟩ | e)
    · exact ⟨u, List.mem_append_left _ hu, e⟩
    · exact ⟨t, by simp, of_decide_eq_true e⟩
  · rintro ⟨u, hu, e⟩
    rcases List.mem_append.mp hu with hu | hu
    · exact .inl ⟨u, hu, e⟩
    · rw [List.mem_singleton.mp hu] at e
      exact .inr (decide_eq_true e)
section
variable {P : Program} {w : World} {A : Around} {E : Value → Shared → Prop} {s : Shared}
theorem set_grows {I : Addr} {fp wr : List Addr} {G : Array GenState → Array GenState → Prop} {n : Nat} {Pv : Nat → Value → Prop} {St : Nat → Shared → Prop} {R : Result → Shared → Prop} (W : WalksS P w A.in1 I fp wr G n Pv St) (D : Addr) (nD : D ∉ fp) (xs : List Str) (hn : n = xs.length) (hb : xs.length + 1 < scanBound) (hv : ∀ i v, Pv i v → ∃ t u, xs[i]? = some t ∧ v = .str t u) :
    ∀ (m i : Nat) (s : Shared), m = n - i → i ≤ n → St i s → TxSk P w s.heap D (xs.take i) → (∀ s', Moved (D :: wr) G s s' → TxSk P w s'.heap D xs → R (.ok (.ret .none)) s') → codeAny (model P w) A (.builtin "set.update.loop" ⟨[.ref D, .ref I], []⟩) R s := by
  have nW : D ∉ wr := fun z => nD (W.sub _ z)
  have wider : ∀ b ∈ wr, b ∈ D :: wr := fun b z => List.mem_cons_of_mem _ z
  intro m
  induction m with
  | zero =>
    intro i s hm hi st x k
    have ei : i = n := by omega
    subst ei
    refine codeAny_builtin F.entry_set_update_loop ?_
    rw [Around.under_plainId F.plain_set_update_loop _]
    show wpAny _ A.in1 (pyNext (.ref I) >>= _) _ _ s
    refine wpAny_bind (W.done s _ _ st fun s' mv => ?_)
    rw [List.take_of_length_le (by omega)] at x
    exact wpAny_pure (k s' (mv.mono wider) (x.keep fun o e => mv.heap D o nW e))
  | succ m ih =>
    intro i s hm hi st ⟨S, x, hS⟩ k
    refine codeAny_builtin F.entry_set_update_loop ?_
    rw [Around.under_plainId F.plain_set_update_loop _]
    show wpAny _ A.in1 (pyNext (.ref I) >>= _) _ _ s
    refine wpAny_bind (W.item i s _ _ (by omega) st fun v s' pv st' mv => ?_)
    obtain ⟨t, u, ht, rfl⟩ := hv i v pv
    have x' := x.keep (h' := s'.heap) fun o e => mv.heap D o nW e
    show wpAny _ A.in1 (holding [Value.str t u] (setAdd D (.str t u)) >>= _) _ _ s'
    refine wpAny_bind (wpAny_holding ?_)
    unfold setAdd
    have ik : (mixKind P w).is (Sum.inr t) (.str t u) = true := by rw [mixKind_is]; exact keyIs_str t u
    have hle : (nubL (xs.take i)).length ≤ xs.length := Nat.le_trans (nub_len_le _) (by rw [List.length_take]; omega)
    refine wpAny_holding (wpAny_bind ((mixKind P w).pyHash ik ?_))
    refine sk_add_hashed (s := { s' with toks := s'.toks + 1 }) ik rfl x' (by omega) fun h' sb y => ?_
    have y' : TxSk P w h' D (xs.take (i + 1)) := by
      rw [List.take_add_one, ht]
      exact TxSk.more t hS y
    refine wpAny_pure ⟨plainId_quiet F.plain_set_update_loop _, ih (i + 1) _ (by omega) (by omega) (W.frame _ s' _ _ st' (Nat.le_succ _) fun b hb o e => ?_) y' fun s'' mv2 z => ?_⟩
    · exact (sb.2 b fun q => nD (q ▸ hb)).trans e
    · exact k s'' (Moved.trans W.gtrans ((mv.mono wider).then_heap (Nat.le_succ _) fun b o hb e => (sb.2 b fun q => hb (by rw [q]; exact List.mem_cons_self)).trans e) mv2) z
abbrev newSet (w : World) : Obj := { cls := .type "set", dict := none, data := .set #[] 0 (.fresh 0 0 (!w.params.followText "set-order")) }
set_option maxRecDepth 100000 in
set_option maxHeartbeats 3200000 in
theorem call_set_tx {l : Addr} {items : Array Value} (xs : List Str) {Q : Value → Shared → Prop} (hh : A.handled = none) (hl : s.heap.IsList l items) (hx : StrsAre items.toList xs) (hb : xs.length + 1 < scanBound)
    (k : ∀ (h' : Heap) (tk : Nat), TxSk P w h' s.heap.objs.size xs → (∀ b o, s.heap.get? b = some o → h'.get? b = some o) → Q (.ref s.heap.objs.size) { s with heap := h', toks := tk }) :
    wpAny (model P w) A (call (.type "set") [.ref l]) Q E s := by
  have sz : items.size = xs.length := by
    have := StrsAre.len_eq hx
    rwa [Array.length_toList] at this
  obtain ⟨c, tl, hmro⟩ := F.called_set.mro
  have g1 := F.called_set.made
  have g2 := F.called_set.sub
  refine wpAny_call (codeAny_of_tree ?_)
  show wpAny _ _ (callAny (.type "set") _) _ _ _
  refine wpAny_pure ⟨Code.quiet_builtin _ (by decide +kernel), codeAny_builtin F.entry_type_call ?_⟩
  rw [Around.under_plain (weight_type_call_type "set" [.ref l] []) rfl]
  have g3 := F.called_set.notType
  have g4 := F.called_set.canCreate
  have g5 := F.typeCall_set_1 (.ref l)
  repeat (any_goals (first | assumption | wp_step))
  refine codeAny_mono (code_set_led1 (.ref l) (E := E) (Q₁ := fun obj s₁ => obj = .ref s.heap.objs.size ∧ s₁ = { s with heap := s.heap.push (newSet w) }) ⟨rfl, rfl⟩) fun r s₁ hr => ?_
  cases r with
  | error e => exact hr
  | ok fl =>
    cases fl with
    | ret obj =>
      obtain ⟨rfl, rfl⟩ := hr
      have aS : (s.heap.push (newSet w)).get? s.heap.objs.size = some (newSet w) := Heap.get?_push_size _ rfl
      have tS : Shared.TypeIs { s with heap := s.heap.push (newSet w) } (.ref s.heap.objs.size) "set" := ⟨_, aS, rfl⟩
      have g6 := F.called_set.init.lookup
      have g7 := F.called_set.init.bind (.ref s.heap.objs.size)
      repeat (any_goals (first | assumption | wp_step))
      refine codeAny_mono (codeAny_call_builtin (R := wants (fun r s₂ => r = .none ∧ ∃ h' tk, s₂ = { s with heap := h', toks := tk } ∧ TxSk P w h' s.heap.objs.size xs ∧ (∀ b o, s.heap.get? b = some o → h'.get? b = some o)) E) F.called_set.init.plain F.entry_set_init (check_set_init_1 tS ?_)) fun r₂ s₂ hr₂ => ?_
      · obtain ⟨ol, hol, hcl, nl, hdl⟩ := hl
        obtain ⟨ocls, odict, odata, oslots⟩ := ol
        simp only at hcl hdl
        subst hcl
        subst hdl
        have al : (s.heap.push (newSet w)).get? l = some { cls := .type "list", dict := odict, data := .seq items nl, slots := oslots } := Heap.get?_push_of_some _ hol
        have g8 := PySem.F.sub_list_set
        have g9 := PySem.F.sub_list_frozenset
        have g10 : (Value.type "list" == Value.type "dict") = false := by decide
        have isl : (s.heap.push (newSet w)).IsList l items := ⟨_, al, rfl, nl, rfl⟩
        unfold Builtin.«set.__init__» noKeywords Builtin.Frozenset.updateFrom
        generalize hPI : pyIter = PI
        wp_walk
        subst hPI
        refine wpAny_pyIter_list isl ?_
        refine wpAny_bind (wpAny_runValue ?_)
        have lS : l < s.heap.objs.size := Heap.lt_size hol
        have hz : (s.heap.push (newSet w)).objs.size = s.heap.objs.size + 1 := Heap.size_push ..
        have hd3 : A.in1.in1.in1.handled = none := by simp [hh]
        have nI : l ≠ (s.heap.push (newSet w)).objs.size := by rw [hz]; exact Nat.ne_of_lt (Nat.lt_succ_of_lt lS)
        have nF : s.heap.objs.size ∉ [(s.heap.push (newSet w)).objs.size, l] := by
          rw [hz]
          simp only [List.mem_cons, List.not_mem_nil, or_false, not_or]
          exact ⟨Nat.ne_of_lt (Nat.lt_succ_self _), Nat.ne_of_gt lS⟩
        have hval : ∀ (i : Nat) (v : Value), items[i]? = some v → ∃ t u, xs[i]? = some t ∧ v = .str t u := fun i v hv => by
          have hi : i < xs.length := by rw [← sz]; exact (Array.getElem?_eq_some_iff.mp hv).1
          obtain ⟨u, e⟩ := SS.strs_at hx i v (by rw [Array.getElem?_toList]; exact hv)
          refine ⟨xs[i], u, List.getElem?_eq_getElem hi, ?_⟩
          rw [e, List.getD_eq_getElem?_getD, List.getElem?_eq_getElem hi]
          rfl
        refine set_grows ((Walks.list hd3 _ l nI items).toS) s.heap.objs.size nF xs sz hb hval (items.size - 0) 0 _ (by omega) (Nat.zero_le _) ⟨⟨_, Heap.get?_push_size _ rfl, rfl, rfl⟩, (isl.push _)⟩ ?hS0 ?hR
        case hS0 =>
          have f0 := Sk.fresh P w s.heap
          exact ⟨_, f0.keep fun o e => Heap.get?_push_of_some _ e, fun k => ⟨fun z => (by cases z), fun ⟨t, ht, _⟩ => (by simp at ht)⟩⟩
        case hR =>
          intro s' mv y
          obtain ⟨h', g2', d', tk', os'⟩ := s'
          have eg : g2' = s.gens := mv.gens
          have ed : d' = s.drawn := mv.drawn
          have eo : os' = s.os := mv.os
          subst eg
          subst ed
          subst eo
          show wpAny _ _ _ _ _ _
          refine wpAny_pure ?_
          show wpAny _ _ (ret Value.none) _ _ _
          refine wpAny_pure ⟨rfl, h', tk', rfl, y, fun b o e => ?_⟩
          have b0 : b < s.heap.objs.size := Heap.lt_size e
          refine mv.heap b o ?_ (Heap.get?_push_of_some _ (Heap.get?_push_of_some _ e))
          rw [hz]
          simp only [List.mem_cons, List.not_mem_nil, or_false, not_or]
          exact ⟨Nat.ne_of_lt b0, Nat.ne_of_lt (Nat.lt_succ_of_lt b0)⟩
      · cases r₂ with
        | error e => exact hr₂
        | ok fl₂ =>
          cases fl₂ with
          | ret r =>
            obtain ⟨rfl, h', tk, rfl, y, kk⟩ := hr₂
            repeat (any_goals (first | assumption | wp_step))
            exact k _ _ y kk
          | _ => exact hr₂.elim
    | _ => exact hr.elim
end
def rSetTx (P : Program) (w : World) (K : PySem.W.Frag) : List V → Hp → VK → Prop := fun vs H Q => ∃ (a : Addr) (xs : List Str), vs = [V.ref a] ∧ SqL K H a (xs.map V.str) ∧ xs.length ≤ 4000 ∧ ∀ (H' : Hp) (p : Addr), Same H H' → H p = none → TxK P w H' p xs → Q (.ref p) H'
theorem cr_setTx {X : Cx} (hc : X.calm = true) : CallR X (.type "set") (rSetTx X.prog X.w X.K) := by
  intro pins s σ H vs us Q I r h
  obtain ⟨a, xs, rfl, hs, hl, q⟩ := h
  obtain ⟨its, rv, pl, _⟩ := I.list hs
  rw [Vals.ref1 r]
  refine call_set_tx xs (I.ok.hd hc) pl.isList (by simpa using rv.strs) (by unfold scanBound; omega) fun h' tk ⟨S, y, hS⟩ kk => ?_
  have np : H s.heap.objs.size = none := I.hok.fresh (Nat.le_refl _)
  exact ⟨.ref _, upd H s.heap.objs.size (SkO X.prog X.w s.heap.objs.size S (nubL xs).length), I.laid (t' := tk) kk (Nat.le_refl _) (sk_new y), rfl, q _ _ (.new np) np ⟨S, upd_same, hS⟩⟩
end Sw
set_option Elab.async false
set_option maxRecDepth 100000
set_option maxHeartbeats 4000000
namespace Sw
open PySem L2 PySem.Spec PyProof.Rows
theorem szb {n : Nat} (h : n ≤ 16000000) : n < sizeLine := by rw [sizeLine_eq]; omega
theorem szl {n : Nat} (h : n ≤ 16000000) : n ≤ sizeLine := by rw [sizeLine_eq]; omega
/-! ### a thing's type, by its data -/
def tyN : PyData → String
  | .none => "NoneType"
  | .bool _ => "bool"
  | .int _ => "int"
  | .str _ => "str"
  | .list _ => "list"
  | .tuple _ => "tuple"
  | .dict _ => "dict"
theorem tyX {K : PySem.W.Frag} {H : Hp} {v : V} {d : PyData} (h : Dp K H v d) : TyX K H v (.type (tyN d)) := by
  cases h with
  | non => exact .base .non
  | bl b => exact .base (.bl b)
  | int i => exact .base (.int i)
  | str x => exact .base (.str x)
  | lst h1 h2 =>
    rcases h1 with (h1 | ⟨o, h1⟩) | ⟨o, its, n, e, c, _⟩
    · exact .base (.lst h1)
    · exact .base (.frz h1)
    · exact .kList e c
  | tup h1 h2 =>
    rcases h1 with (h1 | ⟨o, h1⟩) | ⟨o, its, n, e, c, _⟩
    · exact .base (.tup h1)
    · exact .fTuple h1
    · exact .kTuple e c
/-- the answer of isinstance for the built-in class T -/
theorem isD (K : PySem.W.Frag) (T : String) (f : PyData → Bool) (h1 : kitB "NoneType" T = some (f .none)) (h2 : ∀ b, kitB "bool" T = some (f (.bool b))) (h3 : ∀ i, kitB "int" T = some (f (.int i))) (h4 : ∀ t, kitB "str" T = some (f (.str t)))
    (h5 : ∀ l, kitB "list" T = some (f (.list l))) (h6 : ∀ l, kitB "tuple" T = some (f (.tuple l))) {H : Hp} {v : V} {d : PyData} (h : Dp K H v d) : PySem.W.kitOne K (.type (tyN d)) (.type T) = some (f d) := by
  cases h with
  | non => exact kit_ty h1
  | bl b => exact kit_ty (h2 b)
  | int i => exact kit_ty (h3 i)
  | str x => exact kit_ty (h4 x)
  | lst _ _ => exact kit_ty (h5 _)
  | tup _ _ => exact kit_ty (h6 _)
def isStrD : PyData → Bool
  | .str _ => true
  | _ => false
def isTupD : PyData → Bool
  | .tuple _ => true
  | _ => false
def isLstD : PyData → Bool
  | .list _ => true
  | _ => false
def isBoolD : PyData → Bool
  | .bool _ => true
  | _ => false
def isIntD : PyData → Bool
  | .int _ => true
  | .bool _ => true
  | _ => false
theorem isStr {K : PySem.W.Frag} {H : Hp} {v : V} {d : PyData} (h : Dp K H v d) : PySem.W.kitOne K (.type (tyN d)) (.type "str") = some (isStrD d) :=
  isD K "str" isStrD (by decide +kernel) (fun _ => (by decide +kernel : kitB "bool" "str" = some false)) (fun _ => (by decide +kernel : kitB "int" "str" = some false)) (fun _ => (by decide +kernel : kitB "str" "str" = some true)) (fun _ => (by decide +kernel : kitB "list" "str" = some false)) (fun _ => (by decide +kernel : kitB "tuple" "str" = some false)) h
theorem isTup {K : PySem.W.Frag} {H : Hp} {v : V} {d : PyData} (h : Dp K H v d) : PySem.W.kitOne K (.type (tyN d)) (.type "tuple") = some (isTupD d) :=
  isD K "tuple" isTupD (by decide +kernel) (fun _ => (by decide +kernel : kitB "bool" "tuple" = some false)) (fun _ => (by decide +kernel : kitB "int" "tuple" = some false)) (fun _ => (by decide +kernel : kitB "str" "tuple" = some false)) (fun _ => (by decide +kernel : kitB "list" "tuple" = some false)) (fun _ => (by decide +kernel : kitB "tuple" "tuple" = some true)) h
theorem isLst {K : PySem.W.Frag} {H : Hp} {v : V} {d : PyData} (h : Dp K H v d) : PySem.W.kitOne K (.type (tyN d)) (.type "list") = some (isLstD d) :=
  isD K "list" isLstD (by decide +kernel) (fun _ => (by decide +kernel : kitB "bool" "list" = some false)) (fun _ => (by decide +kernel : kitB "int" "list" = some false)) (fun _ => (by decide +kernel : kitB "str" "list" = some false)) (fun _ => (by decide +kernel : kitB "list" "list" = some true)) (fun _ => (by decide +kernel : kitB "tuple" "list" = some false)) h
theorem isBool {K : PySem.W.Frag} {H : Hp} {v : V} {d : PyData} (h : Dp K H v d) : PySem.W.kitOne K (.type (tyN d)) (.type "bool") = some (isBoolD d) :=
  isD K "bool" isBoolD (by decide +kernel) (fun _ => (by decide +kernel : kitB "bool" "bool" = some true)) (fun _ => (by decide +kernel : kitB "int" "bool" = some false)) (fun _ => (by decide +kernel : kitB "str" "bool" = some false)) (fun _ => (by decide +kernel : kitB "list" "bool" = some false)) (fun _ => (by decide +kernel : kitB "tuple" "bool" = some false)) h
theorem isInt {K : PySem.W.Frag} {H : Hp} {v : V} {d : PyData} (h : Dp K H v d) : PySem.W.kitOne K (.type (tyN d)) (.type "int") = some (isIntD d) :=
  isD K "int" isIntD (by decide +kernel) (fun _ => (by decide +kernel : kitB "bool" "int" = some true)) (fun _ => (by decide +kernel : kitB "int" "int" = some true)) (fun _ => (by decide +kernel : kitB "str" "int" = some false)) (fun _ => (by decide +kernel : kitB "list" "int" = some false)) (fun _ => (by decide +kernel : kitB "tuple" "int" = some false)) h
/-! ### is, is not of truths -/
section
variable {X : Cx}
def rIsB (n : Bool) : R2 := fun x y H Q => ∃ a b, x = .bl a ∧ y = .bl b ∧ Q (.bl (if n then !decide (a = b) else decide (a = b))) H
theorem bool_beq (a b : Bool) : (Value.bool a == Value.bool b) = decide (a = b) := by cases a <;> cases b <;> rfl
theorem op_isB : OpR X (compareOp .Is) (rIsB false) := by
  intro pins s σ H x y v u Q I rx ry h
  obtain ⟨a, b, rfl, rfl, q⟩ := h
  cases (show v = Value.bool a from rx)
  cases (show u = Value.bool b from ry)
  exact wpAny_is_plain rfl (fin_bl I q (bool_beq a b).symm)
theorem op_notB : OpR X (compareOp .IsNot) (rIsB true) := by
  intro pins s σ H x y v u Q I rx ry h
  obtain ⟨a, b, rfl, rfl, q⟩ := h
  cases (show v = Value.bool a from rx)
  cases (show u = Value.bool b from ry)
  exact wpAny_isNot_plain rfl (fin_bl I q (congrArg not (bool_beq a b).symm))
end
/-! ### walks over a text's signs -/
theorem gw_str {x : Str} {go : Bool} {g : TG} {te : TE} {σ0 : L2.St} {vs : List Nat} {QT QF : Hp → Prop} {H : Hp} (Pv : Nat → Hp → Prop) (h0 : Pv 0 H)
    (hs : ∀ i c H, x.cps.toList[i]? = some c → Pv i H → g (.str ⟨#[c]⟩) σ0 H fun σ2 H2 => wipe σ2 vs = σ0 ∧ te σ2 H2 fun y H3 => ∃ b, y = .bl b ∧ if b = go then Pv (i + 1) H3 else QF H3) (hd : ∀ H, Pv x.cps.toList.length H → QT H) :
    ∃ W : Nat → Nat → Hp → Prop, (∃ m, W 0 m H) ∧ GWalk go (Its x) g te σ0 vs QT QF W := by
  have hl : x.cps.toList.length = x.cps.size := by simp
  refine ⟨fun i m H => i ≤ x.cps.size ∧ m = x.cps.size - i ∧ Pv i H, ⟨_, Nat.zero_le _, rfl, h0⟩, ?_⟩
  rintro i m H ⟨hi, rfl, hp⟩
  by_cases e : i = x.cps.size
  · exact .inl ⟨by show x.cps.size ≤ i; omega, hd H (by rw [hl, ← e]; exact hp)⟩
  · refine .inr ⟨by show i < x.cps.size; omega, Pv (i + 1), fun H' hq => ⟨_, by omega, by omega, rfl, hq⟩, fun v H' hy => ?_⟩
    obtain ⟨rfl, c, hc, rfl⟩ := hy
    exact hs i c _ (by rw [Array.getElem?_toList]; exact hc) hp
theorem lc_str {x : Str} {g : TG} {tt : TT} {te : TE} {vs : List Nat} {σ : L2.St} {H1 : Hp} {D : Addr} {Qd : Hp → Prop} (Pv : Nat → Hp → Prop) (h0 : Pv 0 (upd H1 D (.lst [])))
    (hs : ∀ i c H, x.cps.toList[i]? = some c → Pv i H → g (.str ⟨#[c]⟩) (wipe σ vs) H fun σ2 H2 => wipe σ2 vs = wipe σ vs ∧ tt σ2 H2 fun b H3 => if b = true then te σ2 H3 fun y H4 => ∃ acc, H4 D = some (.lst acc) ∧ acc.length < sizeLine ∧ Pv (i + 1) (upd H4 D (.lst (acc ++ [y]))) else Pv (i + 1) H3)
    (hd : ∀ H, Pv x.cps.toList.length H → Qd H) : ∃ W : Nat → Nat → Hp → Prop, (∃ m, W 0 m (upd H1 D (.lst []))) ∧ ∀ i m H, W i m H →
      ((Its x).stop i H ∧ Qd H) ∨ ((Its x).go i H ∧ ∃ Nx : Hp → Prop, (∀ H', Nx H' → ∃ m', m' < m ∧ W (i + 1) m' H') ∧ ∀ v H', (Its x).yld i H v H' → g v (wipe σ vs) H' fun σ2 H2 => wipe σ2 vs = wipe σ vs ∧ tt σ2 H2 fun b H3 =>
        if b = true then te σ2 H3 fun y H4 => ∃ acc, H4 D = some (.lst acc) ∧ acc.length < sizeLine ∧ Nx (upd H4 D (.lst (acc ++ [y]))) else Nx H3) := by
  have hl : x.cps.toList.length = x.cps.size := by simp
  refine ⟨fun i m H => i ≤ x.cps.size ∧ m = x.cps.size - i ∧ Pv i H, ⟨_, Nat.zero_le _, rfl, h0⟩, ?_⟩
  rintro i m H ⟨hi, rfl, hp⟩
  by_cases e : i = x.cps.size
  · exact .inl ⟨by show x.cps.size ≤ i; omega, hd H (by rw [hl, ← e]; exact hp)⟩
  · refine .inr ⟨by show i < x.cps.size; omega, Pv (i + 1), fun H' hq => ⟨_, by omega, by omega, rfl, hq⟩, fun v H' hy => ?_⟩
    obtain ⟨rfl, c, hc, rfl⟩ := hy
    exact hs i c _ (by rw [Array.getElem?_toList]; exact hc) hp
/-! ### t * k of a tuple, of any tuple -/
theorem tuple_mulOne (l : Addr) (items : Array Value) (n : Nat) (dd : Option Addr) (sl : Array (Option Value)) (x : Int) (u : Tok) (c0 : (decide (x < -(2 ^ 63)) || decide (x ≥ 2 ^ 63)) = false) (c1 : (items.isEmpty || x == 1) = true) :
    Meets (Builtin.«tuple.__mul__» ⟨[.ref l, .int x u], []⟩) (fun _ R s => s.heap.get? l = some { cls := .type "tuple", dict := dd, data := .seq items n, slots := sl } ∧ R (.ok (.ret (Value.ref l))) s) :=
  .of_wp fun prog w A R s h => by
    obtain ⟨hp, g, d, tk, os⟩ := s
    obtain ⟨hl, h⟩ := h
    have f1 := AutoSeq1.idx_int
    wp_walk using wpAny_loadPart' hl
    repeat (first
      | (refine wpAny_ite_false (decide_eq_false (by rw [c0]; exact Bool.false_ne_true)) ?_; wp_walk using wpAny_loadPart' hl)
      | (refine wpAny_ite_true (decide_eq_true c1) ?_; wp_walk using wpAny_loadPart' hl))
    exact ⟨_, rfl, h⟩
def rRepA (K : PySem.W.Frag) : R2 := fun x y H Q => ∃ l k xs, x = .ref l ∧ y = .int k ∧ SqT K H l xs ∧ 1 ≤ k ∧ k ≤ 1000 ∧ xs.length ≤ 1000 ∧ ((xs = [] ∨ k = 1) → Q (.ref l) H) ∧ (∀ p, H p = none → Q (.ref p) (upd H p (.tup (List.replicate k.toNat xs).flatten)))
section
variable {X : Cx}
theorem op_repA : OpR X (binaryOp .Mult) (rRepA X.K) := by
  intro pins s σ H x y v u Q I rx ry h
  obtain ⟨l, k, xs, rfl, rfl, hT, h1, h2, hz, q1, q2⟩ := h
  by_cases hc : xs = [] ∨ k = 1
  · cases rx
    obtain ⟨t, rfl⟩ := ry
    obtain ⟨its, r, ⟨⟨cls, dd, data, sl⟩, ho, hcl, n, hd⟩, hs⟩ := I.tuple hT
    simp only at hcl hd
    subst hcl hd
    have hle : its.length = xs.length := r.length.symm
    have c0 : (decide (k < -(2 ^ 63)) || decide (k ≥ 2 ^ 63)) = false := by
      rw [decide_eq_false (by omega), decide_eq_false (by omega)] <;> rfl
    have c1 : (its.toArray.isEmpty || k == 1) = true := by
      rcases hc with hc | hc
      · rw [hc] at hle
        have e := List.eq_nil_of_length_eq_zero hle
        rw [e]
        rfl
      · rw [hc, Bool.or_eq_true]
        exact .inr rfl
    refine wpAny_binaryOp_repeat_ref (T := "tuple") (U := "int") (by decide) ⟨_, ho, rfl⟩ (fun s' => typeIs_int s' k t) noFill_tuple_mul F.fills_int_mul F.slot_int_rmul repeat_tuple F.slot_int_index.lookup
      (call_meets F.slot_int_rmul (typeIs_int s k t) F.entry_int_rmul (F.args_int_rmul_2 _ _) (int_rmul_tuple k t l its.toArray n dd sl)
        ⟨ho, rfl, ⟨_, ho, rfl⟩, call_meets F.slot_tuple_mul ⟨_, ho, rfl⟩ F.entry_tuple_mul (F.args_tuple_mul_2 _ _) (tuple_mulOne l its.toArray n dd sl k t c0 c1) ⟨ho, ?_⟩⟩)
    exact ⟨.ref l, H, I, rfl, q1 hc⟩
  · exact op_repT pins s σ H _ _ v u Q I rx ry ⟨l, k, xs, rfl, rfl, hT, fun e => hc (.inl e), by omega, h2, hz, q2⟩
end
/-! ### a def that holds generator expressions -/
section
variable {P : Program} {w : World} {K : PySem.W.Frag} {mg : Str → Option Value} {base : Heap}
structure DefTab (K : PySem.W.Frag) (mg : Str → Option Value) (base : Heap) (x : Str) (st : Stmt) (ps : List Str) (T : Addr) : Prop where
  ex : ∃ (f : Addr) (oc : Value) (od : Option Addr) (kV doc pm : Value) (an : Option Addr) (c : Addr) (ct : Value) (osl : Array (Option Value)),
    K.lookup f = some ⟨oc, od, .func (PySem.W.fnOf x x (defArgs st) (defBody st) (defScope st) .none kV doc pm an (.ref c) ct), osl⟩ ∧ PySem.W.codeIn K (.ref c) x = true ∧ PySem.W.keepIn K (.ref f) = true ∧ mg x = some (.ref f) ∧
      Binds K (PySem.W.fnOf x x (defArgs st) (defBody st) (defScope st) .none kV doc pm an (.ref c) ct) ps [] ∧ GxR.TabB base mg c T
theorem DefTab.ok {x : Str} {st : Stmt} {N ps : List Str} {k : Nat} {sp : Sp} {T : Addr} (F : DefTab K mg base x st ps T) (S : FnScope N ps (defScope st)) (len : ∀ vs H Q E, sp vs H Q E → vs.length = ps.length)
    (hbody : ∀ (f c : Addr) (A : Around) (outer : List Env) (s : Shared) (H : Hp) (vs : List V) (Q : VK) (E : XK), GxR.TabB base mg c T → Room k (A.deeper (envOfC x (defScope st) s.heap.objs.size f (.ref c))) → sp vs H Q E →
      ∃ t, PSs (cxOf CX0 P w K mg base N x (defScope st) f (.ref c) A outer s H E).nox (defBody st) t ∧ t { nx := fun _ H' => Q .non H', rt := Q } (start N vs) H) : DefOk P w K mg base x (k + 1) ps sp := by
  obtain ⟨f, oc, od, kV, doc, pm, an, c, ct, osl, lk, hcd, kp, hm, hb, TB⟩ := F.ex
  refine ⟨f, _, fn_of lk hcd S len fun A outer s H vs Q E hr hsp => ?_, hm, kp, hb⟩
  obtain ⟨t, h, q⟩ := hbody f c A outer s H vs Q E TB hr hsp
  exact ⟨t, h.nox, q⟩
end
end Sw
set_option Elab.async false
set_option maxRecDepth 100000
set_option maxHeartbeats 4000000
namespace Sw
open PySem L2 PySem.Spec PyProof.Rows HT
/-! ### t[::-1] of a tuple -/
theorem adjust_rev (n : Nat) : Builtin.Slice.sliceAdjust none none (-1) (n : Int) = ((n : Int) - 1, -1) := by
  have h1 : ((-1 : Int) < 0) := by omega
  unfold Builtin.Slice.sliceAdjust
  simp only [h1, if_true]
theorem places_rev (n : Nat) : Builtin.Slice.slicePlaces ((n : Int) - 1) (-1) (-1) = n := by
  unfold Builtin.Slice.slicePlaces
  have h1 : ¬ ((-1 : Int) > 0) := by omega
  simp only [h1, if_false]
  split
  · have e : ((n : Int) - 1 - -1 - 1) / (- -1) + 1 = n := by
      have : (- -1 : Int) = 1 := by omega
      rw [this, Int.ediv_one]
      omega
    rw [e]
    omega
  · omega
theorem fm_congr {α β : Type} {f g : α → Option β} : ∀ {l : List α}, (∀ x, x ∈ l → f x = g x) → l.filterMap f = l.filterMap g
  | [], _ => rfl
  | a :: l, h => by
    rw [List.filterMap_cons, List.filterMap_cons, h a List.mem_cons_self, fm_congr (l := l) fun x hx => h x (List.mem_cons_of_mem _ hx)]
theorem pick_rev (xs : Array Value) : ((List.range xs.size).filterMap fun (k : Nat) => xs[(((xs.size : Int) - 1) + (k : Int) * (-1)).toNat]?).toArray = xs.toList.reverse.toArray := by
  have e1 : ((List.range xs.size).filterMap fun (k : Nat) => xs[(((xs.size : Int) - 1) + (k : Int) * (-1)).toNat]?) = ((List.range xs.size).map (fun k => xs.size - 1 - k)).filterMap (xs[·]?) := by
    rw [List.filterMap_map]
    refine fm_congr fun k hk => ?_
    have hk' : k < xs.size := List.mem_range.mp hk
    have : ((((xs.size : Int) - 1) + (k : Int) * (-1)).toNat) = xs.size - 1 - k := by omega
    rw [this]
    rfl
  rw [e1, PySem.W.krv_range, List.filterMap_reverse, PySem.W.krv_all]
section
variable {prog : Program} {w : World} {A : Around} {E : Value → Shared → Prop} {s : Shared}
theorem slicePart_neg {v : Value} {o : Option Int} {Q : Option Int → Shared → Prop} (p : IsPart v o) (h : Q o s) : wpAny (model prog w) A (Builtin.Slice.slicePartIndex v) Q E s := slicePart_ p h
theorem sliceApplied_rev {sl : Addr} {vs : Value} {n : Nat} {Q : Int × Int × Nat → Shared → Prop} (hs : s.heap.IsSliceOf sl .none .none vs) (ps : IsPart vs (some (-1)))
    (h : Q (((n : Int) - 1), -1, n) s) : wpAny (model prog w) A (Builtin.Slice.sliceApplied (.ref sl) (pure (n : Int))) Q E s := by
  obtain ⟨os, hos, hcs, hds⟩ := id hs
  unfold Builtin.Slice.sliceApplied Builtin.Slice.sliceFields
  refine wpAny_bind (wpAny_bind (wpAny_field hos hds (x := .none) rfl (wpAny_bind (wpAny_field hos hds (x := .none) rfl (wpAny_bind (wpAny_field hos hds (x := vs) rfl (wpAny_pure ?_)))))))
  refine wpAny_bind (slicePart_ ps ?_)
  show wpAny _ _ (if ((-1 : Int) == 0) = true then _ else _) _ _ s
  rw [if_neg (by decide)]
  refine wpAny_bind (slicePart_ .none (wpAny_bind (slicePart_ .none (wpAny_bind (wpAny_pure ?_)))))
  show wpAny _ _ (match Builtin.Slice.sliceAdjust none none (-1) (n : Int) with | (lo, hi) => pure (lo, (-1 : Int), Builtin.Slice.slicePlaces lo hi (-1))) _ _ s
  rw [adjust_rev n]
  show wpAny _ _ (pure ((n : Int) - 1, (-1 : Int), Builtin.Slice.slicePlaces ((n : Int) - 1) (-1) (-1))) _ _ s
  rw [places_rev]
  exact wpAny_pure h
theorem getItem_tuple_rev {t sl : Addr} {items : Array Value} {vs : Value} {Q : Value → Shared → Prop} (ht : IsTup s.heap t items) (hs : s.heap.IsSliceOf sl .none .none vs) (ps : IsPart vs (some (-1)))
    (h : Q (.ref s.heap.objs.size) { s with heap := s.heap.push { cls := .type "tuple", data := .seq items.toList.reverse.toArray } })
    (hsz : items.size ≤ sizeLine) : wpAny (model prog w) A (getItem (.ref t) (.ref sl)) Q E s := by
  have htake : sizeOk (.seq items.toList.reverse.toArray) := by
    show items.toList.reverse.toArray.size ≤ sizeLine
    rw [List.size_toArray, List.length_reverse, Array.length_toList]
    exact hsz
  obtain ⟨os, hos, hcs, hds⟩ := id hs
  have hTs : s.TypeIs (.ref sl) "slice" := ⟨os, hos, hcs⟩
  unfold getItem
  try with_reducible refine wpAny_holding ?_
  first | refine wpAny_bind (wpAny_pure ?_) | skip
  refine wpAny_bind (wpAny_sequenceKey ht.typeIs (by decide) ?_)
  refine wpAny_bind (wpAny_callSpecial?_slot (name := Str.ofString "__getitem__") ht.typeIs PyProof.Rows.slot_tuple_getitem
    (wpAny_call_entry PyProof.Rows.slot_tuple_getitem ht.typeIs entry_tuple_getitem ?_ (args_tuple_getitem _ _)))
  show wpAny _ _ (Builtin.Tuple.tupleItemsOf (.ref t) >>= _) _ _ s
  refine wpAny_bind (tupleItemsOf_ ht ?_)
  refine wpAny_bind (wpAny_typeOf hTs ?_)
  rw [if_pos (by decide)]
  refine wpAny_bind (sliceApplied_rev hs ps ?_)
  have hno : ¬ ((((items.size : Int) - 1) == 0 && (-1 : Int) == 1 && items.size == items.size) = true) := by
    intro q
    rw [Bool.and_eq_true, Bool.and_eq_true] at q
    exact absurd q.1.2 (by decide)
  show wpAny _ _ (if ((((items.size : Int) - 1) == 0 && (-1 : Int) == 1 && items.size == items.size) = true) then _ else _) _ _ s
  rw [if_neg hno, pick_rev]
  first
    | exact wpAny_bind (m := Builtin.Tuple.tupleExact _) (wpAny_newObj_type (wpAny_pure ⟨_, rfl, wpAny_pure h⟩) htake)
    | exact wpAny_bind (m := Builtin.Tuple.tupleExact _) (wpAny_newObj_type (wpAny_bind (wpAny_pure (wpAny_pure ⟨_, rfl, wpAny_pure h⟩))) htake)
    | exact wpAny_bind (wpAny_bind (m := Builtin.Tuple.tupleExact _) (wpAny_newObj_type (wpAny_pure (wpAny_pure ⟨_, rfl, wpAny_pure h⟩)) htake))
    | exact wpAny_bind (wpAny_bind (m := Builtin.Tuple.tupleExact _) (wpAny_newObj_type (wpAny_pure ⟨_, rfl, wpAny_pure h⟩) htake))
end
section
variable {X : Cx}
/-- t[::-1] of a tuple: a new tuple -/
def tRevT (K : PySem.W.Frag) (te : TE) : TE := fun σ H Q => te σ H fun x H1 => ∃ a xs, x = .ref a ∧ SqT K H1 a xs ∧ ∀ p, H1 p = none → Q (.ref p) (upd H1 p (.tup xs.reverse))
theorem pe_revT {e : Expr} {te : TE} {k : Nat} {p1 p2 p3 pos : Pos} (he : PE X e te) : PE X (.Subscript e (.Slice none none (some (.UnaryOp .USub (.Constant (.int 1) k p1) p2)) p3) pos) (tRevT X.K te) := by
  refine ⟨fun pins s σ H Q I h => ?_⟩
  refine Subscript_ (thn (he.run pins s σ H _ I h) fun v s1 ⟨x, H1, I1, r1, q1⟩ => ?_)
  obtain ⟨a, xs, ex, hx, q⟩ := q1
  subst ex
  cases r1
  have hst : PO X (some (.UnaryOp .USub (.Constant (.int 1) k p1) p2)) (tPart (tUn (rU fun i => .int (-i)) (tC (.int 1)))) := po_some (pe_un un_neg pe_int)
  refine wpAny_Slice (thn (po_none.run pins s1 σ H1 (fun o H2 => o = none ∧ H2 = H1) I1 ⟨rfl, rfl⟩) fun vl s2 ⟨l, H2, I2, pl, el, e2⟩ => ?_)
  subst el e2
  refine thn (po_none.run pins s2 σ H2 (fun o H3 => o = none ∧ H3 = H2) I2 ⟨rfl, rfl⟩) fun vu s3 ⟨u, H3, I3, pu, eu, e3⟩ => ?_
  subst eu e3
  refine thn (hst.run pins s3 σ H3 (fun o H4 => o = some (-1) ∧ H4 = H3) I3 ⟨1, rfl, -1, rfl, rfl, rfl⟩) fun vs s4 ⟨o, H4, I4, ps, eo, e4⟩ => ?_
  subst eo e4
  cases pl
  cases pu
  have I5 : Inv X pins σ H4 { s4 with heap := s4.heap.push { cls := .type "slice", data := .fields #[.none, .none, vs] } } := I4.kept (t' := s4.toks) fun b ob q => Heap.get?_push_of_some _ q
  obtain ⟨its, r, ht, hz⟩ := I5.tuple hx
  have hlen := r.length
  have hz2 : its.length ≤ sizeLine := by first | exact hz | omega
  show wpAny (model X.prog X.w) X.A (subscriptTail e (.Slice none none (some (.UnaryOp .USub (.Constant (.int 1) k p1) p2)) p3) (.ref a) (.ref s4.heap.objs.size)) (EP X pins σ Q) X.xe { s4 with heap := s4.heap.push { cls := .type "slice", data := .fields #[.none, .none, vs] } }
  refine tail_any (ops := [.ref a, .ref s4.heap.objs.size]) ht.typeIs (PyProof.Rows.slot_tuple_getitem.lookup) ?_ (by with_unfolding_all rfl)
  refine getItem_tuple_rev ht (Heap.IsSliceOf.new _ .none .none vs) ps ?_ (by rw [List.size_toArray]; exact hz2)
  refine ⟨.ref _, _, I5.laid (t' := s4.toks) (o := .tup xs.reverse) (fun b ob q => Heap.get?_push_of_some _ q) (Nat.le_refl _) ?_, rfl, q _ (I5.hok.fresh (Nat.le_refl _))⟩
  exact ⟨by rw [List.length_reverse]; omega, _, r.reverse, _, Heap.get?_push_size _ rfl, rfl, 0, rfl⟩
end
end Sw
set_option Elab.async false
set_option maxRecDepth 100000
set_option maxHeartbeats 4000000
namespace Sw
open PySem L2 PySem.Spec PyProof.Rows
/-! ### walks told by an invariant over the turn -/
theorem for_enum {K : PySem.W.Frag} {a : Addr} {xs : List V} {g : TG} {tb : TS} {D : Ends} {σ : L2.St} {H : Hp} (Pv : Nat → L2.St → Hp → Prop) (h0 : Pv 0 σ H) (hl : ∀ i σ H, i ≤ xs.length → Pv i σ H → SqL K H a xs)
    (hs : ∀ i x T σ H, xs[i]? = some x → Pv i σ H → H T = none → g (.ref T) σ (upd H T (.tup [.int (i : Nat), x])) fun σ2 H2 => tb { D with nx := Pv (i + 1), ct := Pv (i + 1), bk := D.nx } σ2 H2) (hd : ∀ σ H, Pv xs.length σ H → D.nx σ H) :
    ∃ W : Nat → Nat → L2.St → Hp → Prop, (∃ m, W 0 m σ H) ∧ ∀ i m σ H, W i m σ H →
      ((Ite K a).stop i H ∧ D.nx σ H) ∨ ((Ite K a).go i H ∧ ∃ N : L2.St → Hp → Prop, (∀ σ' H', N σ' H' → ∃ m', m' < m ∧ W (i + 1) m' σ' H') ∧ ∀ x H', (Ite K a).yld i H x H' → g x σ H' fun σ2 H2 => tb { D with nx := N, ct := N, bk := D.nx } σ2 H2) := by
  refine ⟨fun i m σ H => m = xs.length - i ∧ i ≤ xs.length ∧ Pv i σ H, ⟨xs.length, by simp, Nat.zero_le _, h0⟩, ?_⟩
  rintro i m σ H ⟨rfl, hi, hp⟩
  have hL := hl i σ H hi hp
  by_cases e : i = xs.length
  · exact .inl ⟨⟨xs, hL, by omega⟩, hd σ H (by rw [← e]; exact hp)⟩
  · have hlt : i < xs.length := by omega
    refine .inr ⟨⟨xs, xs[i], hL, List.getElem?_eq_getElem hlt⟩, Pv (i + 1), fun σ' H' hq => ⟨_, by omega, rfl, hlt, hq⟩, fun x H' hy => ?_⟩
    obtain ⟨T, y, rfl, hT, rfl, hx⟩ := hy
    exact hs i y T σ H (hx xs hL) hp hT
theorem lc_enum {K : PySem.W.Frag} {a : Addr} {xs : List V} {g : TG} {tt : TT} {te : TE} {vs : List Nat} {σ : L2.St} {H1 : Hp} {D : Addr} {Qd : Hp → Prop} (Pv : Nat → Hp → Prop) (h0 : Pv 0 (upd H1 D (.lst []))) (hl : ∀ i H, i ≤ xs.length → Pv i H → SqL K H a xs)
    (hs : ∀ i x T H, xs[i]? = some x → Pv i H → H T = none → g (.ref T) (wipe σ vs) (upd H T (.tup [.int (i : Nat), x])) fun σ2 H2 => wipe σ2 vs = wipe σ vs ∧ tt σ2 H2 fun b H3 => if b = true then te σ2 H3 fun y H4 => ∃ acc, H4 D = some (.lst acc) ∧ acc.length < sizeLine ∧ Pv (i + 1) (upd H4 D (.lst (acc ++ [y]))) else Pv (i + 1) H3)
    (hd : ∀ H, Pv xs.length H → Qd H) : ∃ W : Nat → Nat → Hp → Prop, (∃ m, W 0 m (upd H1 D (.lst []))) ∧ ∀ i m H, W i m H →
      ((Ite K a).stop i H ∧ Qd H) ∨ ((Ite K a).go i H ∧ ∃ Nx : Hp → Prop, (∀ H', Nx H' → ∃ m', m' < m ∧ W (i + 1) m' H') ∧ ∀ x H', (Ite K a).yld i H x H' → g x (wipe σ vs) H' fun σ2 H2 => wipe σ2 vs = wipe σ vs ∧ tt σ2 H2 fun b H3 =>
        if b = true then te σ2 H3 fun y H4 => ∃ acc, H4 D = some (.lst acc) ∧ acc.length < sizeLine ∧ Nx (upd H4 D (.lst (acc ++ [y]))) else Nx H3) := by
  refine ⟨fun i m H => m = xs.length - i ∧ i ≤ xs.length ∧ Pv i H, ⟨xs.length, by simp, Nat.zero_le _, h0⟩, ?_⟩
  rintro i m H ⟨rfl, hi, hp⟩
  have hL := hl i H hi hp
  by_cases e : i = xs.length
  · exact .inl ⟨⟨xs, hL, by omega⟩, hd H (by rw [← e]; exact hp)⟩
  · have hlt : i < xs.length := by omega
    refine .inr ⟨⟨xs, xs[i], hL, List.getElem?_eq_getElem hlt⟩, Pv (i + 1), fun H' hq => ⟨_, by omega, rfl, hlt, hq⟩, fun x H' hy => ?_⟩
    obtain ⟨T, y, rfl, hT, rfl, hx⟩ := hy
    exact hs i y T H (hx xs hL) hp hT
/-- a dict's entries, the dict locked meanwhile -/
theorem for_items {d : Addr} {od : Obj} {kvs : List (Key × V)} {g : TG} {tb : TS} {D : Ends} {σ : L2.St} {H : Hp} (Pv : Nat → L2.St → Hp → Prop) (h0 : Pv 0 σ H) (hl : ∀ i σ H, i ≤ kvs.length → Pv i σ H → H d = some (.frz od (.dK kvs)))
    (hs : ∀ i k v T σ H, kvs[i]? = some (k, v) → Pv i σ H → H T = none → g (.ref T) σ (upd H T (.tup [kV k, v])) fun σ2 H2 => tb { D with nx := Pv (i + 1), ct := Pv (i + 1), bk := D.nx } σ2 H2) (hd : ∀ σ H, Pv kvs.length σ H → D.nx σ H) :
    ∃ W : Nat → Nat → L2.St → Hp → Prop, (∃ m, W 0 m σ H) ∧ ∀ i m σ H, W i m σ H →
      ((Iti d od kvs).stop i H ∧ D.nx σ H) ∨ ((Iti d od kvs).go i H ∧ ∃ N : L2.St → Hp → Prop, (∀ σ' H', N σ' H' → ∃ m', m' < m ∧ W (i + 1) m' σ' H') ∧ ∀ x H', (Iti d od kvs).yld i H x H' → g x σ H' fun σ2 H2 => tb { D with nx := N, ct := N, bk := D.nx } σ2 H2) := by
  refine ⟨fun i m σ H => m = kvs.length - i ∧ i ≤ kvs.length ∧ Pv i σ H, ⟨kvs.length, by simp, Nat.zero_le _, h0⟩, ?_⟩
  rintro i m σ H ⟨rfl, hi, hp⟩
  have hL := hl i σ H hi hp
  by_cases e : i = kvs.length
  · exact .inl ⟨⟨hL, by omega⟩, hd σ H (by rw [← e]; exact hp)⟩
  · have hlt : i < kvs.length := by omega
    refine .inr ⟨⟨hL, hlt⟩, Pv (i + 1), fun σ' H' hq => ⟨_, by omega, rfl, hlt, hq⟩, fun x H' hy => ?_⟩
    obtain ⟨T, k, v, hk, rfl, hT, rfl⟩ := hy
    exact hs i k v T σ H hk hp hT
/-! ### max(xs, default=d) of whole numbers -/
def rMaxD (K : PySem.W.Frag) : List V → List V → Hp → VK → Prop := fun vs zs H Q => ∃ (a : Addr) (ns : List Int) (d m : Int), vs = [V.ref a] ∧ zs = [V.int d] ∧ SqL K H a (ns.map V.int) ∧ (ns = [] → m = d) ∧ (∀ n r, ns = n :: r → m = r.foldl max n) ∧ Q (.int m) H
theorem depthInts : ∀ ns : List Int, PyData.depthAll (ns.map PyData.int) = 0
  | [] => by simp [PyData.depthAll]
  | n :: r => by simp [PyData.depthAll, PyData.depth, depthInts r]
theorem dpInts {K : PySem.W.Frag} {H : Hp} : ∀ ns : List Int, DpAll K H (ns.map V.int) (ns.map PyData.int)
  | [] => .nil
  | n :: r => .cons (.int n) (dpInts r)
theorem cr_maxD {X : Cx} (hc : X.calm = true) (hu : X.A.units + 64 < cLine) : CallRK X (.builtin "max") [Str.ofString "default"] (rMaxD X.K) := by
  intro pins s σ H vs zs us ws Q I r1 r2 h
  obtain ⟨a, ns, d, m, rfl, rfl, hs, q0, q1, q⟩ := h
  obtain ⟨its, rv, hl, _⟩ := I.list hs
  cases r1 with
  | cons x1 x2 =>
    cases x1
    cases x2
    cases r2 with
    | cons y1 y2 =>
      obtain ⟨td, rfl⟩ := y1
      cases y2
      obtain ⟨as, hr⟩ := Dp.readsAll I (ns.map PyData.int) (ns.map V.int) its (dpInts ns) rv
      have hal : PySem.W.AlikeAll (ns.map PyData.int) := ⟨fun x hx y hy => by
        obtain ⟨i, _, rfl⟩ := List.mem_map.mp hx
        obtain ⟨j, _, rfl⟩ := List.mem_map.mp hy
        rfl, fun x hx => by
        obtain ⟨i, _, rfl⟩ := List.mem_map.mp hx
        intro z
        cases z⟩
      have hun : X.A.units + 1 + PyData.depthAll (ns.map PyData.int) < cLine := by
        rw [depthInts]
        omega
      refine PySem.W.max_list_default (vs := its.toArray) (I.ok.hd hc) hl.isList (by simpa using hr) hal hun (fun e h' tk hk => ?_) (fun y ys i v h' tk bs e hv hrd hk => ?_)
      · have : ns = [] := by simpa using e
        exact ⟨.int d, H, I.kept hk, ⟨_, rfl⟩, by rw [← q0 this]; exact q⟩
      · cases ns with
        | nil => cases e
        | cons n r =>
          rw [List.map_cons] at e
          injection e with e1 e2
          subst e1 e2
          rw [PySem.W.maxD_ints] at hrd
          cases hrd
          exact ⟨.int _, H, I.kept hk, ⟨_, rfl⟩, by rw [← q1 n r rfl]; exact q⟩
end Sw
set_option Elab.async false
set_option maxRecDepth 100000
set_option maxHeartbeats 4000000
namespace PySem
open Sem (wp)
open AutoSeq1 (wpAny_loadPart')
/-! ### enumerate of a tuple, at the library's level -/
theorem meets_enumerate_newT (l : Addr) (items : Array Value) (n : Nat) (dct : Option Addr) (sl : Array (Option Value)) :
    Meets (Builtin.«enumerate.__new__» ⟨[.type "enumerate", .ref l], []⟩) (fun _ R s => s.heap.get? l = some { cls := .type "tuple", dict := dct, data := .seq items n, slots := sl } ∧
      R (.ok (.ret (.ref (s.heap.push { cls := .type "tuple_iterator", data := .fields #[.ref l, .int 0 0] }).objs.size)))
        { s with heap := (s.heap.push { cls := .type "tuple_iterator", data := .fields #[.ref l, .int 0 0] }).push { cls := .type "enumerate", data := .fields #[.none, .bool false, .ref s.heap.objs.size, rawInt 0, .none, .none] } }) :=
  .of_wp fun prog w A R s h => by
    obtain ⟨hp, g, d, tk, os⟩ := s; obtain ⟨hl, h⟩ := h
    have hsub := sub_enumerate
    have hL : Heap.IsTuple (Shared.heap ⟨hp, g, d, tk, os⟩) l items := ⟨_, hl, rfl, n, rfl⟩
    wp_walk using wpAny_loadPart' hl
    refine wpAny_stack_any fun st => wpAny_pure ?_
    split
    · rename_i c _ _ _ _ _
      cases (c == Value.type "enumerate")
      · wp_walk using wpAny_loadPart' hl, wpAny_pyIter_tuple hL
        exact ⟨_, rfl, h⟩
      · wp_walk using wpAny_loadPart' hl, wpAny_pyIter_tuple hL
        exact ⟨_, rfl, h⟩
    · wp_walk using wpAny_loadPart' hl, wpAny_pyIter_tuple hL
      exact ⟨_, rfl, h⟩
section
variable {prog : Program} {w : World} {A : Around} {E : Value → Shared → Prop} {s : Shared}
theorem call_enumerate_tuple {l : Addr} {items : Array Value} {Q : Value → Shared → Prop} (hL : s.heap.IsTuple l items)
    (h : ∀ h', IsEnum h' (s.heap.objs.size + 1) s.heap.objs.size 0 .none → h'.IsTupleIter s.heap.objs.size l 0 → h'.objs.size = s.heap.objs.size + 2 →
      (∀ b o, s.heap.get? b = some o → h'.get? b = some o) → Q (.ref (s.heap.objs.size + 1)) { s with heap := h' }) :
    wpAny (model prog w) A (call (.type "enumerate") [.ref l]) Q E s := by
  obtain ⟨⟨c, dct, dt, sl⟩, hl, hc, n, hd⟩ := hL
  replace hc : c = .type "tuple" := hc
  replace hd : dt = .seq items n := hd
  subst hc hd
  refine callType_new F.called_enumerate (by decide) (F.typeCall_enumerate_1 _) (F.newCall_enumerate_1 _) (fun obj => F.args_object_init_2 obj _) F.entry_enumerate_new
    (meets_enumerate_newT l items n dct sl) ⟨hl, ?_⟩
  have hz : (s.heap.push { cls := .type "tuple_iterator", data := .fields #[.ref l, .int 0 0] }).objs.size = s.heap.objs.size + 1 := Heap.size_push ..
  show _ ∧ _
  rw [hz]
  have he : IsEnum ((s.heap.push { cls := .type "tuple_iterator", data := .fields #[.ref l, .int 0 0] }).push
      { cls := .type "enumerate", data := .fields #[.none, .bool false, .ref s.heap.objs.size, rawInt 0, .none, .none] }) (s.heap.objs.size + 1) s.heap.objs.size 0 .none := by
    have := Heap.get?_push_size (s.heap.push { cls := .type "tuple_iterator", data := .fields #[.ref l, .int 0 0] })
      (o := { cls := .type "enumerate", data := .fields #[.none, .bool false, .ref s.heap.objs.size, rawInt 0, .none, .none] }) rfl
    rw [hz] at this; exact this
  refine ⟨⟨_, he, rfl⟩, h _ he ⟨_, Heap.get?_push_of_some _ (Heap.get?_push_size _ rfl), rfl, rfl⟩ (by rw [Heap.size_push, hz]) fun b o x => Heap.get?_push_of_some _ (Heap.get?_push_of_some _ x)⟩
end
end PySem
namespace Sw
open PySem L2 PySem.Spec PyProof.Rows HT
/-- the tuple at a, each item in a new pair -/
def IteT (K : PySem.W.Frag) (a : Addr) : It :=
  ⟨fun i H => ∃ (xs : List V) (x : V), SqT K H a xs ∧ xs[i]? = some x, fun i H v H' => ∃ T x, v = .ref T ∧ H T = none ∧ H' = upd H T (.tup [.int (i : Nat), x]) ∧ ∀ xs, SqT K H a xs → xs[i]? = some x, fun i H => ∃ xs : List V, SqT K H a xs ∧ xs.length ≤ i⟩
theorem turn_enumT {P : Program} {w : World} {K : PySem.W.Frag} {elts : List Expr} {kk : Nat} {tpos : Pos} (a e it : Addr) :
    Turn P w K (.Tuple elts kk tpos) (IteT K a) [e, it] e (fun i h => (∃ old, IsEnum h e it ((i : Nat) : Int) old) ∧ h.IsTupleIter it a i ∧ e ≠ it ∧ a ≠ it ∧ a ≠ e) where
  mem := by simp
  obj := fun i h st b hb => by
    obtain ⟨⟨old, he⟩, ⟨o, ho, hc, hd⟩, _⟩ := st
    have e' : b = e ∨ b = it := by simpa using hb
    rcases e' with z | z
    · rw [z]; exact ⟨_, he, fun v q => nomatch q⟩
    · rw [z]; exact ⟨o, ho, fun v q => by rw [hd] at q; cases q⟩
  keep := fun i h h' st k => let ⟨⟨old, he⟩, hi, hne⟩ := st; ⟨⟨old, k e (by simp) _ he⟩, hi.at fun o q => k it (by simp) o q, hne⟩
  item := by
    intro X hP hw hK hc i pins s σ H E I hf st hg
    subst hP hw hK
    obtain ⟨⟨old, he⟩, hit, hne, hai, hae⟩ := st
    obtain ⟨xs, x, hq, hx⟩ := hg
    obtain ⟨its, rv, p, hz⟩ := I.tuple hq
    obtain ⟨u, hu, ru⟩ := rv.get hx
    have hel : e < s.heap.objs.size := Heap.lt_size he
    have hil : it < s.heap.objs.size := by obtain ⟨_, q, _⟩ := hit; exact Heap.lt_size q
    have hlt : i < its.toArray.size := by
      have : its[i]? = some u := by simpa using hu
      obtain ⟨q, _⟩ := List.getElem?_eq_some_iff.mp this
      simpa using q
    have D := PySem.Draws.tuple (prog := X.prog) (w := X.w) (A := X.A.in1) (I.ok.hd hc) it a hai its.toArray
    refine wpAny_pyNext_enum_itemD D he ⟨hit, p⟩ hlt hne (by simp [hne, hae.symm]) fun y h' tk hy ho hst' hT hsz hk => ?_
    obtain ⟨hit', hp'⟩ := hst'
    have ey : y = u := by
      have : its.toArray[i]? = some u := by simpa using hu
      rw [this] at hy
      exact (Option.some.inj hy).symm
    subst ey
    refine ⟨_, rfl, wpAny_letOwnedTupleGo_enum (s := { s with heap := h', toks := tk + 1 }) ho fun h'' he' sb => ?_⟩
    have hT2 : h''.get? s.heap.objs.size = some { cls := .type "tuple", data := .seq #[.int i tk, y] } := (sb.2 _ (Nat.ne_of_gt hel)).trans hT
    have new : ObjOk X.prog X.w (upd H s.heap.objs.size (.tup [.int (i : Nat), x])) h'' s.heap.objs.size (.tup [.int (i : Nat), x]) :=
      ⟨by show 2 ≤ sizeLine; decide, [.int i tk, y], .cons ⟨_, rfl⟩ (.cons ru .nil), ⟨_, hT2, rfl, _, rfl⟩⟩
    have I1 : Inv X pins σ (upd H s.heap.objs.size (.tup [.int (i : Nat), x])) { s with heap := h'', toks := tk + 1 } :=
      I.turnedNew (ch := [e, it]) (fun b ob hb q => (sb.2 b (fun z => hb (by simp [z]))).trans (hk b ob (fun z => hb (by simp [z])) (fun z => hb (by simp [z])) q)) hf (Nat.le_refl _) new
    refine ⟨.ref s.heap.objs.size, _, I1, rfl, ⟨_, x, rfl, I.hok.fresh (Nat.le_refl _), rfl, fun ys hy => by rw [I.tuple_inj hy hq]; exact hx⟩, ⟨⟨y, ?_⟩, hit'.at fun o q => (sb.2 it (Ne.symm hne)).trans q, hne, hai, hae⟩, fun b hb => ?_⟩
    · have e1 : ((i + 1 : Nat) : Int) = (i : Int) + 1 := by omega
      rw [e1]; exact he'
    · have hb' : b < s.heap.objs.size := by
        have e' : b = e ∨ b = it := by simpa using hb
        rcases e' with z | z
        · rw [z]; exact hel
        · rw [z]; exact hil
      rw [upd_ne (Nat.ne_of_lt hb')]
      exact (hf b hb).1
  done := by
    intro X hP hw hK hc i pins s σ H E I hf st hg
    subst hP hw hK
    obtain ⟨⟨old, he⟩, hit, hne, hai, hae⟩ := st
    obtain ⟨xs, hq, hx⟩ := hg
    obtain ⟨its, rv, p, hz⟩ := I.tuple hq
    obtain ⟨f0, f1, f2, f3, f4, f5⟩ := hf it (by simp)
    have hl := rv.length
    have hle : xs.length ≤ i := hx
    have D := PySem.Draws.tuple (prog := X.prog) (w := X.w) (A := X.A.in1) (I.ok.hd hc) it a hai its.toArray
    have hT : s.TypeIs (.ref e) "enumerate" := ⟨_, he, rfl⟩
    unfold pyNext
    refine wpAny_bind (wpAny_attempt (wpAny_callSpecial?_slot (name := Str.ofString "__next__") hT F.slot_enumerate_next
      (wpAny_call_entry F.slot_enumerate_next hT F.entry_enumerate_next ?_ (F.args_enumerate_next_1 _))))
    show wpAny _ _ (field (.ref e) 2 >>= _) _ _ _
    refine wpAny_bind (wpAny_field he rfl (x := .ref it) rfl ?_)
    refine wpAny_bind (wpAny_nextOf_tuple_end (I.ok.hd hc) hit p (by simp; omega) fun h' x eb hx' => ?_)
    obtain ⟨o, ho, hc'⟩ := hx'
    refine wpAny_bind (wpAny_isInstance (T := "StopIteration") (b := true) ⟨o, ho, hc'⟩ isSubtype_stop ?_)
    exact wpAny_pure ⟨rfl, I.turned (t' := s.toks) (fun b o hb q => eb b o hb q) f0 f1 f3 f4 f5⟩
  self := fun A i s Q E st h => let ⟨⟨_, he⟩, _⟩ := st; wpAny_pyIter_enum he h
def iEnumT (K : PySem.W.Frag) (ta : TA) : TI := fun σ H R => ta σ H fun vs H1 => ∃ a xs, vs = [.ref a] ∧ SqT K H1 a xs ∧ R (IteT K a) H1
theorem pi_enumT {X : Cx} {e : Expr} {ta : TA} {p pos tpos : Pos} {elts : List Expr} {kk : Nat} (hg : Gl X "enumerate") (hm : X.mg "enumerate" = none) (ha : PA X [e] ta) (hs : starEach [e] X.env = [(false, eval e X.env)] := by rfl) :
    PI X (.Tuple elts kk tpos) (.Call (.Name "enumerate" p) [e] [] pos) (iEnumT X.K ta) := by
  refine ⟨fun pins s σ H R I h => ?_⟩
  refine Call_ (ld_blt I hg hm boot_enumerate (PyProof.Rows.callWith_type1 (thn (ha.run pos pins s σ H _ I h) fun us s1 ⟨vs, H1, I1, r1, q1⟩ => ?_) hs rfl))
  obtain ⟨a, xs, ex, hq, q⟩ := q1
  subst ex
  cases r1 with
  | cons r rr =>
    cases rr
    cases r
    obtain ⟨its, rv, p', hz⟩ := I1.tuple hq
    have hal : a < s1.heap.objs.size := by
      obtain ⟨o, ho, _⟩ := p'
      exact Heap.lt_size ho
    refine call_enumerate_tuple p' fun h' he hit hsz hk => wpAny_pyIter_enum he ?_
    have I2 : Inv X pins σ H1 { s1 with heap := h' } := I1.kept (t' := s1.toks) hk
    refine ⟨s1.heap.objs.size + 1, [s1.heap.objs.size + 1, s1.heap.objs.size], _, _, H1, rfl, I2, turn_enumT a (s1.heap.objs.size + 1) s1.heap.objs.size, ⟨⟨.none, he⟩, hit, Nat.succ_ne_self _, Nat.ne_of_lt hal, Nat.ne_of_lt (Nat.lt_succ_of_lt hal)⟩, fun b hb => ?_, q⟩
    have e' : b = s1.heap.objs.size + 1 ∨ b = s1.heap.objs.size := by simpa using hb
    have hle : s1.heap.objs.size ≤ b := by
      rcases e' with z | z
      · rw [z]; exact Nat.le_add_right _ _
      · rw [z]; exact Nat.le_refl _
    exact I1.fpOk hle (I1.hok.fresh hle)
theorem for_enumT {K : PySem.W.Frag} {a : Addr} {xs : List V} {g : TG} {tb : TS} {D : Ends} {σ : L2.St} {H : Hp} (Pv : Nat → L2.St → Hp → Prop) (h0 : Pv 0 σ H) (hl : ∀ i σ H, i ≤ xs.length → Pv i σ H → SqT K H a xs)
    (hs : ∀ i x T σ H, xs[i]? = some x → Pv i σ H → H T = none → g (.ref T) σ (upd H T (.tup [.int (i : Nat), x])) fun σ2 H2 => tb { D with nx := Pv (i + 1), ct := Pv (i + 1), bk := D.nx } σ2 H2) (hd : ∀ σ H, Pv xs.length σ H → D.nx σ H) :
    ∃ W : Nat → Nat → L2.St → Hp → Prop, (∃ m, W 0 m σ H) ∧ ∀ i m σ H, W i m σ H →
      ((IteT K a).stop i H ∧ D.nx σ H) ∨ ((IteT K a).go i H ∧ ∃ N : L2.St → Hp → Prop, (∀ σ' H', N σ' H' → ∃ m', m' < m ∧ W (i + 1) m' σ' H') ∧ ∀ x H', (IteT K a).yld i H x H' → g x σ H' fun σ2 H2 => tb { D with nx := N, ct := N, bk := D.nx } σ2 H2) := by
  refine ⟨fun i m σ H => m = xs.length - i ∧ i ≤ xs.length ∧ Pv i σ H, ⟨xs.length, by simp, Nat.zero_le _, h0⟩, ?_⟩
  rintro i m σ H ⟨rfl, hi, hp⟩
  have hL := hl i σ H hi hp
  by_cases e : i = xs.length
  · exact .inl ⟨⟨xs, hL, by omega⟩, hd σ H (by rw [← e]; exact hp)⟩
  · have hlt : i < xs.length := by omega
    refine .inr ⟨⟨xs, xs[i], hL, List.getElem?_eq_getElem hlt⟩, Pv (i + 1), fun σ' H' hq => ⟨_, by omega, rfl, hlt, hq⟩, fun x H' hy => ?_⟩
    obtain ⟨T, y, rfl, hT, rfl, hx⟩ := hy
    exact hs i y T σ H (hx xs hL) hp hT
end Sw
set_option Elab.async false
set_option maxRecDepth 100000
set_option maxHeartbeats 4000000
namespace Sw
open PySem L2 PySem.Spec PyProof.Rows
/-! ### repr of any data, where no repr goes on around it -/
def rReprD (K : PySem.W.Frag) : List V → Hp → VK → Prop := fun xs H Q => ∃ v d, xs = [v] ∧ Dp K H v d ∧ d.showable = true ∧ d.hasDict = false ∧ d.depth ≤ 40 ∧ d.shown.length ≤ sizeLine ∧ Q (.str d.shown) H
theorem shown_leaf : (PyData.none).shown = ("None" : Str) ∧ (∀ b, (PyData.bool b).shown = (if b then "True" else "False" : Str)) ∧ (∀ i, (PyData.int i).shown = ((toString i : String) : Str)) ∧ (∀ x, (PyData.str x).shown = reprText x) :=
  ⟨by simp only [PyData.shown], fun b => by simp only [PyData.shown], fun i => by simp only [PyData.shown], fun x => by simp only [PyData.shown]⟩
section
variable {X : Cx}
theorem cr_reprD (hg : X.A.guards = some []) (hu : X.A.units + 64 < cLine) : CallR X (.builtin "repr") (rReprD X.K) := by
  intro pins s σ H xs us Q I r h
  obtain ⟨v, d, rfl, hd, hsh, hnd, hdp, hsz, q⟩ := h
  obtain ⟨u, rfl, ru⟩ := vals1 r
  obtain ⟨l1, l2, l3, l4⟩ := shown_leaf
  have hsm : ∀ as : List Addr, d.hasDict = true → sysModules ∉ as := fun as z => by rw [hnd] at z; cases z
  have far : ∀ a : Addr, u = .ref a → wpAny (model X.prog X.w) X.A (call (.builtin "repr") [u]) (EP X pins σ Q) X.xe s := fun a e => by
    obtain ⟨as, hr⟩ := Dp.reads I d v u hd ru
    subst e
    refine repr_of_reads' (h₀ := s.heap) hr hsh (hsm as) hg (by omega) (fun b o e => e) (fun h' t tk keep => ?_) hsz
    exact ⟨.str d.shown, H, I.kept (t' := tk) keep, ⟨_, rfl⟩, q⟩
  cases hd with
  | non =>
    obtain rfl : u = Value.none := ru
    rw [l1] at q
    exact PySem.P.repr_of_none ⟨.str _, H, I.tok _, ⟨_, rfl⟩, q⟩
  | bl b =>
    obtain rfl : u = Value.bool b := ru
    rw [l2] at q
    exact PySem.P.repr_of_bool ⟨.str _, H, I.tok _, ⟨_, rfl⟩, q⟩
  | int i =>
    obtain ⟨t, rfl⟩ : ∃ t, u = Value.int i t := ru
    rw [l3] at q
    exact PySem.P.repr_of_int (by simpa [PyData.showable] using hsh) ⟨.str _, H, I.tok _, ⟨_, rfl⟩, q⟩
  | str x =>
    obtain ⟨t, rfl⟩ : ∃ t, u = Value.str x t := ru
    rw [l4] at q hsz
    exact PySem.P.repr_of_str ⟨.str _, H, I.tok _, ⟨_, rfl⟩, q⟩ hsz
  | lst h1 h2 => exact far _ ru
  | tup h1 h2 => exact far _ ru
end
/-! ### defs that are called where no repr goes on around them -/
section
variable {P : Program} {w : World} {K : PySem.W.Frag} {mg : Str → Option Value} {base : Heap}
structure FnG (P : Program) (w : World) (K : PySem.W.Frag) (mg : Str → Option Value) (base : Heap) (k : Nat) (f : Addr) (fd : FuncData) (ps : List Str) (sp : Sp) : Prop where
  size : ∀ vs H Q E, sp vs H Q E → vs.length = ps.length
  goes : ∀ {A : Around} {outer : List Env} {s : Shared} {H : Hp} {args : Args} {us : List Value} {vs : List V} {Q : VK} {E : XK}, A.guards = some [] → Room k A → Env0 P w K mg base A outer s H → BindsTo s fd args (ps.zip us) → Vals vs us → sp vs H Q E →
    codeAny (model P w) A (.call (.ref f) args) (CR CX0 outer P w H s Q E) s
theorem FnG.of {k : Nat} {f : Addr} {fd : FuncData} {ps : List Str} {sp : Sp} (F : FnOk P w K mg base CX0 k f fd ps sp) : FnG P w K mg base k f fd ps sp :=
  ⟨F.len, fun {A outer s H args us vs Q E} _ r e b v q => F.run A outer s H args us vs Q E r e b v q⟩
/-- its body, where no repr goes on around it -/
theorem fn_g {k : Nat} {f : Addr} {x : Str} {pa : Arguments} {body : List Stmt} {sc : Scope} {dV kV doc pm cdv ct oc : Value} {an od : Option Addr} {osl : Array (Option Value)} {N ps : List Str} {sp : Sp}
    (lk : K.lookup f = some ⟨oc, od, .func (PySem.W.fnOf x x pa body sc dV kV doc pm an cdv ct), osl⟩) (hcd : PySem.W.codeIn K cdv x = true) (S : FnScope N ps sc) (size : ∀ vs H Q E, sp vs H Q E → vs.length = ps.length)
    (walk : ∀ (A : Around) (outer : List Env) (s : Shared) (H : Hp) (vs : List V) (Q : VK) (E : XK), (A.deeper (envOfC x sc s.heap.objs.size f cdv)).guards = some [] → Room k (A.deeper (envOfC x sc s.heap.objs.size f cdv)) → sp vs H Q E →
      ∃ t, PSs (cxOf CX0 P w K mg base N x sc f cdv A outer s H E) body t ∧ t { nx := fun _ H' => Q .non H', rt := Q } (start N vs) H) :
    FnG P w K mg base (k + 1) f (PySem.W.fnOf x x pa body sc dV kV doc pm an cdv ct) ps sp := by
  refine ⟨size, fun {A outer s H args us vs Q E} hg hr e0 hb r hsp => ?_⟩
  have old : ∀ b o, base.get? b = some o → s.heap.get? b = some o := fun b o e => (e0.bs b o e).1
  have KX := e0.mod.kin.keeps old
  have names : ∀ y ∈ ps.zip us, sc.names.lookup y.1 = some .local ∨ (sc.names.lookup y.1 = some .cell ∧ ((cellsFrom (s.heap.objs.size + 1) sc.names []).lookup y.1).isSome = true) := by
    rintro ⟨n, v⟩ hy
    have hn := S.par n (List.of_mem_zip hy).1
    exact hn.imp id fun q => ⟨q, PySem.W.cellsFrom_some _ _ _ (.inl q)⟩
  refine codeAny_call_function hr.depth (KX _ _ lk) rfl S.co S.gen rfl (PySem.W.codeRec_of KX hcd) (hb _ _ _ _ (wpAny_newFunctionEnv_cells S.kind names fun env he s1 y => ?_))
  subst he
  refine ⟨(e0.mod.nolimit.keeps old).keeps y.toInCall.keep, codeAny_func ?_⟩
  obtain ⟨t, ht, hq⟩ := walk A outer s H vs Q E hg (hr.deeper _) hsp
  have J := inv_start (P := P) (w := w) (mg := mg) (CX := CX0) (E := E) S hr.hd e0 (size _ _ _ _ hsp) r y
  refine wpAny_mono (ht.run [] s1 (start N vs) H _ J hq) (fun fl s' z => ?_) fun e s' z => z
  match fl, z with
  | .ret u, ⟨v, σ', H', J2, rv, q⟩ => exact ⟨v, H', J2.os, J2.bare, J2.base, J2.hok, rv, q⟩
  | .next, ⟨σ', H', J2, q⟩ => exact ⟨V.non, H', J2.os, J2.bare, J2.base, J2.hok, rfl, q⟩
  | .brk, ⟨_, _, _, q⟩ => exact q.elim
  | .cont, ⟨_, _, _, q⟩ => exact q.elim
theorem Fun.okG {x : Str} {st : Stmt} {f : Addr} {fd : FuncData} {N ps : List Str} {k : Nat} {sp : Sp} (F : Fun K x x st f fd) (S : FnScope N ps (defScope st)) (size : ∀ vs H Q E, sp vs H Q E → vs.length = ps.length)
    (walk : ∀ (cdv : Value) (A : Around) (outer : List Env) (s : Shared) (H : Hp) (vs : List V) (Q : VK) (E : XK), (A.deeper (envOfC x (defScope st) s.heap.objs.size f cdv)).guards = some [] → Room k (A.deeper (envOfC x (defScope st) s.heap.objs.size f cdv)) → sp vs H Q E →
      ∃ t, PSs (cxOf CX0 P w K mg base N x (defScope st) f cdv A outer s H E).nox (defBody st) t ∧ t { nx := fun _ H' => Q .non H', rt := Q } (start N vs) H) : FnG P w K mg base (k + 1) f fd ps sp := by
  obtain ⟨oc, od, kV, doc, pm, an, cdv, ct, osl, rfl, lk, hcd⟩ := F.ex
  refine fn_g lk hcd S size fun A outer s H vs Q E hg hr hsp => ?_
  obtain ⟨t, h, q⟩ := walk cdv A outer s H vs Q E hg hr hsp
  exact ⟨t, h.nox, q⟩
/-- a def of the top that is called where no repr goes on around it -/
structure DefG (P : Program) (w : World) (K : PySem.W.Frag) (mg : Str → Option Value) (base : Heap) (x : Str) (k : Nat) (ps : List Str) (sp : Sp) : Prop where
  ex : ∃ f fd, FnG P w K mg base k f fd ps sp ∧ mg x = some (.ref f) ∧ PySem.W.keepIn K (.ref f) = true ∧ Binds K fd ps []
theorem DefAt.okG {x : Str} {st : Stmt} {N ps : List Str} {k : Nat} {sp : Sp} (F : DefAt K mg x st ps) (S : FnScope N ps (defScope st)) (size : ∀ vs H Q E, sp vs H Q E → vs.length = ps.length)
    (walk : ∀ (f : Addr) (cdv : Value) (A : Around) (outer : List Env) (s : Shared) (H : Hp) (vs : List V) (Q : VK) (E : XK), (A.deeper (envOfC x (defScope st) s.heap.objs.size f cdv)).guards = some [] → Room k (A.deeper (envOfC x (defScope st) s.heap.objs.size f cdv)) → sp vs H Q E →
      ∃ t, PSs (cxOf CX0 P w K mg base N x (defScope st) f cdv A outer s H E).nox (defBody st) t ∧ t { nx := fun _ H' => Q .non H', rt := Q } (start N vs) H) : DefG P w K mg base x (k + 1) ps sp := by
  obtain ⟨f, fd, h1, h2, h3⟩ := F.ex
  exact ⟨f, fd, Fun.okG h1 S size (fun cdv A outer s H vs Q E hg hr hs => walk f cdv A outer s H vs Q E hg hr hs), h2, h1.kp, h3⟩
end
section
variable {X : Cx} {x : Str} {k : Nat} {ps : List Str} {sp : Sp} {e : Expr} {es : List Expr} {t : TA} {p pos : Pos}
theorem pe_callG (F : DefG X.prog X.w X.K X.mg X.base x k ps sp) (hgu : X.A.guards = some []) (hr : Room k X.A) (hg : Gl X x) (ha : PA X (e :: es) t) (hdb : (x == ("__debug__" : Str)) = false := by decide)
    (he : starEach (e :: es) X.env = (false, eval e X.env) :: starEach es X.env := by rfl) (hpl : (backTo pos (starEach es X.env)).any (·.1) = false := by rfl) : PE X (.Call (.Name x p) (e :: es) [] pos) (tCall sp [] E0 t) := by
  obtain ⟨f, fd, G, hm, hk, hb⟩ := F.ex
  refine ⟨fun pins s σ H Q I h => wpAny_Call_Name_kw (ld_glob I hg hm ?_ hdb)⟩
  refine PySem.W.callWith_K (h₀ := X.base) I.ok.mod.kin hk (thn (ha.run pos pins s σ H _ I h) fun us s1 ⟨vs, H1, I1, r, q⟩ => ⟨I1.kIn, ?_⟩) he hpl
  have q : sp (vs ++ []) H1 Q E0 := q
  have hl := G.size _ _ _ _ q
  rw [List.append_nil] at hl q
  have hz : (us ++ ([] : List Value)).length = ps.length := by rw [List.append_nil, ← r.length]; exact hl
  have b1 := hb s1 us I1.kIn hz
  rw [List.append_nil] at b1
  refine wpAny_call (codeAny_mono (G.goes hgu hr I1.env0 b1 r q) fun z s' hq => ?_)
  match z, hq with
  | .ok (.ret u), hq => exact I1.after hq
  | .ok .next, hq => exact hq.elim
  | .ok .brk, hq => exact hq.elim
  | .ok .cont, hq => exact hq.elim
  | .error e, hq => exact hq.elim
end
end Sw
set_option Elab.async false
set_option maxRecDepth 100000
set_option maxHeartbeats 4000000
namespace Sw
open PySem L2 PySem.Spec PyProof.Rows GenW
/-! ### the end of a law whose own def asks for reprs -/
theorem law_callG {P : Program} {w : World} {K : PySem.W.Frag} {mg mb : Str → Option Value} {k : Nat} {fa a : Addr} {cs : List (Addr × Addr)} {fd : FuncData} {x : Str} {sp : Sp} {s₁ : Shared} {vs : List Value} {ns : List Int}
    (KX : K.In s₁.heap) (hns : s₁.heap.Ns mainGlobals mg) (hb : s₁.heap.Ns builtinsNs mb) (hbb : ∀ x : Str, x ≠ "__name__" → mb x = bootBuiltins x) (hlim : s₁.heap.NoLimit) (hg : s₁.gens = #[])
    (hT : ∀ p ∈ cs, s₁.heap.get? p.2 = some { cls := .none, data := .fields #[] }) (nT : ∀ p ∈ cs, K.lookup p.2 = none) (C : ∀ p ∈ cs, PySem.W.CodeHd s₁.heap p.1 p.2)
    (hbm : ∃ (bm : Addr) (ob : Obj), mg "__builtins__" = some (.ref bm) ∧ bm ≠ builtinsNs ∧ s₁.heap.get? bm = some ob ∧ ob.cls = .type "module" ∧ ob.dict = some builtinsNs ∧ ob.data = .plain)
    (ha : s₁.heap.get? a = some { cls := .type "list", data := .seq vs.toArray }) (hi : IntsAre vs ns) (hl : ns.length ≤ sizeLine) (hr : Room k callerA)
    (F : ∀ base : Heap, K.In base → base.Ns mainGlobals mg → (∀ p ∈ cs, GxR.TabB base mg p.1 p.2) → FnG P w K mg base k fa fd [x] sp) (hbind : ∀ (s : Shared) (u : Value), BindsTo s fd ⟨[u], []⟩ [(x, u)])
    (hsp : ∀ H : Hp, Tabs cs H → SqL K H a (ns.map V.int) → sp [.ref a] H (fun v H' => v = .bl true ∧ Tabs cs H') fun _ _ _ => False) :
    codeAny (model P w) callerA (.call (.ref fa) ⟨[.ref a], []⟩) (fun r s' => r = .ok (.ret (.bool true)) ∧ OldK s₁.heap s'.heap ∧ s'.os = s₁.os ∧ AllBare s'.gens) s₁ := by
  have rv := vals_ints hi
  have lenV := hi.length
  have isT : ∀ b : Addr, b ∈ cs.map (·.2) → s₁.heap.get? b = some { cls := .none, data := .fields #[] } := fun b hb => by
    obtain ⟨p, hp, e⟩ := List.mem_map.mp hb
    rw [← e]
    exact hT p hp
  have aT : a ∉ cs.map (·.2) := fun z => by
    have q := isT a z
    rw [ha] at q
    have z' : Data.seq vs.toArray _ = Data.fields #[] := congrArg Obj.data (Option.some.inj q)
    cases z'
  have memT : ∀ p ∈ cs, p.2 ∈ cs.map (·.2) := fun p hp => List.mem_map.mpr ⟨p, hp, rfl⟩
  have core : ∀ H : Hp, Tabs cs H → (∀ b, H b = none ∨ b ∈ cs.map (·.2) ∨ ∃ o xs, H b = some (.frz o (.lst xs))) → SqL K H a (ns.map V.int) → HOk P w H s₁.heap → (∀ b, H b ≠ none → b = a ∨ b ∈ cs.map (·.2)) → (H a ≠ none → K.lookup a = none) →
      codeAny (model P w) callerA (.call (.ref fa) ⟨[.ref a], []⟩) (fun r s' => r = .ok (.ret (.bool true)) ∧ OldK s₁.heap s'.heap ∧ s'.os = s₁.os ∧ AllBare s'.gens) s₁ := by
    intro H hH hO hS hok hA hK
    have base_of : ∀ {b : Addr} {o : Obj}, s₁.heap.get? b = some o → H b = none → (hidT s₁.heap H).get? b = some o := fun e n => hidT_get e n
    have noD : ∀ {b : Addr} {o : Obj}, s₁.heap.get? b = some o → (∀ vs n, o.data ≠ .seq vs n) → o.data ≠ .fields #[] → H b = none := fun {b o} e h1 h2 => by
      cases q : H b with
      | none => rfl
      | some u =>
        rcases hA b (by rw [q]; simp) with e' | e'
        · rw [e', ha] at e
          cases e
          exact (h1 _ _ rfl).elim
        · rw [isT b e'] at e
          cases e
          exact (h2 rfl).elim
    have noA : ∀ {b : Addr} {o : Obj} {es : Array DictEntry} {ep : Nat}, s₁.heap.get? b = some o → o.data = .dict es ep → H b = none := fun {b o es ep} e d => by
      refine noD e (fun vs n z => ?_) fun z => ?_
      · rw [d] at z
        cases z
      · rw [d] at z
        cases z
    have nsK : ∀ {b : Addr} {m : Str → Option Value}, s₁.heap.Ns b m → (hidT s₁.heap H).Ns b m := fun {b m} ⟨o, es, ep, e, d, r⟩ => ⟨o, es, ep, base_of e (noA e d), d, r⟩
    have hKb : K.In (hidT s₁.heap H) := fun b o e => base_of (KX b o e) (by
      cases q : H b with
      | none => rfl
      | some u =>
        rcases hA b (by rw [q]; simp) with e' | e'
        · rw [e'] at e q
          rw [hK (by rw [q]; simp)] at e
          cases e
        · obtain ⟨p, hp, ep⟩ := List.mem_map.mp e'
          rw [← ep, nT p hp] at e
          cases e)
    have hM : L2.Mod K mg (hidT s₁.heap H) := ⟨hKb, nsK hns, ⟨mb, nsK hb, hbb⟩, let ⟨mc, h1, h2⟩ := hlim; ⟨mc, nsK h1, h2⟩⟩
    have TB : ∀ p ∈ cs, GxR.TabB (hidT s₁.heap H) mg p.1 p.2 := fun p hp => by
      have hTp := hT p hp
      refine ⟨?_, ?_, fun z => ?_⟩
      · obtain ⟨o, us, file, tf, flags, tg, inF, text, tt, e1, r1, r2, r3, r4, r5, r6, r7, r8, hne⟩ := C p hp
        refine ⟨o, us, file, tf, flags, tg, inF, text, tt, base_of e1 (noD e1 (fun vs n z => ?_) fun z => ?_), r1, r2, r3, r4, r5, r6, r7, r8, hne⟩
        · rw [r2] at z
          cases z
        · rw [r2] at z
          cases z
          simp at r3
      · obtain ⟨bm, ob, b1, b2, b3, b4, b5, b6⟩ := hbm
        have nG : bm ≠ mainGlobals := fun q => by
          obtain ⟨o, es, ep, e, hd, _⟩ := hns
          rw [q, e] at b3
          cases b3
          rw [hd] at b6
          cases b6
        have nP : bm ≠ p.2 := fun q => by
          rw [q, hTp] at b3
          cases b3
          cases b6
        refine ⟨bm, ob, b1, b2, nG, nP, base_of b3 (noD b3 (fun vs n z => ?_) fun z => ?_), b4, b5, b6⟩
        · rw [b6] at z
          cases z
        · rw [b6] at z
          cases z
      · obtain ⟨o, es, ep, e, hd, _⟩ := hns
        rw [z, hTp] at e
        cases e
        cases hd
    have e0 : Env0 P w K mg (hidT s₁.heap H) callerA [] s₁ H := ⟨rfl, hM, fun b o e => of_hidT e, Nat.le_of_eq (hidT_size _ _), trivial, fun b hb => absurd (show b ∈ ([] : List Addr) from hb) (by simp), hok, .of_eq hg⟩
    refine codeAny_mono ((F _ hKb (nsK hns) TB).goes (A := callerA) (args := ⟨[.ref a], []⟩) (us := [.ref a]) (vs := [.ref a]) rfl hr e0 (hbind s₁ (.ref a)) (.cons rfl .nil) (hsp H hH hS)) fun r s' h => ?_
    cases r with
    | error e => exact False.elim h
    | ok fl =>
      cases fl with
      | next => exact False.elim h
      | brk => exact False.elim h
      | cont => exact False.elim h
      | ret u =>
        obtain ⟨v, H', os, bare, un, hok', r', q⟩ := h
        obtain ⟨qv, qT⟩ := q
        subst qv
        obtain rfl : u = Value.bool true := r'
        have stays : ∀ b o, b ∉ cs.map (·.2) → s₁.heap.get? b = some o → s'.heap.get? b = some o := fun b o nb e => by
          cases q : H b with
          | none => exact un.keep b o e q (by intro z; exact absurd (show b ∈ ([] : List Addr) from z) (by simp)) (by simp)
          | some u =>
            rcases hO b with z | z | ⟨ob, xs, z⟩
            · rw [q] at z; cases z
            · exact absurd z nb
            · obtain ⟨e1, _⟩ := hok b _ z
              obtain ⟨e2, _⟩ := hok' b _ (un.frzs b ob _ z)
              rw [e] at e1; cases e1
              exact e2
        have grew : ∀ p ∈ cs, ∃ more : Array Value, s'.heap.get? p.2 = some { cls := .none, data := .fields more } := fun p hp => by
          obtain ⟨⟨ps, z, _⟩, _⟩ := hok' p.2 _ (qT p hp)
          exact ⟨ps, z⟩
        refine ⟨rfl, ⟨fun b o e => ?_, fun b o e => ?_⟩, os, bare⟩
        · by_cases hb : b ∈ cs.map (·.2)
          · obtain ⟨p, hp, ep⟩ := List.mem_map.mp hb
            obtain ⟨more, hm⟩ := grew p hp
            rw [← ep] at e ⊢
            rw [hT p hp] at e
            cases e
            exact .inr (.inl ⟨((C p hp).tab (hT p hp)).isCodeTable, rfl, #[], more, rfl, by rw [Array.empty_append]; exact hm⟩)
          · exact .inl (stays b o hb e)
        · by_cases hb : b ∈ cs.map (·.2)
          · obtain ⟨p, hp, ep⟩ := List.mem_map.mp hb
            obtain ⟨more, hm⟩ := grew p hp
            rw [← ep]
            exact ⟨_, hm⟩
          · exact ⟨o, stays b o hb e⟩
  have tOk : ∀ {H : Hp} {b : Addr}, b ∈ cs.map (·.2) → ObjOk P w H s₁.heap b (TabE b) := fun hb => tabE_ok (isT _ hb) (by trivial)
  cases hk : K.lookup a with
  | some o =>
    have e := KX a o hk
    rw [ha] at e
    cases e
    refine core (fun b => if b ∈ cs.map (·.2) then some (TabE b) else none) (fun p hp => if_pos (memT p hp)) (fun b => ?_) (.inr ⟨_, vs.toArray, _, hk, rfl, rfl, rfl, by rw [List.size_toArray, lenV]; exact hl, by simpa using rv⟩) (fun b u z => ?_) (fun b z => ?_) fun z => absurd (show (if a ∈ cs.map (·.2) then some (TabE a) else none) = none from if_neg aT) z
    · by_cases hb : b ∈ cs.map (·.2)
      · exact .inr (.inl hb)
      · exact .inl (if_neg hb)
    · by_cases hb : b ∈ cs.map (·.2)
      · have z' := (if_pos hb).symm.trans z
        cases z'
        exact tOk hb
      · have z' := (if_neg hb).symm.trans z
        cases z'
    · by_cases hb : b ∈ cs.map (·.2)
      · exact .inr hb
      · exact absurd (if_neg hb) z
  | none =>
    refine core (fun b => if b = a then some (.frz { cls := .type "list", data := .seq vs.toArray } (.lst (ns.map V.int))) else if b ∈ cs.map (·.2) then some (TabE b) else none) (fun p hp => (if_neg (show ¬ p.2 = a from fun z => aT (by rw [← z]; exact memT p hp))).trans (if_pos (memT p hp))) (fun b => ?_)
      (.inl (.inr ⟨{ cls := .type "list", data := .seq vs.toArray }, if_pos rfl⟩)) (fun b u z => ?_) (fun b z => ?_) fun _ => hk
    · by_cases hb : b = a
      · exact .inr (.inr ⟨_, _, if_pos hb⟩)
      · by_cases hb2 : b ∈ cs.map (·.2)
        · exact .inr (.inl hb2)
        · exact .inl ((if_neg hb).trans (if_neg hb2))
    · by_cases hb : b = a
      · have z' := (if_pos hb).symm.trans z
        cases z'
        rw [hb]
        exact ⟨ha, by rw [List.length_map]; exact hl, vs, _, rv, ha⟩
      · have z1 := (if_neg hb).symm.trans z
        by_cases hb2 : b ∈ cs.map (·.2)
        · have z' := (if_pos hb2).symm.trans z1
          cases z'
          exact tOk hb2
        · have z' := (if_neg hb2).symm.trans z1
          cases z'
    · by_cases hb : b = a
      · exact .inl hb
      · by_cases hb2 : b ∈ cs.map (·.2)
        · exact .inr hb2
        · exact absurd ((if_neg hb).trans (if_neg hb2)) z
theorem walk_ofG {l : PySem.W.OpenLaw} {n k : Nat} {q : Program} {loose : List Str} {XP : (Str → Option Value) → Heap → Prop} {YP : World → Heap → Prop} {d : DefRec} {K : Params → PySem.W.Frag} {x : Str}
    (hn : l.most = some n) (hn2 : n ≤ sizeLine) (hdf : d.params.defaults = []) (hr : Room k callerA) (hY : ∀ (w : World) (h : Heap), YP w h → (K w.params).In h)
    (F : ∀ (w : World) (mg : Str → Option Value) (fa : Addr) (h : Heap), (K w.params).In h → h.Ns mainGlobals mg → mg d.name = some (.ref fa) → (∀ x c P, ((recsOf q).any fun e => e.name == x) = true → OwnT (K w.params) h x c P) →
      ∃ (fd : FuncData) (cs : List (Addr × Addr)) (sp : Sp), (∀ p ∈ cs, h.get? p.2 = some { cls := .none, data := .fields #[] }) ∧ (∀ p ∈ cs, (K w.params).lookup p.2 = none) ∧ (∀ p ∈ cs, PySem.W.CodeHd h p.1 p.2) ∧ (∀ (s : Shared) (u : Value), BindsTo s fd ⟨[u], []⟩ [(x, u)]) ∧
        (∀ (H : Hp) (a : Addr) (ns : List Int), ns.length ≤ n → (∀ z ∈ ns, Builtin.Int.intBits z ≤ 1048576) → Tabs cs H → SqL (K w.params) H a (ns.map V.int) → sp [.ref a] H (fun v H' => v = .bl true ∧ Tabs cs H') fun _ _ _ => False) ∧
        ∀ base : Heap, (K w.params).In base → base.Ns mainGlobals mg → (∀ p ∈ cs, GxR.TabB base mg p.1 p.2) → FnG l.prog w (K w.params) mg base k fa fd [x] sp) :
    PySem.W.WalkO q loose XP YP l.row.toRowW d [] (fun f vs => PySem.call f vs) := by
  refine Att.attach_callB hn hdf fun w s₀ s₁ mg mb fa o pm cd doc a vs ns G Y ho hd hcd hmg hobj hints hlen hbits hg => ?_
  have KX := hY w _ Y
  obtain ⟨fd, cs, sp, hT, nT, C, hb, hsp, hF⟩ := F w mg fa _ KX G.T.g hmg fun x c P hrec f o1 fd1 e dd vs1 sl k0 k1 k2 k3 k4 k5 => by
    obtain ⟨dL, hm, hn1⟩ := List.any_eq_true.mp hrec
    have hn2 : dL.name = x := beq_iff_eq.mp hn1
    obtain ⟨a', o', fd', c', P', h1, h2, h3, h4, h5, h6⟩ := G.T.tab dL hm
    have q0 := PySem.W.mg_of KX G.T.g k0
    rw [hn2, q0] at h1
    cases h1
    have g1 := KX _ _ k1
    rw [g1] at h2
    cases h2
    rw [k2] at h3
    cases h3
    rw [k3] at h4
    cases h4
    have h6' := h6
    obtain ⟨⟨oc, vc, e1, _, e3, e4⟩, hP⟩ := h6
    have g2 := KX _ _ k4
    rw [g2] at e1
    cases e1
    cases e3
    rw [k5] at e4
    cases e4
    exact ⟨hP, PySem.W.CodeHd.of h5 h6'⟩
  exact law_callG KX G.T.g G.T.b G.T.builtins G.T.nolimit hg hT nT C G.T.bmain hobj hints (Nat.le_trans hlen hn2) hr hF hb (fun H hH hS => hsp H a ns hlen hbits hH hS)
end Sw
set_option Elab.async false
set_option maxRecDepth 100000
set_option maxHeartbeats 4000000
namespace Sw
open PySem L2 PySem.Spec PyProof.Rows
/-! ### expressions that make data: what they tell where Pre holds of what is known of the heap -/
/-- what is known (G) of the heap (H) grows by new things alone -/
structure Grow (G H G' H' : Hp) : Prop where
  gg : Same G G'
  hh : Same H H'
  gh : Same G' H'
  fr : ∀ a o, H a = some o → G a = none → G' a = none
theorem Grow.rfl' {G H : Hp} (s : Same G H) : Grow G H G H := ⟨Same.refl _, Same.refl _, s, fun _ _ _ h => h⟩
theorem Grow.trans {G H G1 H1 G2 H2 : Hp} (a : Grow G H G1 H1) (b : Grow G1 H1 G2 H2) : Grow G H G2 H2 := ⟨a.gg.trans b.gg, a.hh.trans b.hh, b.gh, fun x o h1 h2 => b.fr x o (a.hh x o h1) (a.fr x o h1 h2)⟩
theorem Grow.new {G H : Hp} {p : Addr} {o : HO} (s : Same G H) (np : H p = none) : Grow G H (upd G p o) (upd H p o) := by
  refine ⟨.new (s.free np), .new np, fun b u e => ?_, fun a u h1 h2 => ?_⟩
  · by_cases q : b = p
    · subst q
      rw [upd_same] at e ⊢
      exact e
    · rw [upd_ne q] at e ⊢
      exact s b u e
  · rw [upd_ne (ne_of_none h1 np)]
    exact h2
section
variable {K : PySem.W.Frag} {σ : L2.St} {Pre : Hp → Prop}
/-- stays while nothing is changed -/
def Stay (Pre : Hp → Prop) : Prop := ∀ {H H' : Hp}, Pre H → Same H H' → Pre H'
def MkD (K : PySem.W.Frag) (σ : L2.St) (Pre : Hp → Prop) (t : TE) (d : PyData) : Prop := ∀ (G H : Hp) (Q : VK), Same G H → Pre G → (∀ G' H' v, Grow G H G' H' → Dp K G' v d → Q v H') → t σ H Q
def MkDs (K : PySem.W.Frag) (σ : L2.St) (Pre : Hp → Prop) (t : TA) (ds : List PyData) : Prop := ∀ (G H : Hp) (Q : List V → Hp → Prop), Same G H → Pre G → (∀ G' H' vs, Grow G H G' H' → DpAll K G' vs ds → Q vs H') → t σ H Q
/-- a list of its own -/
def MkL (K : PySem.W.Frag) (σ : L2.St) (Pre : Hp → Prop) (t : TE) (ds : List PyData) : Prop := ∀ (G H : Hp) (Q : VK), Same G H → Pre G → (∀ G' H' p vs, Grow G H G' H' → H p = none → G' p = none → H' p = some (.lst vs) → DpAll K G' vs ds → Q (.ref p) H') → t σ H Q
/-- a list that stands there -/
def MkR (K : PySem.W.Frag) (σ : L2.St) (Pre : Hp → Prop) (t : TE) (ds : List PyData) : Prop := ∀ (G H : Hp) (Q : VK), Same G H → Pre G → (∀ G' H' p vs, Grow G H G' H' → G' p = some (.lst vs) → DpAll K G' vs ds → Q (.ref p) H') → t σ H Q
theorem MkD.use {t : TE} {d : PyData} (h : MkD K σ Pre t d) {H : Hp} {Q : VK} (hp : Pre H) (k : ∀ H' v, Same H H' → Dp K H' v d → Q v H') : t σ H Q := h H H Q (Same.refl _) hp fun _ H' v g hd => k H' v g.hh (dpS g.gh hd)
theorem MkL.use {t : TE} {ds : List PyData} (h : MkL K σ Pre t ds) {H : Hp} {Q : VK} (hp : Pre H) (k : ∀ H' p vs, Same H H' → H p = none → H' p = some (.lst vs) → DpAll K H' vs ds → Q (.ref p) H') : t σ H Q := h H H Q (Same.refl _) hp fun _ H' p vs g np _ hl hd => k H' p vs g.hh np hl (dpsS g.gh hd)
/-- the list's things are none of the list -/
theorem MkL.useN {t : TE} {ds : List PyData} (h : MkL K σ Pre t ds) {H : Hp} {Q : VK} (hp : Pre H) (k : ∀ G H' p vs, Same H G → Same G H' → H p = none → G p = none → H' p = some (.lst vs) → DpAll K G vs ds → Q (.ref p) H') : t σ H Q := h H H Q (Same.refl _) hp fun G H' p vs g np ng hl hd => k G H' p vs g.gg g.gh np ng hl hd
theorem mk_str {s : Str} : MkD K σ Pre (tC (.str s)) (.str s) := fun G H Q s _ k => k G H _ (.rfl' s) (.str _)
theorem mk_int {i : Int} : MkD K σ Pre (tC (.int i)) (.int i) := fun G H Q s _ k => k G H _ (.rfl' s) (.int _)
theorem mk_non : MkD K σ Pre (tC .non) .none := fun G H Q s _ k => k G H _ (.rfl' s) .non
theorem mk_bl {b : Bool} : MkD K σ Pre (tC (.bl b)) (.bool b) := fun G H Q s _ k => k G H _ (.rfl' s) (.bl _)
theorem mk_neg {t : TE} {i : Int} (h : MkD K σ Pre t (.int i)) : MkD K σ Pre (tUn (rU fun i => .int (-i)) t) (.int (-i)) := fun G H Q s hp k => h G H _ s hp fun G' H' v g hd => by
  cases hd
  exact ⟨i, rfl, k G' H' _ g (.int _)⟩
theorem mk_var {i : Nat} {v : V} {d : PyData} (hv : σ[i]? = some (some v)) (h : ∀ H, Pre H → Dp K H v d) : MkD K σ Pre (tVar i) d := fun G H Q s hp k => ⟨v, hv, k G H v (.rfl' s) (h G hp)⟩
theorem mk_nil : MkDs K σ Pre tNil [] := fun G H Q s _ k => k G H [] (.rfl' s) .nil
theorem mk_cons {t : TE} {ts : TA} {d : PyData} {ds : List PyData} (S : Stay Pre) (a : MkD K σ Pre t d) (b : MkDs K σ Pre ts ds) : MkDs K σ Pre (tCons t ts) (d :: ds) := fun G H Q s hp k =>
  a G H _ s hp fun G1 H1 v g1 hv => b G1 H1 _ g1.gh (S hp g1.gg) fun G2 H2 vs g2 hvs => k G2 H2 (v :: vs) (g1.trans g2) (.cons (dpS g2.gg hv) hvs)
theorem mk_tup {ts : TA} {ds : List PyData} (h : ds.length ≤ 1000) (a : MkDs K σ Pre ts ds) : MkD K σ Pre (tTup ts) (.tuple ds) := fun G H Q s hp k =>
  a G H _ s hp fun G1 H1 vs g1 hvs => ⟨szl (by have := dpsLen hvs; omega), fun p np => k (upd G1 p (.tup vs)) _ _ (g1.trans (.new g1.gh np)) (.tup (sT upd_same) (dpsS (.new (g1.gh.free np)) hvs))⟩
theorem mkl_lst {ts : TA} {ds : List PyData} (h : ds.length ≤ 1000) (a : MkDs K σ Pre ts ds) : MkL K σ Pre (tLst ts) ds := fun G H Q s hp k =>
  a G H _ s hp fun G1 H1 vs g1 hvs => ⟨szl (by have := dpsLen hvs; omega), fun p np => k G1 _ p vs ⟨g1.gg, g1.hh.trans (.new np), g1.gh.trans (.new np), g1.fr⟩ (g1.hh.free np) (g1.gh.free np) upd_same hvs⟩
theorem Grow.put {G H G' H' : Hp} {p : Addr} {o : HO} (g : Grow G H G' H') (np : H p = none) (ng : G' p = none) (hl : H' p = some o) : Grow G H (upd G' p o) H' := by
  refine ⟨g.gg.trans (.new ng), g.hh, fun b u e => ?_, fun a u h1 h2 => ?_⟩
  · by_cases q : b = p
    · subst q
      rw [upd_same] at e
      rw [← e]
      exact hl
    · rw [upd_ne q] at e
      exact g.gh b u e
  · rw [upd_ne (ne_of_none h1 np)]
    exact g.fr a u h1 h2
theorem MkL.r {t : TE} {ds : List PyData} (h : MkL K σ Pre t ds) : MkR K σ Pre t ds := fun G H Q s hp k => h G H Q s hp fun G' H' p vs g np ng hl hd => k (upd G' p (.lst vs)) H' p vs (g.put np ng hl) upd_same (dpsS (.new ng) hd)
theorem MkR.d {t : TE} {ds : List PyData} (h : MkR K σ Pre t ds) : MkD K σ Pre t (.list ds) := fun G H Q s hp k => h G H Q s hp fun G' H' p vs g hl hd => k G' H' _ g (.lst (sL hl) hd)
theorem mk_lst {ts : TA} {ds : List PyData} (h : ds.length ≤ 1000) (a : MkDs K σ Pre ts ds) : MkD K σ Pre (tLst ts) (.list ds) := (mkl_lst h a).r.d
theorem mkr_var {i : Nat} {p : Addr} {ds : List PyData} (hv : σ[i]? = some (some (.ref p))) (h : ∀ H, Pre H → ∃ vs, H p = some (.lst vs) ∧ DpAll K H vs ds) : MkR K σ Pre (tVar i) ds := fun G H Q s hp k =>
  let ⟨vs, h1, h2⟩ := h G hp
  ⟨_, hv, k G H p vs (.rfl' s) h1 h2⟩
/-- xs + ys of lists -/
theorem mkl_cat {t u : TE} {ds es : List PyData} (S : Stay Pre) (hl : ds.length + es.length ≤ 1000) (a : MkR K σ Pre t ds) (b : MkR K σ Pre u es) : MkL K σ Pre (tOp rCat t u) (ds ++ es) := fun G H Q s hp k =>
  a G H _ s hp fun G1 H1 p vs g1 h1 d1 => b G1 H1 _ g1.gh (S hp g1.gg) fun G2 H2 q us g2 h2 d2 => by
    have e1 := dpsLen d1
    have e2 := dpsLen d2
    refine ⟨p, q, vs, us, rfl, rfl, g2.gh _ _ (g2.gg _ _ h1), g2.gh _ _ h2, szl (by omega), fun z nz => ?_⟩
    have ng := g2.gh.free nz
    have g12 := g1.trans g2
    exact k G2 _ z _ ⟨g12.gg, g12.hh.trans (.new nz), g12.gh.trans (.new nz), g12.fr⟩ (g12.hh.free nz) ng upd_same (dpsApp (dpsS g2.gg d1) d2)
/-- t + u of tuples -/
theorem mk_catT {t u : TE} {ds es : List PyData} (S : Stay Pre) (hl : ds.length + es.length ≤ 1000) (a : MkD K σ Pre t (.tuple ds)) (b : MkD K σ Pre u (.tuple es)) : MkD K σ Pre (tOp (rCatA K) t u) (.tuple (ds ++ es)) := fun G H Q s hp k =>
  a G H _ s hp fun G1 H1 v g1 d1 => b G1 H1 _ g1.gh (S hp g1.gg) fun G2 H2 w g2 d2 => by
    obtain ⟨p, vs, rfl, h1, d1⟩ := dpTup d1
    obtain ⟨q, us, rfl, h2, d2⟩ := dpTup d2
    have e1 := dpsLen d1
    have e2 := dpsLen d2
    have d1' := dpsS g2.gg d1
    refine ⟨p, q, vs, us, rfl, rfl, g2.gh.sqT (g2.gg.sqT h1), g2.gh.sqT h2, szl (by omega), fun e => ?_, fun _ e => ?_, fun _ _ z nz => ?_⟩
    · subst e
      cases d1'
      exact k G2 H2 _ (g1.trans g2) (.tup h2 d2)
    · subst e
      cases d2
      exact k G2 H2 _ (g1.trans g2) (by rw [List.append_nil]; exact .tup (g2.gg.sqT h1) d1')
    · have ng := g2.gh.free nz
      exact k (upd G2 z (.tup (vs ++ us))) _ _ (g1.trans (g2.trans (.new g2.gh nz))) (.tup (sT upd_same) (dpsApp (dpsS (.new ng) d1') (dpsS (.new ng) d2)))
/-- t[lo:] of a tuple, lo written, not above the length and not 0 -/
theorem mk_fromT {t : TE} {ds : List PyData} {n : Nat} (h0 : 0 < n) (hn : n ≤ ds.length) (a : MkD K σ Pre t (.tuple ds)) : MkD K σ Pre (tSl (rSlA K) t (tPart (tC (.int (n : Int)))) tNoPart) (.tuple (ds.drop n)) := fun G H Q s hp k =>
  a G H _ s hp fun G1 H1 v g1 d1 => by
    obtain ⟨p, vs, rfl, h1, d1⟩ := dpTup d1
    have e1 := dpsLen d1
    refine ⟨_, rfl, p, vs, rfl, g1.gh.sqT h1, fun e => ?_, fun _ z nz => ?_⟩
    · have e := e.1
      rw [HT.sIx_nat] at e
      omega
    · have ec : cutV vs (some (n : Int)) none = vs.drop n := by
        unfold cutV
        rw [HT.sIx_nat, HT.sIx_none, Nat.min_eq_left (by omega), List.take_of_length_le (by rw [List.length_drop]; exact Nat.le_refl _)]
      refine k (upd G1 z (.tup (cutV vs (some (n : Int)) none))) _ _ (g1.trans (.new g1.gh nz)) (.tup (sT upd_same) ?_)
      rw [ec]
      have dr : ∀ (m : Nat) {ws : List V} {es : List PyData}, DpAll K (upd G1 z (.tup (vs.drop n))) ws es → DpAll K (upd G1 z (.tup (vs.drop n))) (ws.drop m) (es.drop m) := by
        intro m
        induction m with
        | zero => intro ws es h; exact h
        | succ m ih =>
          intro ws es h
          cases h with
          | nil => rw [List.drop_nil, List.drop_nil]; exact .nil
          | cons a b => exact ih b
      exact dr n (dpsS (.new (g1.gh.free nz)) d1)
/-- a pick out of a list -/
theorem mk_ixL {t u : TE} {ds : List PyData} {i : Int} {j : Nat} {d : PyData} (S : Stay Pre) (a : MkR K σ Pre t ds) (b : MkD K σ Pre u (.int i)) (e : i = (j : Int)) (hd : ds[j]? = some d) : MkD K σ Pre (tOp (rIxL K) t u) d := fun G H Q s hp k =>
  a G H _ s hp fun G1 H1 p vs g1 h1 d1 => b G1 H1 _ g1.gh (S hp g1.gg) fun G2 H2 w g2 d2 => by
    cases d2
    obtain ⟨v, hv, hvd⟩ := dpsAt d1 hd
    exact ⟨p, vs, i, v, rfl, rfl, sL (g2.gh _ _ (g2.gg _ _ h1)), at_of e hv, k G2 H2 v (g1.trans g2) (dpS g2.gg hvd)⟩
theorem mk_ixT {t u : TE} {ds : List PyData} {i : Int} {j : Nat} {d : PyData} (S : Stay Pre) (a : MkD K σ Pre t (.tuple ds)) (b : MkD K σ Pre u (.int i)) (e : i = (j : Int)) (hd : ds[j]? = some d) : MkD K σ Pre (tOp (rIxT K) t u) d := fun G H Q s hp k =>
  a G H _ s hp fun G1 H1 p g1 d1 => b G1 H1 _ g1.gh (S hp g1.gg) fun G2 H2 w g2 d2 => by
    cases d2
    obtain ⟨q, vs, rfl, h1, d1⟩ := dpTup d1
    obtain ⟨v, hv, hvd⟩ := dpsAt d1 hd
    exact ⟨q, vs, i, v, rfl, rfl, g2.gh.sqT (g2.gg.sqT h1), at_of e hv, k G2 H2 v (g1.trans g2) (dpS g2.gg hvd)⟩
/-- numbers -/
theorem mk_i0 {t u : TE} {a b : Int} {g : Int → Int → Int} (S : Stay Pre) (ha : MkD K σ Pre t (.int a)) (hb : MkD K σ Pre u (.int b)) : MkD K σ Pre (tOp (rI0 fun i j => .int (g i j)) t u) (.int (g a b)) := fun G H Q s hp k =>
  ha G H _ s hp fun G1 H1 v g1 d1 => hb G1 H1 _ g1.gh (S hp g1.gg) fun G2 H2 w g2 d2 => by
    cases d1
    cases d2
    exact ⟨a, b, rfl, rfl, k G2 H2 _ (g1.trans g2) (.int _)⟩
theorem mk_iC {t u : TE} {a b : Int} {C : Int → Int → Prop} {g : Int → Int → Int} (S : Stay Pre) (ha : MkD K σ Pre t (.int a)) (hb : MkD K σ Pre u (.int b)) (hC : C a b) : MkD K σ Pre (tOp (rI C fun i j => .int (g i j)) t u) (.int (g a b)) := fun G H Q s hp k =>
  ha G H _ s hp fun G1 H1 v g1 d1 => hb G1 H1 _ g1.gh (S hp g1.gg) fun G2 H2 w g2 d2 => by
    cases d1
    cases d2
    exact ⟨a, b, rfl, rfl, hC, k G2 H2 _ (g1.trans g2) (.int _)⟩
/-- [e for x in xs], x in slot i: J is the walk's own reading -/
theorem mkl_walk {te : TE} {i : Nat} {own : List Nat} {es : List PyData} {F : PyData → PyData} {G1 H1 : Hp} {vs : List V} {D : Addr} {Qd : Hp → Prop} (S : Stay Pre) (hl : es.length ≤ 1000) (hw : ∀ x : V, wipe ((wipe σ own).set i (some x)) own = wipe σ own)
    (he : ∀ (x : V) (d : PyData), d ∈ es → MkD K ((wipe σ own).set i (some x)) (fun H => Pre H ∧ Dp K H x d) te (F d)) (s1 : Same G1 H1) (hp : Pre G1) (d1 : DpAll K G1 vs es) (nD : H1 D = none)
    (k : ∀ G' H' us, Grow G1 H1 G' H' → G' D = none → H' D = some (.lst us) → DpAll K G' us (es.map F) → Qd H') :
    ∃ Pv : Nat → Hp → Prop, Pv 0 (upd H1 D (.lst [])) ∧ (∀ j H', Pv j H' → Same H1 H') ∧ (∀ j x H', vs[j]? = some x → Pv j H' → gName i x (wipe σ own) H' fun σ2 H2 => wipe σ2 own = wipe σ own ∧ tYes σ2 H2 fun b H3 => if b = true then te σ2 H3 fun y H4 => ∃ acc, H4 D = some (.lst acc) ∧ acc.length < sizeLine ∧ Pv (j + 1) (upd H4 D (.lst (acc ++ [y]))) else Pv (j + 1) H3) ∧ (∀ H', Pv vs.length H' → Qd H') := by
  have hlen := dpsLen d1
  have nG := s1.free nD
  refine ⟨fun j H' => ∃ us G', Same G1 G' ∧ Same H1 H' ∧ Same G' H' ∧ G' D = none ∧ (∀ a o, H1 a = some o → G1 a = none → G' a = none) ∧ H' D = some (.lst us) ∧ DpAll K G' us ((es.take j).map F),
    ⟨[], G1, Same.refl _, .new nD, s1.mut nG, nG, fun _ _ _ h => h, upd_same, .nil⟩, fun j H' ⟨us, G', _, h, _⟩ => h, ?_, ?_⟩
  · rintro j x H2 hx ⟨us, G2, gg, hh, gh, nD2, fr, hD, hus⟩
    obtain ⟨d, hd, hxd⟩ := dpsAtV d1 hx
    refine ⟨hw x, ?_⟩
    refine he x d (List.mem_of_getElem? hd) G2 H2 _ gh ⟨S hp gg, dpS gg hxd⟩ fun G3 H3 y g3 hy => ?_
    have hD3 := g3.hh _ _ hD
    have nD3 : G3 D = none := g3.fr D _ hD nD2
    have hul := dpsLen hus
    rw [List.length_map, List.length_take] at hul
    refine ⟨us, hD3, szb (by omega), us ++ [y], G3, gg.trans g3.gg, (hh.trans g3.hh).mut nD, g3.gh.mut nD3, nD3, fun a o h1 h2 => g3.fr a o (hh a o h1) (fr a o h1 h2), upd_same, ?_⟩
    rw [List.take_add_one, hd, Option.toList_some, List.map_append]
    exact dpsApp (dpsS g3.gg hus) (.cons hy .nil)
  · rintro H2 ⟨us, G2, gg, hh, gh, nD2, fr, hD, hus⟩
    rw [hlen, List.take_length] at hus
    exact k G2 H2 us ⟨gg, hh, gh, fr⟩ nD2 hD hus
theorem mkl_comp {tl te : TE} {i : Nat} {own : List Nat} {es : List PyData} {F : PyData → PyData} (S : Stay Pre) (hl : es.length ≤ 1000) (a : MkR K σ Pre tl es) (hw : ∀ x : V, wipe ((wipe σ own).set i (some x)) own = wipe σ own)
    (he : ∀ (x : V) (d : PyData), d ∈ es → MkD K ((wipe σ own).set i (some x)) (fun H => Pre H ∧ Dp K H x d) te (F d)) : MkL K σ Pre (tLc (iList K tl) (gName i) tYes te own) (es.map F) := fun G H Q s hp k =>
  a G H _ s hp fun G1 H1 p vs g1 h1 d1 => by
    refine ⟨p, rfl, ⟨vs, sL (g1.gh _ _ h1)⟩, fun D nD => ?_⟩
    obtain ⟨Pv, p0, ps, pt, pd⟩ := mkl_walk (Qd := fun H' => Q (.ref D) H') S hl hw he g1.gh (S hp g1.gg) d1 nD fun G' H' us g ng hD hd => k G' H' D us (g1.trans g) (g1.hh.free nD) ng hD hd
    exact lc_list (K := K) (a := p) (xs := vs) Pv p0 (fun j H' _ h => sL (ps j H' h _ _ (g1.gh _ _ h1))) pt pd
theorem mkl_compT {tl te : TE} {i : Nat} {own : List Nat} {es : List PyData} {F : PyData → PyData} (S : Stay Pre) (hl : es.length ≤ 1000) (a : MkD K σ Pre tl (.tuple es)) (hw : ∀ x : V, wipe ((wipe σ own).set i (some x)) own = wipe σ own)
    (he : ∀ (x : V) (d : PyData), d ∈ es → MkD K ((wipe σ own).set i (some x)) (fun H => Pre H ∧ Dp K H x d) te (F d)) : MkL K σ Pre (tLc (iTup K tl) (gName i) tYes te own) (es.map F) := fun G H Q s hp k =>
  a G H _ s hp fun G1 H1 v g1 d0 => by
    obtain ⟨p, vs, rfl, h1, d1⟩ := dpTup d0
    refine ⟨p, rfl, ⟨vs, g1.gh.sqT h1⟩, fun D nD => ?_⟩
    obtain ⟨Pv, p0, ps, pt, pd⟩ := mkl_walk (Qd := fun H' => Q (.ref D) H') S hl hw he g1.gh (S hp g1.gg) d1 nD fun G' H' us g ng hD hd => k G' H' D us (g1.trans g) (g1.hh.free nD) ng hD hd
    exact lc_tup (K := K) (a := p) (xs := vs) Pv p0 (fun j H' _ h => (ps j H' h).sqT (g1.gh.sqT h1)) pt pd
/-- list(t) of a tuple -/
theorem mkl_listOf {t : TE} {ds : List PyData} (a : MkD K σ Pre t (.tuple ds)) : MkL K σ Pre (tCB (fun xs H Q => ∃ p ys, xs = [V.ref p] ∧ (SqL K H p ys ∨ SqT K H p ys) ∧ ∀ l, H l = none → Q (V.ref l) (upd H l (HO.lst ys))) (tCons t tNil)) ds := fun G H Q s hp k =>
  a G H _ s hp fun G1 H1 v g1 d1 => by
    obtain ⟨p, vs, rfl, h1, d1⟩ := dpTup d1
    exact ⟨p, vs, rfl, .inr (g1.gh.sqT h1), fun l nl => k G1 _ l vs ⟨g1.gg, g1.hh.trans (.new nl), g1.gh.trans (.new nl), g1.fr⟩ (g1.hh.free nl) (g1.gh.free nl) upd_same d1⟩
/-- t[:-1] of a tuple, not empty -/
theorem dps_take {H : Hp} : ∀ (m : Nat) {ws : List V} {es : List PyData}, DpAll K H ws es → DpAll K H (ws.take m) (es.take m)
  | 0, _, _, _ => .nil
  | m + 1, _, _, .nil => by rw [List.take_nil, List.take_nil]; exact .nil
  | m + 1, _, _, .cons a b => .cons a (dps_take m b)
theorem mk_butLastT {t : TE} {ds : List PyData} (h0 : 0 < ds.length) (a : MkD K σ Pre t (.tuple ds)) : MkD K σ Pre (tSl (rSlA K) t tNoPart (tPart (tUn (rU fun i => .int (-i)) (tC (.int 1))))) (.tuple (ds.take (ds.length - 1))) := fun G H Q s hp k =>
  a G H _ s hp fun G1 H1 v g1 d1 => by
    obtain ⟨p, vs, rfl, h1, d1⟩ := dpTup d1
    have e1 := dpsLen d1
    have es : HT.sIx vs.length vs.length (some (-1)) = vs.length - 1 := by
      unfold HT.sIx
      first | (simp; omega) | (simp only []; split <;> omega) | omega
    refine ⟨_, rfl, _, rfl, p, vs, rfl, g1.gh.sqT h1, fun e => ?_, fun _ z nz => ?_⟩
    · have e := e.2
      rw [es] at e
      omega
    · have ec : cutV vs none (some (-1)) = vs.take (vs.length - 1) := by
        unfold cutV
        rw [es, HT.sIx_none, List.drop_zero, Nat.sub_zero]
      refine k (upd G1 z (.tup (cutV vs none (some (-1))))) _ _ (g1.trans (.new g1.gh nz)) (.tup (sT upd_same) ?_)
      rw [ec, e1]
      exact dps_take _ (dpsS (.new (g1.gh.free nz)) d1)
/-! ### statements that store what is made -/
theorem sq_mk {te : TE} {d : PyData} {i : Nat} {r : TS} {D : Ends} {H : Hp} (m : MkD K σ Pre te d) (hp : Pre H) (k : ∀ H1 v, Same H H1 → Dp K H1 v d → r D (σ.set i (some v)) H1) : tSeq (tAsg te (gName i)) r D σ H := m.use hp k
theorem sq_mkl {te : TE} {ds : List PyData} {i : Nat} {r : TS} {D : Ends} {H : Hp} (m : MkL K σ Pre te ds) (hp : Pre H) (k : ∀ G H1 p vs, Same H G → Same G H1 → H p = none → G p = none → H1 p = some (.lst vs) → DpAll K G vs ds → r D (σ.set i (some (.ref p))) H1) : tSeq (tAsg te (gName i)) r D σ H := m.useN hp k
theorem rt_mk {te : TE} {d : PyData} {D : Ends} {H : Hp} (m : MkD K σ Pre te d) (hp : Pre H) (k : ∀ H1 v, Same H H1 → Dp K H1 v d → D.rt v H1) : tRet te D σ H := m.use hp k
theorem stay_dp {v : V} {d : PyData} : Stay fun H => Dp K H v d := fun h s => dpS s h
theorem stay_ls {p : Addr} {ds : List PyData} : Stay fun H => ∃ vs, H p = some (.lst vs) ∧ DpAll K H vs ds := fun ⟨vs, h1, h2⟩ s => ⟨vs, s _ _ h1, dpsS s h2⟩
theorem stay_and {A B : Hp → Prop} (a : Stay A) (b : Stay B) : Stay fun H => A H ∧ B H := fun h s => ⟨a h.1 s, b h.2 s⟩
theorem stay_true : Stay fun _ => True := fun _ _ => trivial
end
end Sw
set_option Elab.async false
set_option maxRecDepth 100000
set_option maxHeartbeats 2000000
/-! `TooMany(n)`: an own exception whose `__init__` calls `super().__init__` with an f-string and then keeps n. -/
namespace SwX
open PySem PySem.W PySem.Calls PyProof.Rows PySem.HandSPX
def mArgs (p1 p2 : Pos) : Arguments :=
  { posonlyargs := [], args := [⟨"self", none, p1⟩, ⟨"most", none, p2⟩], vararg := none, kwonlyargs := [], kw_defaults := [],
    kwarg := none, defaults := [] }
def mVals (v1 v2 v3 : Pos) : List Expr := [.Constant (.str "there are more than ") 0 v1, .FormattedValue (.Name "most" v2) (-1) none v3]
def mSt1 (v1 v2 v3 a1 a2 a3 a4 a5 a6 : Pos) : Stmt :=
  .Expr (.Call (.Attribute (.Call (.Name "super" a1) [] [] a2) "__init__" a3) [.JoinedStr (mVals v1 v2 v3) a4] [] a5) a6
def mSt2 (b1 b2 b3 b4 : Pos) : Stmt := .Assign [.Attribute (.Name "self" b1) "most" b2] (.Name "most" b3) b4
def mScope : Scope :=
  { kind := .function, names := [("self", .local), ("most", .local), ("__class__", .free), ("super", .globalImplicit)],
    isGenerator := false, isCoroutine := false, more := [] }
def codeF (K : Frag) (cd : Value) (q file : Str) : Bool :=
  match cd with
  | .ref c =>
    match List.lookup c K with
    | some o =>
      match o.data with
      | .fields vs => match vs.toList with
        | _ :: .str n _ :: .str g _ :: _ => n == q && g == file
        | _ => false
      | _ => false
    | none => false
  | _ => false
def cellF (K : Frag) (cc C : Addr) : Bool :=
  match List.lookup cc K with
  | some o => match o.data with
    | .cell (some (.ref c)) => c == C
    | _ => false
  | none => false
theorem codeF_ok {K : Frag} {cd : Value} {q file : Str} (h : codeF K cd q file = true) :
    ∃ c o vs t t2, cd = .ref c ∧ List.lookup c K = some o ∧ o.data = .fields vs ∧ vs[1]? = some (.str q t) ∧ vs[2]? = some (.str file t2) := by
  unfold codeF at h
  split at h
  case h_2 => cases h
  rename_i c
  split at h
  case h_2 => cases h
  rename_i o ho
  split at h
  case h_2 => cases h
  rename_i vs hd
  split at h
  case h_2 => cases h
  rename_i e0 n t1 g t2 rest hv
  have hh := Bool.and_eq_true_iff.mp h
  have e1 : n = q := by simpa using hh.1
  have e2 : g = file := by simpa using hh.2
  subst e1; subst e2
  refine ⟨c, o, vs, t1, t2, rfl, ho, hd, ?_, ?_⟩
  · rw [← Array.getElem?_toList, hv]; rfl
  · rw [← Array.getElem?_toList, hv]; rfl
theorem cellF_ok {K : Frag} {cc C : Addr} (h : cellF K cc C = true) : ∃ o, List.lookup cc K = some o ∧ o.data = .cell (some (.ref C)) := by
  unfold cellF at h
  split at h
  case h_2 => cases h
  rename_i o ho
  split at h
  case h_2 => cases h
  rename_i c hd
  have e1 : c = C := by simpa using h
  subst e1
  exact ⟨o, ho, hd⟩
abbrev veMro : List Value := [.type "ValueError", .type "Exception", .type "BaseException", .type "object"]
/-- what the top has written of TooMany (at C) and of its __init__ (at fI) -/
structure ManyAt (K : Frag) (mg : Str → Option Value) (P : Program) (C fI : Addr) : Prop where
  gC : mg "TooMany" = some (.ref C)
  kl : ∃ n1 q1 ns1 b1 m1 s1 u1 ab1 c1 d1 z0 z1 z2 z3 z5,
    K.lookup C = some (excClassObj n1 q1 C ns1 b1 m1 true s1 u1 ab1 c1 d1 z0 z1 z2 z3 z5 "ValueError.__new__") ∧ refsVE m1 = true
  st : findIn K (.ref C) "__setattr__" = some (some (.builtin "object.__setattr__"))
  gt : findIn K (.ref C) "__getattribute__" = some (some (.builtin "BaseException.__getattribute__"))
  gn : findIn K (.ref C) "__getattr__" = some none
  nm : findIn K (.ref C) "most" = some none
  ini : findIn K (.ref C) "__init__" = some (some (.ref fI))
  tf : typeIn K (.ref fI) = some (.type "function")
  kp : keepIn K (.ref C) = true
  sB : subIn K (.ref C) (.type "BaseException") = some true
  sV : subIn K (.ref C) (.type "ValueError") = some true
  sC : subIn K (.ref C) (.ref C) = some true
  ty : typeIn K (.ref C) = some (.type "type")
  hd : hasDictIn K C = true
  sup : ks_superIn K C C "__init__" = some (some (.builtin "ValueError.__init__"))
  op : nsIn K cStatics "thirdparty.any" = some none
  xi : excInitIn K C veMro "ValueError.__new__" = true
  noS : mg "super" = none
  ms : (List.lookup (PySem.Str.ofString "super") P.main.scope.names).isSome = false
  fn : ∃ (oc : Value) (od : Option Addr) (doc pm : Value) (an : Option Addr) (cdv ct : Value) (cc : Addr) (osl : Array (Option Value)) (p1 p2 v1 v2 v3 a1 a2 a3 a4 a5 a6 b1 b2 b3 b4 : Pos),
    K.lookup fI = some ⟨oc, od, .func (ksFn "__init__" "TooMany.__init__" (mArgs p1 p2) [mSt1 v1 v2 v3 a1 a2 a3 a4 a5 a6, mSt2 b1 b2 b3 b4] mScope .none .none doc pm an cdv ct cc), osl⟩ ∧
    (a3.endLine == a5.line) = true ∧ codeF K cdv "TooMany.__init__" P.main.file = true ∧ cellF K cc C = true
/-- a made exception -/
structure Made (h h' : Heap) (e C d : Addr) (v : Value) : Prop where
  old : ∀ b o, h.get? b = some o → h'.get? b = some o
  fresh : h.objs.size ≤ e
  at_ : ∃ oe vs, h'.get? e = some oe ∧ oe.cls = .ref C ∧ oe.dict = some d ∧ oe.data = .fields vs ∧ vs[1]? = some .none
  fd : h.objs.size ≤ d
  ne : d ≠ e
  ns1 : h'.Ns1 d (fun y => if y = "most" then some v else none)
section
variable {prog : Program} {w : World} {A : Around} {E : Value → Shared → Prop} {R : Result → Shared → Prop} {s : Shared} {K : Frag} {mg mb : Str → Option Value} {C fI : Addr}
theorem len_app {y : Str} (hl : y.length ≤ 100000) : ((Str.empty ++ (PySem.Str.ofString "there are more than ")) ++ y).length ≤ sizeLine := by
  rw [sizeLine_eq, Str.length_append]
  have h : (Str.empty ++ (PySem.Str.ofString "there are more than ")).length = 20 := by decide +kernel
  rw [h]
  omega
theorem joinM {env : Env} {m : Str → Option Value} {v1 v2 v3 : Pos} {n : Int} {t : Tok} {Q : Str → Shared → Prop}
    (hk : env.scope.kind = .function) (hf : env.kindOf "most" = some .local) (hn : s.heap.Ns env.locals m) (hm : m "most" = some (.int n t))
    (hlog : n.natAbs.log2 < 1920) (hl : (PySem.Str.ofString (toString n)).length ≤ 100000)
    (hQ : ∀ out tk, out.length ≤ sizeLine → Q out { s with toks := tk }) :
    Joins (model prog w) A E (evalEach (mVals v1 v2 v3) env) Str.empty Q s := by
  refine Joins_cons (wpAny_Constant_str ⟨_, _, rfl, ?_, ?_⟩)
  · rw [sizeLine_eq]; decide +kernel
  refine Joins_cons (wpAny_FormattedValue_plain (wpAny_Name (wpAny_loadName_local hk hf hn hm (wpAny_formatField_int hlog ⟨_, _, rfl, ?_, ?_⟩)) (by decide)))
  · exact len_app hl
  · exact hQ _ _ (len_app hl)
theorem mc_he {env : Env} {o : Expr} {nm : Str} {v : Expr} {a3 a5 : Pos} (hp : (a3.endLine == a5.line) = true) (hs : starEach [v] env = [(false, eval v env)])
    (ho : eval (.Call (.Attribute o nm a3) [v] [] a5) env = (do
      let ov ← attributeBase o nm env (eval o env)
      standAt a3.atName
      methodCall o nm a3 a5 env ov 1 (backTo a5 (starEach [v] env)) [])) :
    ∃ pl, eval (.Call (.Attribute o nm a3) [v] [] a5) env = (do
      let ov ← attributeBase o nm env (eval o env)
      standAt a3.atName
      let x ← holding [ov] (getMethod ov nm pl)
      match x with
        | (f, first) => callWith a5 f first (backTo a5 (starEach [v] env)) []) := by
  refine ⟨do return (← importBound o env).getD true, ?_⟩
  rw [ho]
  have hf : methodCallForm 1 (backTo a5 (starEach [v] env)) [] = true := by
    rw [hs]; rfl
  unfold methodCall methodCallPos
  rw [hf, hp]
  rfl
theorem nolim_push {h : Heap} (H : h.NoLimit) {o : Obj} : (h.push o).NoLimit := H.keeps fun b o e => Heap.get?_push_of_some _ e
/-- `__init__` run on a fresh exception at x; hp: the heap before it was made -/
theorem many_init (T : ManyAt K mg prog C fI) {hp : Heap} {x t0 : Addr} {n : Int} {t : Tok} (Xp : K.In hp) (hlim : s.heap.NoLimit)
    (kp : ∀ b o, hp.get? b = some o → s.heap.get? b = some o) (hx : s.heap.get? x = some (excO C t0)) (hnx : hp.get? x = none) (hsz : hp.objs.size ≤ s.heap.objs.size)
    (hG : hp.Ns mainGlobals mg) (hB : hp.Ns builtinsNs mb) (hmb : mb "super" = some (.type "super")) (hroom : A.depth < recursionLimit)
    (hlog : n.natAbs.log2 < 1920) (hl : (PySem.Str.ofString (toString n)).length ≤ 100000)
    (hq : ∀ h' tk dx t1, (∀ b o, hp.get? b = some o → h'.get? b = some o) → h'.get? x = some { cls := .ref C, dict := some dx, data := .fields #[.ref t1, .none, .none, .none, .bool false, .none] } →
      hp.objs.size ≤ dx → dx ≠ x → (h'.Ns1 dx fun y => if y = "most" then some (.int n t) else none) → R (.ok (.ret .none)) { s with heap := h', toks := tk }) :
    codeAny (model prog w) A (.call (.ref fI) ⟨[.ref x, .int n t], []⟩) R s := by
  obtain ⟨oc, od, doc, pm, an, cdv, ct, cc, osl, p1, p2, v1, v2, v3, a1, a2, a3, a4, a5, a6, b1, b2, b3, b4, ho, hpos, hcd, hcc⟩ := T.fn
  obtain ⟨n1, q1, ns1, bb1, m1, s1, u1, ab1, c1, d1, z0, z1, z2, z3, z5, hC, hm1⟩ := T.kl
  obtain ⟨c, oc', vs, t1, t2, rfl, hc, hcdat, hvs1, hvs2⟩ := codeF_ok hcd
  obtain ⟨occ, hocc, hoccd⟩ := cellF_ok hcc
  have X : K.In s.heap := Xp.keeps kp
  refine ks_codeAny_call_defAt (binds := [("self", .ref x), ("most", .int n t)]) hroom (X _ _ ho) rfl hlim ⟨c, oc', vs, t1, rfl, X _ _ hc, hcdat, hvs1⟩ rfl
    (BindsTo.of_eq (by first | rfl | with_unfolding_all rfl))
    (by show ∀ y, y ∈ mScope.names → _; decide) (fun y hy => ?_) (fun h₀ hn k => ?_)
  · rcases List.mem_cons.mp hy with rfl | hy
    · rfl
    · rcases List.mem_cons.mp hy with rfl | hy
      · rfl
      · cases hy
  have X₀ : K.In h₀ := X.keeps k
  have kp₀ : ∀ b o, hp.get? b = some o → h₀.get? b = some o := fun b o e => k b o (kp b o e)
  refine ks_wpAt_execs_cons ?_
  with_unfolding_all refine ks_wpAt_Expr_any ?_
  obtain ⟨pl, he⟩ := mc_he (env := callEnv (ksFn "__init__" "TooMany.__init__" (mArgs p1 p2) [mSt1 v1 v2 v3 a1 a2 a3 a4 a5 a6, mSt2 b1 b2 b3 b4] mScope .none .none doc pm an (.ref c) ct cc) s.heap.objs.size fI)
    (o := .Call (.Name "super" a1) [] [] a2) (nm := "__init__") (v := .JoinedStr (mVals v1 v2 v3) a4) hpos rfl (by with_unfolding_all rfl)
  refine ks_wpAt_MethodCall (pl := pl) ?_ he
  refine ks_wpAt_super_base (f := fI) (cc := c) rfl rfl (by decide) rfl (X₀ _ _ ho) rfl rfl rfl (X₀ _ _ hc) hcdat hvs2 (by simp) T.ms ?_
  refine ks_loadName_global rfl rfl (loadGlobal_builtin (hG.keeps kp₀) T.noS (hB.keeps kp₀) hmb ⟨rfl, ?_⟩)
  refine wpAny_loadName_free rfl rfl (by first | rfl | with_unfolding_all rfl) ⟨occ, X₀ _ _ hocc, hoccd⟩ ?_
  refine wpAny_loadName_local rfl rfl hn rfl ?_
  refine ks_wpAny_isType_cls (X₀ _ _ hC) rfl ⟨rfl, ?_⟩
  have hx₀ := k _ _ hx
  refine ks_wpAny_call_super (X₀ _ _ hC) rfl hx₀ rfl (fun c e => by cases e) (looks_subIn X₀ T.sC) (fun h₁ hso k₁ => ?_)
  have X₁ : K.In h₁ := X₀.keeps k₁
  have hLx : s.heap.objs.size ≠ x := Nat.ne_of_gt (Heap.lt_size hx)
  have inp : ∀ b o, hp.get? b = some o → b < h₀.objs.size := fun b o e => Heap.lt_size (kp₀ b o e)
  have F₁ : Fr hp s.heap.objs.size h₁ (fun y => List.lookup y [(PySem.Str.ofString "self", Value.ref x), ("most", Value.int n t)].reverse) :=
    ⟨hn.keeps k₁, fun b o e => k₁ b o (kp₀ b o e), hsz⟩
  have N₁ : News hp s.heap.objs.size h₁ [(h₀.objs.size, ks_superObj C x C), (x, excObj C t0 none .none)] := by
    intro p hp'
    rcases List.mem_cons.mp hp' with rfl | hp'
    · refine ⟨hso, Nat.ne_of_gt hn.lt, ?_⟩
      cases e : hp.get? h₀.objs.size with
      | none => rfl
      | some o => exact absurd (inp _ _ e) (Nat.lt_irrefl _)
    rcases List.mem_cons.mp hp' with rfl | hp'
    · exact ⟨k₁ _ _ hx₀, Ne.symm hLx, hnx⟩
    · cases hp'
  refine kxs_method kxs_ValueError F₁ Xp N₁ (.head _) (InstAt.of_exc0 N₁ (.tail _ (.head _))) T.op T.sup T.sV (by decide) (fun q h₂ F₂ N₂ lt₂ => ?_)
  refine kxs_callWith1 (i := "ValueError.__init__") (x := x) N₂ (.head _) ?_
  refine spliced_cons ?_
  refine wpAny_JoinedStr (pos := a4) ?_
  refine joinM (v1 := v1) (v2 := v2) (v3 := v3) rfl rfl F₂.ns rfl hlog hl fun out tk hout => ⟨hout, ?_⟩
  refine spliced_nil ⟨kxs_at N₂ (.head _), ?_⟩
  refine kxs_call F₂ Xp N₂ F.excBase_ValueError T.xi (.head _) (t := t0) (dv := none) (c2 := .none) (UpdF.tail ?_ (UpdF.tail ?_ (UpdF.head ?_))) (by show 1 ≤ sizeLine; decide) (fun t' h₃ F₃ N₃ _ => ?_)
  · exact Nat.ne_of_gt (lt₂ (x, excObj C t0 none .none) (.tail _ (.head _)))
  · exact Nat.ne_of_gt (Heap.lt_size hx₀)
  · intro p hp'
    cases hp'
  have X₃ : K.In h₃ := Xp.keeps F₃.keep
  have hx₃ : h₃.get? x = some (excO C t') := (N₃ (x, excObj C t' none .none) (by simp)).1
  have hcl : clsIn K C = some { name := n1, bases := bb1, mro := .ref C :: m1, ns := ns1, qualname := q1, hasDict := true, slotNames := s1, subclasses := u1, abstract := ab1, collection := c1, hasDel := false } := by
    unfold clsIn
    rw [hC] <;> rfl
  refine wpAt_of_wpAny ?_
  show wpAny _ _ (execs _ _) _ _ _
  refine wpAny_execs_cons (plainObj_wpAny_Assign_Attribute ?_)
  refine wpAny_Name (wpAny_loadName_local rfl rfl F₃.ns rfl ?_) (by decide)
  refine wpAny_Name (wpAny_loadName_local rfl rfl F₃.ns rfl ?_) (by decide)
  refine set_plain X₃ (ox := excO C t') (od := none) ⟨hx₃, rfl, rfl, trivial⟩ T.st ?_
  refine exc_osa X₃ hx₃ hcl (show refsVE (.ref C :: m1) = true from hm1) rfl T.nm (fun h₄ tk₄ dx k₄ dn dne hx₄ hn₄ => ?_)
  show wpAny _ _ (execs _ _) _ _ _
  refine wpAny_execs_nil (hq h₄ tk₄ dx t' (fun b o e => k₄ b o (fun z => by rw [z, hnx] at e; cases e) (F₃.keep b o e)) hx₄ ?_ dne hn₄)
  have z : s.heap.objs.size < h₃.objs.size := F₃.ns.lt
  exact Nat.le_trans hsz (Nat.le_trans (Nat.le_of_lt z) dn)
theorem one_len (v : Value) : [v].length ≤ sizeLine := by
  rw [sizeLine_eq]; simp
/-- `TooMany(n)` -/
theorem many_made (T : ManyAt K mg prog C fI) {n : Int} {t : Tok} (X : K.In s.heap) (hlim : s.heap.NoLimit) (hG : s.heap.Ns mainGlobals mg) (hB : s.heap.Ns builtinsNs mb)
    (hmb : mb "super" = some (.type "super")) (hroom : A.depth + 1 < recursionLimit) (hlog : n.natAbs.log2 < 1920) (hl : (PySem.Str.ofString (toString n)).length ≤ 100000)
    (hq : ∀ h' tk e d, Made s.heap h' e C d (.int n t) → R (.ok (.ret (.ref e))) { s with heap := h', toks := tk }) :
    codeAny (model prog w) A (.call (.ref C) ⟨[.int n t], []⟩) R s := by
  obtain ⟨n1, q1, ns1, bb1, m1, s1, u1, ab1, c1, d1, z0, z1, z2, z3, z5, hC, hm1⟩ := T.kl
  obtain ⟨hp, g, dr, tk, os⟩ := s
  have k : ∀ b o, hp.get? b = some o → ((hp.push (kdv_tup [.int n t])).push (excO C hp.objs.size)).get? b = some o :=
    fun b o e => Heap.get?_push_of_some _ (Heap.get?_push_of_some _ e)
  have at_e : ((hp.push (kdv_tup [.int n t])).push (excO C hp.objs.size)).get? (hp.objs.size + 1) = some (excO C hp.objs.size) := by heap_get
  have out : hp.get? (hp.objs.size + 1) = none := by
    cases e : hp.get? (hp.objs.size + 1) with
    | none => rfl
    | some o => exact absurd (Nat.lt_of_succ_lt (Heap.lt_size e)) (Nat.lt_irrefl _)
  refine call_own F.excBase_ValueError (fun Y => refsVE_contains Y m1 hm1) (X _ _ hC) (looks_findIn X T.ini) (fun self => bind_fn X self T.tf) (one_len _) ?_
  refine many_init (s := ⟨(hp.push (kdv_tup [.int n t])).push (excO C hp.objs.size), g, dr, tk, os⟩) (hp := hp) T X (hlim.keeps k) k at_e out ?_ hG hB hmb ?_ hlog hl
    (fun h' tk' dx t1 keep hx dge dne hns => ?_)
  · rw [Heap.size_push, Heap.size_push]; omega
  · show A.depth + 1 < recursionLimit
    exact hroom
  · exact ⟨rfl, hq h' tk' (hp.objs.size + 1) dx ⟨keep, Nat.le_succ _, ⟨_, _, hx, rfl, rfl, rfl, rfl⟩, dge, dne, hns⟩⟩
end
end SwX
namespace L2
open PySem PySem.Spec PyProof.Rows SwX
theorem relO_most {v : V} {v' : Value} (r : RelV v v') (f : Str) : RelO (List.lookup f [(("most" : Str), v)]) (if f = "most" then some v' else none) := by
  by_cases h : f = "most"
  · rw [if_pos h, h]
    exact r
  · rw [if_neg h]
    have q : List.lookup f [(("most" : Str), v)] = none := by
      simp [List.lookup, show (f == ("most" : Str)) = false by simpa using h]
    rw [q]
    trivial
/-- reading of `TooMany(e)`, e a number -/
def tMany (C : Addr) (ta : TA) : St → Hp → XK → Prop := fun σ H Q => ta σ H fun vs H1 => ∃ n : Int, vs = [.int n] ∧ n.natAbs.log2 < 1920 ∧ (PySem.Str.ofString (toString n)).length ≤ 100000 ∧
  ∀ d, H1 d = none → Q (.ref C) (some d) (upd H1 d (.xd [(("most" : Str), .int n)]))
section
variable {X : Cx} {C fI : Addr}
theorem pmk_many {a : Expr} {ta : TA} {p pos : Pos} {k : Nat} (T : ManyAt X.K X.mg X.prog C fI) (hr : Room k X.A) (ha : PA X [a] ta) (hg : Gl X "TooMany" := by rfl)
    (he : starEach (a :: []) X.env = (false, eval a X.env) :: starEach [] X.env := by rfl) (hpl : (backTo pos (starEach [] X.env)).any (·.1) = false := by rfl) :
    PMk X (.Call (.Name "TooMany" p) [a] [] pos) (tMany C ta) := by
  intro pins s σ H Q I h
  refine wpAny_Call_Name_kw (ld_glob I hg T.gC ?_)
  refine PySem.W.callWith_K (h₀ := X.base) I.ok.mod.kin T.kp (thn (ha.run pos pins s σ H _ I h) fun us s1 hh => ?_) he hpl
  obtain ⟨vs, H1, I1, r1, n, rfl, hlog, hl, q1⟩ := hh
  refine ⟨I1.kIn, ?_⟩
  cases r1 with
  | cons rv rn =>
  rename_i v' us'
  cases rn
  obtain ⟨t, rfl⟩ : ∃ t, v' = Value.int n t := rv
  show wpAny _ _ (call (.ref C) [.int n t]) _ _ _
  have hlim := I1.nolimit
  obtain ⟨mb, hb1, hb2⟩ := I1.mod.blt
  have hG := I1.mod.glob.keeps I1.bk
  have hB := hb1.keeps I1.bk
  have hs : mb "super" = some (.type "super") := (hb2 _ (by decide)).trans (by first | rfl | boot_by_name | kernel_rfl)
  obtain ⟨hp, g, dr, tk, os⟩ := s1
  refine wpAny_call (many_made T I1.kIn hlim hG hB hs (by have := hr.dp; omega) hlog hl fun h' tk' e d M => ?_)
  show MkP X pins σ Q (.ref e) ⟨h', g, dr, tk', os⟩
  obtain ⟨oe, fv, hoe, hc, hd, hdat, hnone⟩ := M.at_
  obtain ⟨G', in1, in2⟩ := restrict h' fun b => decide (b ≠ e)
  have gk : ∀ b, b ≠ e → G'.get? b = h'.get? b := fun b hb => in1 b (decide_eq_true hb)
  have ge : G'.get? e = none := in2 e (by simp)
  have old : ∀ b o, hp.get? b = some o → G'.get? b = some o := fun b o q => (gk b (Nat.ne_of_lt (Nat.lt_of_lt_of_le (Heap.lt_size q) M.fresh))).trans (M.old b o q)
  have ob : ObjOk X.prog X.w (upd H1 d (.xd [(("most" : Str), .int n)])) G' d (.xd [(("most" : Str), .int n)]) :=
    ⟨_, M.ns1.at (fun o q => (gk d M.ne).trans q), fun f => relO_most (v := .int n) (v' := .int n t) ⟨t, rfl⟩ f⟩
  have J : Inv X pins σ (upd H1 d (.xd [(("most" : Str), .int n)])) ⟨G', g, dr, tk', os⟩ := I1.laid (t' := tk') old M.fd ob
  refine ⟨e, oe, fv, ⟨G', g, dr, tk', os⟩, _, .ref C, some d, rfl, J, fun b o q => ?_, ge, hoe, ⟨hc, hd⟩, hdat, hnone, ?_, rfl, I1.bare, raises_own T.sB T.ty, q1 d (I1.hok.fresh M.fd)⟩
  · have q' : G'.get? b = some o := q
    by_cases hb : b = e
    · rw [hb, ge] at q'; cases q'
    · exact (gk b hb).symm.trans q'
  · rw [upd_ne (Ne.symm M.ne)]
    exact I1.hok.fresh M.fresh
/-- `raise TooMany(e)` -/
def tRaiseMany (C : Addr) (W : WX) (ta : TA) : TS := fun _ σ H => tMany C ta σ H fun cls d H' => W cls d σ H'
theorem ps_raiseMany {a : Expr} {ta : TA} {W : WX} {p pos pos2 : Pos} {k : Nat} (hc : X.calm = true) (T : ManyAt X.K X.mg X.prog C fI) (hr : Room k X.A) (tk : Takes X W) (ha : PA X [a] ta)
    (hg : Gl X "TooMany" := by rfl) (he : starEach (a :: []) X.env = (false, eval a X.env) :: starEach [] X.env := by rfl)
    (hpl : (backTo pos (starEach [] X.env)).any (·.1) = false := by rfl) :
    PS X (.Raise (some (.Call (.Name "TooMany" p) [a] [] pos)) none pos2) (tRaiseMany C W ta) := ps_raise hc tk (pmk_many T hr ha hg he hpl)
end
end L2
set_option Elab.async false
set_option maxRecDepth 100000
set_option maxHeartbeats 2000000
/-! isinstance of a caught exception that has fields of its own; its fields -/
namespace L2
open PySem PySem.Spec PyProof.Rows
structure XcK (K : PySem.W.Frag) (C : Addr) : Prop where
  cl : (PySem.W.clsIn K C).isSome = true
  gt : PySem.W.findIn K (.ref C) "__getattribute__" = some (some (.builtin "BaseException.__getattribute__"))
  gn : PySem.W.findIn K (.ref C) "__getattr__" = some none
  sB : PySem.W.subIn K (.ref C) (.type "BaseException") = some true
  ac : PySem.W.findIn K (.ref C) "__class__" = some (some (.builtin "object.__class__"))
  ag : PySem.W.specialIn K (.builtin "object.__class__") "__get__" = some (some (.builtin "getset_descriptor.__get__"))
  at_ : PySem.W.takesIn K (.builtin "object.__class__") = some true
  ob : PySem.W.mroIn K C (.type "object") = some true
/-- isinstance(e, c), e the exception that the suite holds at a; c one class -/
def rIsX (K : PySem.W.Frag) (a : Addr) (cls : Value) (d : Option Addr) (C : Addr) : List V → Hp → VK → Prop := fun xs H Q =>
  cls = .ref C ∧ ∃ (dd : Addr) (fs : List (Str × V)) (c : V) (u : Value) (b : Bool), d = some dd ∧ H dd = some (.xd fs) ∧ xs = [.ref a, c] ∧ ClsV c u ∧ PySem.W.kitOne K (.ref C) u = some b ∧ Q (.bl b) H
/-- the same with a tuple of classes that was just laid -/
def rIsXT (K : PySem.W.Frag) (a : Addr) (cls : Value) (d : Option Addr) (C : Addr) : List V → Hp → VK → Prop := fun xs H Q =>
  cls = .ref C ∧ ∃ (dd : Addr) (fs : List (Str × V)) (tp : Addr) (cs : List V) (us : List Value) (b : Bool), d = some dd ∧ H dd = some (.xd fs) ∧ xs = [.ref a, .ref tp] ∧ H tp = some (.tup cs) ∧
    Paired ClsV cs us ∧ PySem.W.kitAny K (.ref C) us = some b ∧ Q (.bl b) H
section
variable {X : Cx} {a C : Addr} {oe : Obj} {cls : Value} {d : Option Addr} {pn : List (Addr × Obj)}
theorem inst_of {pins : List (Addr × Obj)} {σ : St} {H : Hp} {s : Shared} (I : Inv (X.suite a ((a, oe) :: pn)) pins σ H s) (hz : Zc (.ref C) d oe) (hf : ∃ vs, oe.data = .fields vs) {dd : Addr} {fs : List (Str × V)}
    (hd : d = some dd) (hH : H dd = some (.xd fs)) : ∃ od, PySem.W.InstAt s.heap a oe C (some od) := by
  subst hd
  obtain ⟨ha, _⟩ := I.pin (a, oe) (List.mem_append_left _ List.mem_cons_self)
  obtain ⟨vs, hv⟩ := hf
  obtain ⟨mA, hns, _⟩ := (show ObjOk X.prog X.w H s.heap dd (.xd fs) from I.hok dd _ hH)
  obtain ⟨od, ho, _⟩ := lookIn_ns hns
  exact ⟨od, ha, hz.1, by unfold PySem.W.notCls; rw [hv] <;> rfl, by rw [hz.2]; exact ho⟩
theorem call_isX (T : XcK X.K C) (hz : Zc cls d oe) (hf : ∃ vs, oe.data = .fields vs) : CallR (X.suite a ((a, oe) :: pn)) (.builtin "isinstance") (rIsX X.K a cls d C) := by
  intro pins s σ H xs us Q I r h
  obtain ⟨rfl, dd, fs, c, u, b, hd, hH, rfl, k, e, q⟩ := h
  obtain ⟨u1, u2, rfl, r1, r2⟩ := vals2 r
  cases (show u1 = Value.ref a from r1)
  have e2 := k.eq r2
  subst e2
  obtain ⟨od, J⟩ := inst_of I hz hf hd hH
  exact PySem.W.kia_one (PySem.W.kitx_exc T.cl T.gt T.gn T.sB T.ac T.ag T.at_ T.ob) I.kIn J e (fun z => nomatch z) fun tk => ⟨.bl b, H, I.tok tk, rfl, q⟩
theorem call_isXT (T : XcK X.K C) (hz : Zc cls d oe) (hf : ∃ vs, oe.data = .fields vs) : CallR (X.suite a ((a, oe) :: pn)) (.builtin "isinstance") (rIsXT X.K a cls d C) := by
  intro pins s σ H xs us Q I r h
  obtain ⟨rfl, dd, fs, tp, cs, ws, b, hd, hH, rfl, hT, k, e, q⟩ := h
  obtain ⟨u1, u2, rfl, r1, r2⟩ := vals2 r
  cases (show u1 = Value.ref a from r1)
  cases (show u2 = Value.ref tp from r2)
  obtain ⟨od, J⟩ := inst_of I hz hf hd hH
  obtain ⟨_, its, rv, o, h1, h2, n, h3⟩ := (show ObjOk X.prog X.w H s.heap tp (.tup cs) from I.hok tp _ hT)
  cases ClsV.all k rv
  obtain ⟨oc, od', dt, sl⟩ := o
  simp only at h2 h3
  subst h2 h3
  exact PySem.W.kia_tup (PySem.W.kitx_exc T.cl T.gt T.gn T.sB T.ac T.ag T.at_ T.ob) I.kIn J h1 e (fun z => nomatch z) fun tk => ⟨.bl b, H, I.tok tk, rfl, q⟩
end
end L2
set_option Elab.async false
set_option maxRecDepth 100000
set_option maxHeartbeats 4000000
namespace Sw
open PySem L2 PySem.Spec PyProof.Rows
def top (i : Nat) : Stmt := PySem.Challenge.pw_soleway_k77_forms_opened.main.body.getD i (.Pass ⟨0, 0, 0, 0⟩)
abbrev s_parts_of : Stmt := top 10
abbrev s_row_of : Stmt := top 11
abbrev s_laid : Stmt := top 12
abbrev s_opened : Stmt := top 16
abbrev s_many_opened : Stmt := top 17
abbrev s_opened1 : Stmt := top 18
abbrev s_up_to : Stmt := top 19
abbrev s_law_e_pen : Stmt := top 21
abbrev s_law_e_take : Stmt := top 22
abbrev s_law_e_signs : Stmt := top 23
abbrev s_law_e_form : Stmt := top 24
abbrev s_law_e_nothing : Stmt := top 25
abbrev s_law_e_told : Stmt := top 26
abbrev s_law_e_weight : Stmt := top 27
abbrev s_law_e_narrow : Stmt := top 28
abbrev s_law_e_opened : Stmt := top 29
abbrev s_law_e_size : Stmt := top 30
abbrev s_law_e_great : Stmt := top 31
abbrev s_law_e_told_opened : Stmt := top 32
abbrev s_law_e_opened_right : Stmt := top 33
abbrev s_law : Stmt := top 34
end Sw
set_option Elab.async false
set_option maxRecDepth 100000
set_option maxHeartbeats 4000000
namespace Sw
open PySem L2 PySem.Spec PyProof.Rows
section
variable {P : Program} {w : World} {K : PySem.W.Frag} {mg : Str → Option Value} {base : Heap}
abbrev n_parts_of : List Str := ["form"]
theorem sc_parts_of : FnScope n_parts_of ["form"] (defScope s_parts_of) := ⟨rfl, rfl, rfl, by decide +kernel, rfl, by decide +kernel, by decide +kernel⟩
def spParts (K : PySem.W.Frag) : Sp := fun vs H Q _ => ∃ v f, vs = [v] ∧ FmAt K H v f ∧ ∀ H' a ws, Same H H' → SqT K H' a ws → FmsAt K H' ws f.parts → Q (.ref a) H'
theorem kindNe {f : Fm} {x y : Str} (h : f.kind = x) (n : ¬ x = y) : decide (V.str f.kind = V.str y) = false := decide_eq_false fun e => n (by rw [← h]; exact V.str.inj e)
theorem ok_parts_of (F : DefAt K mg "parts_of" s_parts_of ["form"]) : DefOk P w K mg base "parts_of" 1 ["form"] (spParts K) := by
  refine F.ok sc_parts_of (fun vs H Q E h => ?_) (fun f cdv A outer s H vs Q E hr h => ?_)
  · obtain ⟨v, f, rfl, _⟩ := h
    rfl
  obtain ⟨v, f, rfl, hf, k⟩ := h
  refine ⟨_, (pss_cons (ps_if (pt_cmpR op_eq (pe_ix ix_tup (pv 0) pe_int (fun _ _ => rfl)) pe_str (nomark _)) (pss_one (ps_ret (pe_tup pa_nil))) pss_nil)
    (pss_cons (ps_if (pt_cmpR op_eq (pe_ix ix_tup (pv 0) pe_int (fun _ _ => rfl)) pe_str (nomark _)) (pss_one (ps_ret (pe_tup (pa_cons (pe_ix ix_tup (pv 0) pe_int (fun _ _ => rfl)) pa_nil)))) pss_nil)
    (pss_one (ps_ret (pe_ix ix_tup (pv 0) pe_int (fun _ _ => rfl)))))), ?_⟩
  cases f with
  | sign s =>
    obtain ⟨a, rfl, ht⟩ := fmSign hf
    refine ⟨_, rfl, a, _, 0, _, rfl, rfl, ht, atI_nat (j := 0) rfl, rfl, _, rfl, ?_⟩
    refine iteT ?_
    refine ⟨(by show 0 ≤ sizeLine; decide), fun p hp => ?_⟩
    exact k _ p [] (.new hp) (sT upd_same) .nil
  | row ps =>
    obtain ⟨a, b, vs, rfl, ht, hb, hv⟩ := fmRow hf
    refine ⟨_, rfl, a, _, 0, _, rfl, rfl, ht, atI_nat (j := 0) rfl, rfl, _, rfl, ?_⟩
    refine iteF ?_
    refine ⟨_, rfl, a, _, 0, _, rfl, rfl, ht, atI_nat (j := 0) rfl, rfl, _, rfl, ?_⟩
    refine iteF ?_
    refine ⟨_, rfl, a, _, 1, _, rfl, rfl, ht, atI_nat (j := 1) rfl, ?_⟩
    exact k _ b vs (Same.refl _) hb hv
  | pick ps =>
    obtain ⟨a, b, vs, rfl, ht, hb, hv⟩ := fmPick hf
    refine ⟨_, rfl, a, _, 0, _, rfl, rfl, ht, atI_nat (j := 0) rfl, rfl, _, rfl, ?_⟩
    refine iteF ?_
    refine ⟨_, rfl, a, _, 0, _, rfl, rfl, ht, atI_nat (j := 0) rfl, rfl, _, rfl, ?_⟩
    refine iteF ?_
    refine ⟨_, rfl, a, _, 1, _, rfl, rfl, ht, atI_nat (j := 1) rfl, ?_⟩
    exact k _ b vs (Same.refl _) hb hv
  | times p low high =>
    obtain ⟨a, u, rfl, ht, hp⟩ := fmTimes hf
    refine ⟨_, rfl, a, _, 0, _, rfl, rfl, ht, atI_nat (j := 0) rfl, rfl, _, rfl, ?_⟩
    refine iteF ?_
    refine ⟨_, rfl, a, _, 0, _, rfl, rfl, ht, atI_nat (j := 0) rfl, rfl, _, rfl, ?_⟩
    refine iteT ?_
    refine ⟨_, rfl, a, _, 1, _, rfl, rfl, ht, atI_nat (j := 1) rfl, (by show 1 ≤ sizeLine; decide), fun q hq => ?_⟩
    exact k _ q [u] (.new hq) (sT upd_same) (.cons (dpS (.new hq) hp) .nil)
end
end Sw
set_option Elab.async false
set_option maxRecDepth 100000
set_option maxHeartbeats 4000000
namespace Sw
open PySem L2 PySem.Spec PyProof.Rows
/-! ### the pieces of a form, laid -/
mutual
def Fm.size : Fm → Nat
  | .sign _ => 1
  | .row ps => 1 + Fm.sizes ps
  | .pick ps => 1 + Fm.sizes ps
  | .times p _ _ => 1 + p.size
def Fm.sizes : List Fm → Nat
  | [] => 0
  | p :: ps => p.size + Fm.sizes ps
end
theorem Fm.size_eq (f : Fm) : f.size = 1 + Fm.sizes f.parts := by
  cases f <;> simp [Fm.size, Fm.parts, Fm.sizes]
theorem Fm.size_pos (f : Fm) : 0 < f.size := by rw [Fm.size_eq]; omega
def starts : List Fm → Nat → List Nat
  | [], _ => []
  | p :: ps, n => n :: starts ps (n + p.size)
mutual
def laidF : Fm → Nat → List (Fm × List Nat)
  | .sign s, _ => [(.sign s, [])]
  | .row ps, n => (.row ps, starts ps (n + 1)) :: laidFs ps (n + 1)
  | .pick ps, n => (.pick ps, starts ps (n + 1)) :: laidFs ps (n + 1)
  | .times p l h, n => (.times p l h, [n + 1]) :: laidF p (n + 1)
def laidFs : List Fm → Nat → List (Fm × List Nat)
  | [], _ => []
  | p :: ps, n => laidF p n ++ laidFs ps (n + p.size)
end
theorem laidF_eq (f : Fm) (n : Nat) : laidF f n = (f, starts f.parts (n + 1)) :: laidFs f.parts (n + 1) := by
  cases f <;> simp [laidF, Fm.parts, starts, laidFs]
mutual
theorem laidF_length : ∀ (f : Fm) (n : Nat), (laidF f n).length = f.size
  | .sign s, n => by simp [laidF, Fm.size]
  | .row ps, n => by simp [laidF, Fm.size, laidFs_length ps]; omega
  | .pick ps, n => by simp [laidF, Fm.size, laidFs_length ps]; omega
  | .times p l h, n => by simp [laidF, Fm.size, laidF_length p]; omega
theorem laidFs_length : ∀ (ps : List Fm) (n : Nat), (laidFs ps n).length = Fm.sizes ps
  | [], n => by simp [laidFs, Fm.sizes]
  | p :: ps, n => by simp [laidFs, Fm.sizes, laidF_length p, laidFs_length ps]
end
abbrev Lay := List (Fm × List Nat)
def addk (n : Nat) (t : Fm × List Nat) : Fm × List Nat := (t.1, t.2 ++ [n])
/-- what comes of the pieces told and the pieces ahead -/
def comp : Lay → List (Fm × Nat) → Lay
  | T, [] => T
  | T, (p, ar) :: S => comp (T.modify ar (addk T.length) ++ laidF p T.length) S
theorem modify_mid {α : Type} (A B : List α) (x : α) (f : α → α) : (A ++ x :: B).modify A.length f = A ++ f x :: B := by
  induction A with
  | nil => rfl
  | cons a A ih => simp [List.modify_succ_cons, ih]
theorem comp_parts (p : Fm) (n : Nat) (T0 : Lay) (h0 : T0.length = n) : ∀ (ps : List Fm) (ks : List Nat) (R : Lay) (S : List (Fm × Nat)),
    comp (T0 ++ (p, ks) :: R) (ps.map (fun q => (q, n)) ++ S) = comp (T0 ++ (p, ks ++ starts ps (n + 1 + R.length)) :: (R ++ laidFs ps (n + 1 + R.length))) S
  | [], ks, R, S => by simp [starts, laidFs]
  | q :: qs, ks, R, S => by
    have hl : (T0 ++ (p, ks) :: R).length = n + 1 + R.length := by simp [h0]; omega
    show comp ((T0 ++ (p, ks) :: R).modify n (addk (T0 ++ (p, ks) :: R).length) ++ laidF q (T0 ++ (p, ks) :: R).length) (qs.map (fun q => (q, n)) ++ S) = _
    have e : (T0 ++ (p, ks) :: R).modify n (addk (n + 1 + R.length)) = T0 ++ (p, ks ++ [n + 1 + R.length]) :: R := by
      rw [← h0, modify_mid]
      rfl
    rw [hl, e, List.append_assoc, List.cons_append, comp_parts p n T0 h0 qs]
    have l2 : n + 1 + (R ++ laidF q (n + 1 + R.length)).length = n + 1 + R.length + q.size := by rw [List.length_append, laidF_length]; omega
    rw [l2]
    simp [starts, laidFs, List.append_assoc]
theorem comp_step (T : Lay) (p : Fm) (ar : Nat) (S : List (Fm × Nat)) : comp T ((p, ar) :: S) = comp (T.modify ar (addk T.length) ++ [(p, [])]) (p.parts.map (fun q => (q, T.length)) ++ S) := by
  have h := comp_parts p T.length (T.modify ar (addk T.length)) (by simp) p.parts [] [] S
  rw [h]
  show comp (T.modify ar (addk T.length) ++ laidF p T.length) S = _
  rw [laidF_eq]
  simp
theorem comp_length : ∀ (T : Lay) (S : List (Fm × Nat)), (comp T S).length = T.length + Fm.sizes (S.map (·.1))
  | T, [] => by simp [comp, Fm.sizes]
  | T, (p, ar) :: S => by
    rw [comp, comp_length _ S]
    simp [laidF_length, Fm.sizes]
    omega
theorem sizes_append : ∀ (a b : List Fm), Fm.sizes (a ++ b) = Fm.sizes a + Fm.sizes b
  | [], b => by simp [Fm.sizes]
  | p :: a, b => by simp [Fm.sizes, sizes_append a b]; omega

/-! ### the same in the heap -/
theorem fmsMap {K : PySem.W.Frag} {H H' : Hp} (s : ∀ a xs, Rd H a (.tup xs) → Rd H' a (.tup xs)) : (∀ (f : Fm) (v : V), FmAt K H v f → FmAt K H' v f) := by
  have key : ∀ (a : Addr) (xs : List V), SqT K H a xs → SqT K H' a xs := fun a xs h => by
    rcases h with h | h
    · exact .inl (s _ _ h)
    · exact .inr h
  intro f
  induction f using Fm.rec (motive_2 := fun fs => ∀ vs, FmsAt K H vs fs → FmsAt K H' vs fs) with
  | sign x => intro v h; obtain ⟨a, rfl, h1⟩ := fmSign h; exact .tup (key _ _ h1) (.cons (.str _) (.cons (.str _) .nil))
  | row ps ih => intro v h; obtain ⟨a, b, vs, rfl, h1, h2, h3⟩ := fmRow h; exact .tup (key _ _ h1) (.cons (.str _) (.cons (.tup (key _ _ h2) (ih _ h3)) .nil))
  | pick ps ih => intro v h; obtain ⟨a, b, vs, rfl, h1, h2, h3⟩ := fmPick h; exact .tup (key _ _ h1) (.cons (.str _) (.cons (.tup (key _ _ h2) (ih _ h3)) .nil))
  | times p l u ih => intro v h; obtain ⟨a, w, rfl, h1, h2⟩ := fmTimes h; exact .tup (key _ _ h1) (.cons (.str _) (.cons (ih _ h2) (.cons (.int _) (.cons (highDp u) .nil))))
  | nil => rename_i h; cases dpNil h; exact .nil
  | cons p ps ih1 ih2 => rename_i h; obtain ⟨v, us, rfl, h1, h2⟩ := dpCons h; exact .cons (ih1 _ h1) (ih2 _ h2)
theorem fmsAll {K : PySem.W.Frag} {H H' : Hp} (s : ∀ a xs, Rd H a (.tup xs) → Rd H' a (.tup xs)) : ∀ (fs : List Fm) (vs : List V), FmsAt K H vs fs → FmsAt K H' vs fs
  | [], _, h => by cases dpNil h; exact .nil
  | f :: fs, _, h => by
    obtain ⟨v, us, rfl, h1, h2⟩ := dpCons h
    exact .cons (fmsMap s f v h1) (fmsAll s fs us h2)
theorem keepTup {H : Hp} {p : Addr} {xs : List V} {o : HO} (h : H p = some (.lst xs)) : ∀ a ys, Rd H a (.tup ys) → Rd (upd H p o) a (.tup ys) := fun a ys r => by
  have n : a ≠ p := by
    rintro rfl
    rcases r with r | ⟨o, r⟩ <;> (rw [h] at r; cases r)
  rcases r with r | ⟨o, r⟩
  · exact .inl (by rw [upd_ne n]; exact r)
  · exact .inr ⟨o, by rw [upd_ne n]; exact r⟩
theorem sqTW {K : PySem.W.Frag} {H : Hp} {p a : Addr} {xs ys : List V} {o : HO} (h : H p = some (.lst xs)) (t : SqT K H a ys) : SqT K (upd H p o) a ys := by
  rcases t with t | t
  · exact .inl (keepTup h _ _ t)
  · exact .inr t
/-- a list may be written: forms stay -/
theorem fmW {K : PySem.W.Frag} {H : Hp} {p : Addr} {xs : List V} {o : HO} (h : H p = some (.lst xs)) {f : Fm} {v : V} (hf : FmAt K H v f) : FmAt K (upd H p o) v f := by
  refine fmsMap (fun a ys r => ?_) f v hf
  have n : a ≠ p := by
    rintro rfl
    rcases r with r | ⟨o, r⟩ <;> (rw [h] at r; cases r)
  rcases r with r | ⟨o, r⟩
  · exact .inl (by rw [upd_ne n]; exact r)
  · exact .inr ⟨o, by rw [upd_ne n]; exact r⟩
abbrev Row := Addr × V × Addr
def kidsV (ks : List Nat) : List V := ks.map fun (n : Nat) => V.int (n : Int)
structure RowsAt (K : PySem.W.Frag) (H : Hp) (rs : List Row) (T : Lay) : Prop where
  len : rs.length = T.length
  at_ : ∀ (i : Nat) (r : Row) (t : Fm × List Nat), rs[i]? = some r → T[i]? = some t → H r.1 = some (.tup [r.2.1, .ref r.2.2]) ∧ FmAt K H r.2.1 t.1 ∧ H r.2.2 = some (.lst (kidsV t.2))
theorem RowsAt.same {K : PySem.W.Frag} {H H' : Hp} {rs : List Row} {T : Lay} (R : RowsAt K H rs T) (s : Same H H') : RowsAt K H' rs T :=
  ⟨R.len, fun i r t h1 h2 => by obtain ⟨a, b, c⟩ := R.at_ i r t h1 h2; exact ⟨s _ _ a, dpS s b, s _ _ c⟩⟩
/-- another list is written -/
theorem RowsAt.other {K : PySem.W.Frag} {H : Hp} {rs : List Row} {T : Lay} {p : Addr} {xs : List V} {o : HO} (R : RowsAt K H rs T) (hp : H p = some (.lst xs)) (n : ∀ r, r ∈ rs → r.2.2 ≠ p) : RowsAt K (upd H p o) rs T :=
  ⟨R.len, fun i r t h1 h2 => by
    obtain ⟨a, b, c⟩ := R.at_ i r t h1 h2
    exact ⟨by rw [upd_ne (ne_of a hp (by intro z; cases z))]; exact a, fmW hp b, by rw [upd_ne (n r (List.mem_of_getElem? h1))]; exact c⟩⟩
theorem kidsV_app (ks : List Nat) (n : Nat) : kidsV (ks ++ [n]) = kidsV ks ++ [V.int (n : Int)] := by simp [kidsV]
/-- the list of one piece's numbers grows -/
theorem RowsAt.grow {K : PySem.W.Frag} {H : Hp} {rs : List Row} {T : Lay} {ar n : Nat} {r : Row} {t : Fm × List Nat} (R : RowsAt K H rs T) (h1 : rs[ar]? = some r) (h2 : T[ar]? = some t) (nd : (rs.map (·.2.2)).Nodup) :
    RowsAt K (upd H r.2.2 (.lst (kidsV t.2 ++ [V.int (n : Int)]))) rs (T.modify ar (addk n)) := by
  refine ⟨by rw [List.length_modify]; exact R.len, fun i r' t' g1 g2 => ?_⟩
  obtain ⟨a, b, c⟩ := R.at_ ar r t h1 h2
  rw [List.getElem?_modify] at g2
  obtain ⟨t0, g3, g4⟩ : ∃ t0, T[i]? = some t0 ∧ (if ar = i then addk n t0 else t0) = t' := by
    cases e : T[i]? with
    | none => rw [e] at g2; cases g2
    | some t0 => rw [e] at g2; exact ⟨t0, rfl, by simpa using g2⟩
  obtain ⟨a', b', c'⟩ := R.at_ i r' t0 g1 g3
  have hb : FmAt K (upd H r.2.2 (.lst (kidsV t.2 ++ [V.int (n : Int)]))) r'.2.1 t0.1 := fmW c b'
  have ha : upd H r.2.2 (.lst (kidsV t.2 ++ [V.int (n : Int)])) r'.1 = some (.tup [r'.2.1, .ref r'.2.2]) := by rw [upd_ne (ne_of a' c (by intro z; cases z))]; exact a'
  by_cases hi : ar = i
  · subst hi
    rw [if_pos rfl] at g4
    subst g4
    cases h1.symm.trans g1
    cases h2.symm.trans g3
    refine ⟨ha, hb, ?_⟩
    rw [upd_same]
    show some (HO.lst _) = some (HO.lst (kidsV (t.2 ++ [n])))
    rw [kidsV_app]
  · rw [if_neg hi] at g4
    subst g4
    have ne : r'.2.2 ≠ r.2.2 := fun q => hi (nd_ix nd (by rw [List.getElem?_map, h1]; rfl) (by rw [List.getElem?_map, g1]; exact congrArg some q))
    exact ⟨ha, hb, by rw [upd_ne ne]; exact c'⟩
/-- one more piece -/
theorem RowsAt.snoc {K : PySem.W.Frag} {H : Hp} {rs : List Row} {T : Lay} {r : Row} {t : Fm × List Nat} (R : RowsAt K H rs T) (a : H r.1 = some (.tup [r.2.1, .ref r.2.2])) (b : FmAt K H r.2.1 t.1) (c : H r.2.2 = some (.lst (kidsV t.2))) : RowsAt K H (rs ++ [r]) (T ++ [t]) := by
  refine ⟨by rw [List.length_append, List.length_append, R.len]; rfl, fun i r' t' g1 g2 => ?_⟩
  by_cases hi : i < rs.length
  · rw [List.getElem?_append_left hi] at g1
    rw [List.getElem?_append_left (by rw [← R.len]; exact hi)] at g2
    exact R.at_ i r' t' g1 g2
  · rw [List.getElem?_append_right (by omega)] at g1
    rw [List.getElem?_append_right (by rw [← R.len]; omega), ← R.len] at g2
    have h0 : i - rs.length = 0 := by
      cases e : i - rs.length with
      | zero => rfl
      | succ j => rw [e] at g1; simp at g1
    rw [h0] at g1 g2
    cases g1
    cases g2
    exact ⟨a, b, c⟩
/-- the pieces ahead: pairs of a form and the number of the piece around it -/
abbrev StkAt (K : PySem.W.Frag) (H : Hp) (as : List Addr) (S : List (Fm × Nat)) : Prop := Paired (fun a s => ∃ u, H a = some (.tup [u, .int (s.2 : Int)]) ∧ FmAt K H u s.1) as S
theorem pairedMap {α β : Type} {F G : α → β → Prop} : ∀ {l₁ : List α} {l₂ : List β}, Paired F l₁ l₂ → (∀ a b, F a b → G a b) → Paired G l₁ l₂
  | _, _, .nil, _ => .nil
  | _, _, .cons r t, f => .cons (f _ _ r) (pairedMap t f)
theorem pairedApp {α β : Type} {F : α → β → Prop} : ∀ {a₁ : List α} {b₁ : List β} {a₂ : List α} {b₂ : List β}, Paired F a₁ b₁ → Paired F a₂ b₂ → Paired F (a₁ ++ a₂) (b₁ ++ b₂)
  | _, _, _, _, .nil, g => g
  | _, _, _, _, .cons r t, g => .cons r (pairedApp t g)
theorem StkAt.same {K : PySem.W.Frag} {H H' : Hp} {as : List Addr} {S : List (Fm × Nat)} (R : StkAt K H as S) (s : Same H H') : StkAt K H' as S := pairedMap R fun a b ⟨u, h1, h2⟩ => ⟨u, s _ _ h1, dpS s h2⟩
theorem StkAt.w {K : PySem.W.Frag} {H : Hp} {as : List Addr} {S : List (Fm × Nat)} {p : Addr} {xs : List V} {o : HO} (R : StkAt K H as S) (hp : H p = some (.lst xs)) : StkAt K (upd H p o) as S :=
  pairedMap R fun a b ⟨u, h1, h2⟩ => ⟨u, by rw [upd_ne (ne_of h1 hp (by intro z; cases z))]; exact h1, fmW hp h2⟩
/-- what laid tells: a list of pairs -/
def LaidAt (K : PySem.W.Frag) (H : Hp) (a : Addr) (T : Lay) : Prop := ∃ rs : List Row, H a = some (.lst (rs.map fun r => V.ref r.1)) ∧ RowsAt K H rs T
theorem LaidAt.same {K : PySem.W.Frag} {H H' : Hp} {a : Addr} {T : Lay} (h : LaidAt K H a T) (s : Same H H') : LaidAt K H' a T := by
  obtain ⟨rs, h1, h2⟩ := h
  exact ⟨rs, s _ _ h1, h2.same s⟩
end Sw
set_option Elab.async false
set_option maxRecDepth 100000
set_option maxHeartbeats 4000000
namespace Sw
open PySem L2 PySem.Spec PyProof.Rows
section
variable {P : Program} {w : World} {K : PySem.W.Frag} {mg : Str → Option Value} {base : Heap}
abbrev n_laid : List Str := ["form", "told", "ahead", "piece", "around", "number", "part"]
theorem sc_laid : FnScope n_laid ["form"] (defScope s_laid) := ⟨rfl, rfl, rfl, by decide +kernel, rfl, by decide +kernel, by decide +kernel⟩
def spLaid (K : PySem.W.Frag) : Sp := fun vs H Q _ => ∃ v f, vs = [v] ∧ FmAt K H v f ∧ f.size ≤ 1000000 ∧ ∀ H' a, Same H H' → H a = none → LaidAt K H' a (laidF f 0) → Q (.ref a) H'
theorem len_sizes : ∀ ps : List Fm, ps.length ≤ Fm.sizes ps
  | [] => Nat.le_refl 0
  | x :: xs => by
    have := len_sizes xs
    have := x.size_pos
    simp [Fm.sizes]
    omega
/-- the parts are put ahead, the first one last -/
theorem laid_push {D : Ends} {v0 vt ov : Option V} {aA : Addr} {n : Nat} {o6 : Option V} {H : Hp} {p : Fm} {uu : V} {base0 : List V} (hu : FmAt K H uu p) (ha : H aA = some (.lst base0)) (hz : base0.length + p.parts.length ≤ 16000000)
    (hd : ∀ H' as o6', But aA H H' → H' aA = some (.lst (base0 ++ (as.map V.ref).reverse)) → StkAt K H' as (p.parts.map fun q => (q, n)) → D.nx [v0, vt, some (.ref aA), some uu, ov, some (.int (n : Int)), o6'] H') :
    tFor (iTup K (tRevT K (tCall (spParts K) [] E0 (tCons (tVar 3) tNil)))) (gName 6) (tDrop (tBM K "list" rAppend (tVar 2) (tCons (tTup (tCons (tVar 6) (tCons (tVar 5) tNil))) tNil))) D [v0, vt, some (.ref aA), some uu, ov, some (.int (n : Int)), o6] H := by
  refine ⟨_, rfl, uu, p, rfl, hu, fun H1 a ws s1 ht hw => ⟨a, ws, rfl, ht, fun q hq => ⟨q, rfl, ⟨_, sT upd_same⟩, ?_⟩⟩⟩
  have s2 : Same H1 (upd H1 q (.tup ws.reverse)) := .new hq
  have hl := dpsLen hw
  rw [Fm.dats_map, List.length_map] at hl
  refine for_tup (K := K) (a := q) (xs := ws.reverse) (fun i σ H' => ∃ as o6', σ = [v0, vt, some (.ref aA), some uu, ov, some (.int (n : Int)), o6'] ∧ But aA H H' ∧ SqT K H' q ws.reverse ∧ FmsAt K H' ws p.parts ∧ H' aA = some (.lst (base0 ++ (as.map V.ref).reverse)) ∧ StkAt K H' as ((p.parts.map fun x => (x, n)).drop (ws.length - i)))
    ⟨[], o6, rfl, .of (s1.trans s2), sT upd_same, dpsS s2 hw, ?_, ?_⟩ (fun i σ H' _ ⟨_, _, _, _, h, _⟩ => h) ?_ ?_
  · have := s2 _ _ (s1 _ _ ha)
    simpa using this
  · rw [List.drop_eq_nil_of_le (by simp [hl])]
    exact .nil
  · rintro i x σ H' hx ⟨as, o6', rfl, b1, hq', hw', ha', hs'⟩
    have hi : i < ws.length := by
      have := (List.getElem?_eq_some_iff.mp hx).1
      simpa using this
    have hx2 : ws[ws.length - 1 - i]? = some x := by rw [List.getElem?_reverse hi] at hx; exact hx
    obtain ⟨d, hd1, hd2⟩ := dpsAtV hw' hx2
    rw [Fm.dats_map, List.getElem?_map] at hd1
    obtain ⟨y, hy1, hy2⟩ : ∃ y, p.parts[ws.length - 1 - i]? = some y ∧ y.dat = d := by
      cases e : p.parts[ws.length - 1 - i]? with
      | none => rw [e] at hd1; cases hd1
      | some y => rw [e] at hd1; exact ⟨y, rfl, Option.some.inj hd1⟩
    subst hy2
    have hlas : as.length ≤ p.parts.length := by
      have e1 : as.length = ((p.parts.map fun x => (x, n)).drop (ws.length - i)).length := Paired.length hs'
      rw [e1, List.length_drop, List.length_map]
      omega
    -- ahead.append((part, number))
    refine ⟨_, rfl, .inl ⟨rfl, _, sL ha'⟩, _, rfl, _, rfl, (by show 2 ≤ sizeLine; decide), fun t ht => ?_⟩
    have s3 : Same H' (upd H' t (.tup [x, .int (n : Int)])) := .new ht
    refine ⟨aA, _, _, rfl, rfl, s3 _ _ ha', szb (by simp; omega), ?_⟩
    have hta : aA ≠ t := ne_of_none ha' ht
    have hb : But aA H (upd (upd H' t (.tup [x, .int (n : Int)])) aA (.lst (base0 ++ (as.map V.ref).reverse ++ [.ref t]))) := .upd (b1.trans (.of s3))
    refine ⟨t :: as, some x, rfl, hb, ?_, ?_, ?_, ?_⟩
    · exact sqTW (s3 _ _ ha') (s3.sqT hq')
    · exact fmsAll (keepTup (s3 _ _ ha')) _ _ (dpsS s3 hw')
    · rw [upd_same]
      simp
    · have e : (p.parts.map fun x => (x, n)).drop (ws.length - (i + 1)) = (y, n) :: (p.parts.map fun x => (x, n)).drop (ws.length - i) := by
        have h1 : ws.length - (i + 1) < (p.parts.map fun x => (x, n)).length := by rw [List.length_map]; omega
        rw [List.drop_eq_getElem_cons h1]
        have h2 : ws.length - (i + 1) + 1 = ws.length - i := by omega
        rw [h2]
        congr 1
        have h3 : (p.parts.map fun x => (x, n))[ws.length - (i + 1)]? = some (y, n) := by
          rw [List.getElem?_map, show ws.length - (i + 1) = ws.length - 1 - i by omega, hy1]
          rfl
        exact Option.some.inj ((List.getElem?_eq_getElem h1).symm.trans h3)
      rw [e]
      refine .cons ⟨x, ?_, ?_⟩ ?_
      · rw [upd_ne hta.symm, upd_same]
      · exact fmW (s3 _ _ ha') (dpS s3 hd2)
      · exact StkAt.w (StkAt.same hs' s3) (s3 _ _ ha')
  · rintro σ H' ⟨as, o6', rfl, b1, _, _, ha', hs'⟩
    refine hd H' as o6' b1 ha' ?_
    have e : ws.length - ws.reverse.length = 0 := by simp
    rw [e] at hs'
    exact hs'
theorem ok_laid (F : DefAt K mg "laid" s_laid ["form"]) (d_parts_of : DefOk P w K mg base "parts_of" 1 ["form"] (spParts K)) (b_len : mg "len" = none) : DefOk P w K mg base "laid" 2 ["form"] (spLaid K) := by
  refine F.ok sc_laid (fun vs H Q E h => ?_) (fun f cdv A outer s H vs Q E hr h => ?_)
  · obtain ⟨v, f, rfl, _⟩ := h
    rfl
  obtain ⟨v, f, rfl, hf, hsz, k⟩ := h
  refine ⟨_, (pss_cons (ps_set (i := 1) sc_laid.nd rfl (Or.inl rfl) (pe_lst pa_nil))
    (pss_cons (ps_set (i := 2) sc_laid.nd rfl (Or.inl rfl) (pe_lst (pa_cons (pe_tup (pa_cons (pv 0) (pa_cons pe_int pa_nil))) pa_nil)))
    (pss_cons (ps_while PassesOwn.never (pt_truth (pv 2) (by intro _; rfl)) (pss_cons (ps_asg (pe_bm0 PySem.F.plainAttrs_list PySem.F.slot_list_pop PySem.F.type_list_pop mt_pop (pv 2)) (pg_tup rfl (pgs_cons (pg_name (i := 3) sc_laid.nd rfl (Or.inl rfl)) (pgs_cons (pg_name (i := 4) sc_laid.nd rfl (Or.inl rfl)) pgs_nil))))
    (pss_cons (ps_set (i := 5) sc_laid.nd rfl (Or.inl rfl) (pe_callB call_len_seq (by rfl) b_len PySem.boot_len (pa_cons (pv 1) pa_nil)))
    (pss_cons (ps_expr (pe_bm PySem.F.plainAttrs_list PySem.F.slot_list_append PySem.F.type_list_append mt_append (pv 1) (pa_cons (pe_tup (pa_cons (pv 3) (pa_cons (pe_lst pa_nil) pa_nil))) pa_nil)))
    (pss_cons (ps_if (pt_cmpR op_gt (pv 5) pe_int (nomark _)) (pss_one (ps_expr (pe_bm PySem.F.plainAttrs_list PySem.F.slot_list_append PySem.F.type_list_append mt_append (pe_ix ix_tup (pe_ix ix_list (pv 1) (pv 4) (fun _ _ => rfl)) pe_int (fun _ _ => rfl)) (pa_cons (pv 5) pa_nil)))) pss_nil)
    (pss_one (ps_for PassesOwn.never rfl (pi_tup (pe_revT (pe_callD d_parts_of hr rfl (pa_cons (pv 3) pa_nil)))) (pg_name (i := 6) sc_laid.nd rfl (Or.inl rfl))
      (pss_one (ps_expr (pe_bm PySem.F.plainAttrs_list PySem.F.slot_list_append PySem.F.type_list_append mt_append (pv 2) (pa_cons (pe_tup (pa_cons (pv 6) (pa_cons (pv 5) pa_nil))) pa_nil)))))))))))
    (pss_one (ps_ret (pv 1)))))), ?_⟩
  refine ⟨(by show 0 ≤ sizeLine; decide), fun tA htA => ?_⟩
  have s1 : Same H (upd H tA (.lst [])) := .new htA
  refine ⟨_, rfl, (by show 2 ≤ sizeLine; decide), fun q0 hq0 => ⟨(by show 1 ≤ sizeLine; decide), fun aA haA => ?_⟩⟩
  have s2 : Same (upd H tA (.lst [])) (upd (upd H tA (.lst [])) q0 (.tup [v, .int 0])) := .new hq0
  have s3 : Same (upd (upd H tA (.lst [])) q0 (.tup [v, .int 0])) (upd (upd (upd H tA (.lst [])) q0 (.tup [v, .int 0])) aA (.lst [.ref q0])) := .new haA
  have hA0 : H aA = none := s1.free (s2.free haA)
  refine ⟨fun m σ H1 => ∃ (T : Lay) (S : List (Fm × Nat)) (rs : List Row) (as : List Addr) (o3 o4 o5 o6 : Option V), σ = [some v, some (.ref tA), some (.ref aA), o3, o4, o5, o6] ∧ m = Fm.sizes (S.map (·.1)) ∧ Same H H1 ∧ comp T S = laidF f 0 ∧
      H1 tA = some (.lst (rs.map fun r => V.ref r.1)) ∧ RowsAt K H1 rs T ∧ (rs.map (·.2.2)).Nodup ∧ (∀ r, r ∈ rs → H r.2.2 = none ∧ r.2.2 ≠ tA ∧ r.2.2 ≠ aA) ∧ H1 aA = some (.lst (as.map V.ref).reverse) ∧ StkAt K H1 as S ∧ (∀ s, s ∈ S → s.2 < T.length ∨ s.2 = 0) ∧ (∀ t, t ∈ T → t.2.length ≤ T.length),
    ⟨_, [], [(f, 0)], [], [q0], none, none, none, none, rfl, rfl, s1.trans (s2.trans s3), ?_, ?_, ⟨rfl, fun i r t h => by simp at h⟩, List.nodup_nil, (fun r h => by simp at h), ?_, ?_, ?_, (fun t h => by simp at h)⟩, ?_⟩
  · simp [comp]
  · exact s3 _ _ (s2 _ _ upd_same)
  · rw [upd_same]
    rfl
  · refine .cons ⟨v, s3 _ _ upd_same, ?_⟩ .nil
    exact dpS (s1.trans (s2.trans s3)) hf
  · intro s hs
    simp at hs
    subst hs
    exact .inr rfl
  rintro m σ H1 ⟨T, S, rs, as, o3, o4, o5, o6, rfl, hm, g1, hc, hT, hR, nd, hfr, hA, hS, hlt, hkl⟩
  have hcl := congrArg List.length hc
  rw [comp_length, laidF_length] at hcl
  have htne : tA ≠ aA := fun e => by
    have z := s3 _ _ (s2 _ _ (upd_same (H := H) (a := tA) (o := .lst [])))
    rw [e] at z
    rw [upd_same] at z
    cases z
  cases hS with
  | nil =>
    refine ⟨_, rfl, false, .inl ⟨_, sL hA, rfl⟩, ?_⟩
    refine iteF ?_
    refine ⟨_, rfl, ?_⟩
    have e : T = laidF f 0 := hc
    subst e
    exact k H1 tA g1 htA ⟨rs, hT, hR⟩
  | cons hd hS' =>
    rename_i a sp as' S'
    obtain ⟨p, ar⟩ := sp
    obtain ⟨u, ha, hu⟩ := hd
    have eA : (List.map V.ref (a :: as')).reverse = (as'.map V.ref).reverse ++ [.ref a] := by simp
    rw [eA] at hA
    refine ⟨_, rfl, true, .inl ⟨_, sL hA, by simp⟩, ?_⟩
    refine iteT ?_
    refine ⟨fun σ' H' => ∃ m', m' < m ∧ ∃ (T : Lay) (S : List (Fm × Nat)) (rs : List Row) (as : List Addr) (o3 o4 o5 o6 : Option V), σ' = [some v, some (.ref tA), some (.ref aA), o3, o4, o5, o6] ∧ m' = Fm.sizes (S.map (·.1)) ∧ Same H H' ∧ comp T S = laidF f 0 ∧
      H' tA = some (.lst (rs.map fun r => V.ref r.1)) ∧ RowsAt K H' rs T ∧ (rs.map (·.2.2)).Nodup ∧ (∀ r, r ∈ rs → H r.2.2 = none ∧ r.2.2 ≠ tA ∧ r.2.2 ≠ aA) ∧ H' aA = some (.lst (as.map V.ref).reverse) ∧ StkAt K H' as S ∧ (∀ s, s ∈ S → s.2 < T.length ∨ s.2 = 0) ∧ (∀ t, t ∈ T → t.2.length ≤ T.length),
      fun σ' H' h => h, ?_⟩
    -- piece, around = ahead.pop()
    have eL : ((as'.map V.ref).reverse ++ [V.ref a])[((as'.map V.ref).reverse ++ [V.ref a]).length - 1]? = some (V.ref a) := by simp
    have eD : ((as'.map V.ref).reverse ++ [V.ref a]).dropLast = (as'.map V.ref).reverse := by simp
    refine ⟨_, rfl, .inl ⟨rfl, _, sL hA⟩, aA, _, _, rfl, rfl, hA, eL, ?_⟩
    rw [eD]
    have ha2 : (upd H1 aA (.lst (as'.map V.ref).reverse)) a = some (.tup [u, .int (ar : Int)]) := by rw [upd_ne (ne_of ha hA (by intro z; cases z))]; exact ha
    have hT2 : (upd H1 aA (.lst (as'.map V.ref).reverse)) tA = some (.lst (rs.map fun r => V.ref r.1)) := by rw [upd_ne htne]; exact hT
    have hR2 : RowsAt K (upd H1 aA (.lst (as'.map V.ref).reverse)) rs T := hR.other hA fun r hr => (hfr r hr).2.2
    have hS2 : StkAt K (upd H1 aA (.lst (as'.map V.ref).reverse)) as' S' := StkAt.w hS' hA
    have hu2 : FmAt K (upd H1 aA (.lst (as'.map V.ref).reverse)) u p := fmW hA hu
    have g2 : Same H (upd H1 aA (.lst (as'.map V.ref).reverse)) := g1.mut hA0
    refine ⟨a, _, rfl, sT ha2, rfl, _, _, rfl, _, _, rfl, rfl, ?_⟩
    -- number = len(told)
    refine ⟨_, rfl, tA, _, rfl, .inl (sL hT2), ?_⟩
    have en : (rs.map fun r => V.ref r.1).length = T.length := by rw [List.length_map, hR.len]
    rw [en]
    generalize hH2 : upd H1 aA (.lst (as'.map V.ref).reverse) = H2 at *
    have hA2 : H2 aA = some (.lst (as'.map V.ref).reverse) := by rw [← hH2, upd_same]
    -- told.append((piece, []))
    refine ⟨_, rfl, .inl ⟨rfl, _, sL hT2⟩, _, rfl, (by show 0 ≤ sizeLine; decide), fun l hl => ⟨(by show 2 ≤ sizeLine; decide), fun t ht => ?_⟩⟩
    have c1 : Same H2 (upd H2 l (.lst [])) := .new hl
    have c2 : Same (upd H2 l (.lst [])) (upd (upd H2 l (.lst [])) t (.tup [u, .ref l])) := .new ht
    have c3 := c1.trans c2
    have hl3 : (upd (upd H2 l (.lst [])) t (.tup [u, .ref l])) l = some (.lst []) := c2 _ _ upd_same
    have ht3 : (upd (upd H2 l (.lst [])) t (.tup [u, .ref l])) t = some (.tup [u, .ref l]) := upd_same
    generalize hH3 : upd (upd H2 l (.lst [])) t (.tup [u, .ref l]) = H3 at *
    have ntl : tA ≠ l := ne_of_none hT2 hl
    have nal : aA ≠ l := ne_of_none hA2 hl
    have hl0 : H l = none := g2.free hl
    have ntt : tA ≠ t := ne_of (c3 _ _ hT2) ht3 (by intro z; cases z)
    have nat : aA ≠ t := ne_of (c3 _ _ hA2) ht3 (by intro z; cases z)
    have hnl : ∀ r, r ∈ rs → r.2.2 ≠ l := fun r hr e => by
      obtain ⟨i, hi⟩ := List.getElem?_of_mem hr
      have hi2 : i < T.length := by rw [← hR.len]; exact (List.getElem?_eq_some_iff.mp hi).1
      obtain ⟨_, _, z⟩ := hR2.at_ i r _ hi (List.getElem?_eq_getElem hi2)
      rw [e, hl] at z
      cases z
    refine ⟨tA, _, _, rfl, rfl, c3 _ _ hT2, szb (by rw [en]; omega), ?_⟩
    have hT3 := c3 _ _ hT2
    have hR4 : RowsAt K (upd H3 tA (.lst ((rs.map fun r => V.ref r.1) ++ [.ref t]))) rs T := (hR2.same c3).other hT3 fun r hr => (hfr r hr).2.1
    have hS4 : StkAt K (upd H3 tA (.lst ((rs.map fun r => V.ref r.1) ++ [.ref t]))) as' S' := StkAt.w (StkAt.same hS2 c3) hT3
    have hu4 : FmAt K (upd H3 tA (.lst ((rs.map fun r => V.ref r.1) ++ [.ref t]))) u p := fmW hT3 (dpS c3 hu2)
    have hl4 : (upd H3 tA (.lst ((rs.map fun r => V.ref r.1) ++ [.ref t]))) l = some (.lst []) := by rw [upd_ne ntl.symm]; exact hl3
    have ht4 : (upd H3 tA (.lst ((rs.map fun r => V.ref r.1) ++ [.ref t]))) t = some (.tup [u, .ref l]) := by rw [upd_ne ntt.symm]; exact ht3
    have hA4 : (upd H3 tA (.lst ((rs.map fun r => V.ref r.1) ++ [.ref t]))) aA = some (.lst (as'.map V.ref).reverse) := by rw [upd_ne htne.symm]; exact c3 _ _ hA2
    have hT4 : (upd H3 tA (.lst ((rs.map fun r => V.ref r.1) ++ [.ref t]))) tA = some (.lst ((rs.map fun r => V.ref r.1) ++ [.ref t])) := upd_same
    have g4 : Same H (upd H3 tA (.lst ((rs.map fun r => V.ref r.1) ++ [.ref t]))) := (g2.trans c3).mut htA
    generalize hH4 : upd H3 tA (.lst ((rs.map fun r => V.ref r.1) ++ [.ref t])) = H4 at *
    have e1 : ((rs.map fun r => V.ref r.1) ++ [V.ref t]) = ((rs ++ [(t, u, l)]).map fun r => V.ref r.1) := by simp
    -- behind the if
    have tail : ∀ H5 : Hp, Same H H5 → H5 tA = some (.lst ((rs.map fun r => V.ref r.1) ++ [.ref t])) → RowsAt K H5 rs (T.modify ar (addk T.length)) → StkAt K H5 as' S' → FmAt K H5 u p → H5 l = some (.lst []) → H5 t = some (.tup [u, .ref l]) → H5 aA = some (.lst (as'.map V.ref).reverse) →
        tFor (iTup K (tRevT K (tCall (spParts K) [] E0 (tCons (tVar 3) tNil)))) (gName 6) (tDrop (tBM K "list" rAppend (tVar 2) (tCons (tTup (tCons (tVar 6) (tCons (tVar 5) tNil))) tNil)))
          { nx := fun σ' H' => ∃ m', m' < m ∧ ∃ (T : Lay) (S : List (Fm × Nat)) (rs : List Row) (as : List Addr) (o3 o4 o5 o6 : Option V), σ' = [some v, some (.ref tA), some (.ref aA), o3, o4, o5, o6] ∧ m' = Fm.sizes (S.map (·.1)) ∧ Same H H' ∧ comp T S = laidF f 0 ∧
              H' tA = some (.lst (rs.map fun r => V.ref r.1)) ∧ RowsAt K H' rs T ∧ (rs.map (·.2.2)).Nodup ∧ (∀ r, r ∈ rs → H r.2.2 = none ∧ r.2.2 ≠ tA ∧ r.2.2 ≠ aA) ∧ H' aA = some (.lst (as.map V.ref).reverse) ∧ StkAt K H' as S ∧ (∀ s, s ∈ S → s.2 < T.length ∨ s.2 = 0) ∧ (∀ t, t ∈ T → t.2.length ≤ T.length),
            rt := Q, bk := fun σ' H' => tRet (tVar 1) { nx := fun _ H' => Q .non H', rt := Q } σ' H', ct := fun σ' H' => ∃ m', m' < m ∧ ∃ (T : Lay) (S : List (Fm × Nat)) (rs : List Row) (as : List Addr) (o3 o4 o5 o6 : Option V), σ' = [some v, some (.ref tA), some (.ref aA), o3, o4, o5, o6] ∧ m' = Fm.sizes (S.map (·.1)) ∧ Same H H' ∧ comp T S = laidF f 0 ∧
              H' tA = some (.lst (rs.map fun r => V.ref r.1)) ∧ RowsAt K H' rs T ∧ (rs.map (·.2.2)).Nodup ∧ (∀ r, r ∈ rs → H r.2.2 = none ∧ r.2.2 ≠ tA ∧ r.2.2 ≠ aA) ∧ H' aA = some (.lst (as.map V.ref).reverse) ∧ StkAt K H' as S ∧ (∀ s, s ∈ S → s.2 < T.length ∨ s.2 = 0) ∧ (∀ t, t ∈ T → t.2.length ≤ T.length) }
          [some v, some (.ref tA), some (.ref aA), some u, some (.int (ar : Int)), some (.int (T.length : Int)), o6] H5 := by
      intro H5 g5 hT5 hR5 hS5 hu5 hl5 ht5 hA5
      have hps : p.size = 1 + Fm.sizes p.parts := p.size_eq
      have hpl : p.parts.length ≤ Fm.sizes p.parts := len_sizes _
      have hsl : as'.length ≤ Fm.sizes (S'.map (·.1)) := by
        rw [Paired.length hS5, ← List.length_map (f := fun x : Fm × Nat => x.1)]
        exact len_sizes _
      simp only [List.map_cons, Fm.sizes] at hcl hm
      refine laid_push hu5 hA5 (by simp; omega) fun H6 as2 o6' b6 hA6 hS6 => ?_
      have e2 : ((as'.map V.ref).reverse ++ (as2.map V.ref).reverse) = ((as2 ++ as').map V.ref).reverse := by simp
      rw [e2] at hA6
      have ew : ∀ {x : Addr} {z : HO}, H5 x = some z → x ≠ aA → H6 x = some z := fun h n => b6 _ _ h n
      have kt : ∀ a xs, Rd H5 a (.tup xs) → Rd H6 a (.tup xs) := fun b xs r => by
        have n : b ≠ aA := by
          rintro rfl
          rcases r with r | ⟨o, r⟩ <;> (rw [hA5] at r; cases r)
        rcases r with r | ⟨o, r⟩
        · exact .inl (b6 _ _ r n)
        · exact .inr ⟨o, b6 _ _ r n⟩
      have hR6 : RowsAt K H6 (rs ++ [(t, u, l)]) (T.modify ar (addk T.length) ++ [(p, [])]) := by
        refine RowsAt.snoc ⟨hR5.len, fun i r t h1 h2 => ?_⟩ (ew ht5 nat.symm) (fmsMap kt _ _ hu5) (ew hl5 nal.symm)
        obtain ⟨x, y, z⟩ := hR5.at_ i r t h1 h2
        exact ⟨ew x (ne_of x hA5 (by intro z; cases z)), fmsMap kt _ _ y, ew z (hfr r (List.mem_of_getElem? h1)).2.2⟩
      refine ⟨_, ?_, T.modify ar (addk T.length) ++ [(p, [])], (p.parts.map fun q => (q, T.length)) ++ S', rs ++ [(t, u, l)], as2 ++ as', _, _, _, o6', rfl, rfl, (But.same (H := H) (p := aA) (fun b o e n => b6 b o (g5 b o e) n) hA0), ?_, ?_, hR6, ?_, ?_, hA6, pairedApp hS6 (pairedMap hS5 fun x y ⟨z, h1, h2⟩ => ⟨z, ew h1 (ne_of h1 hA5 (by intro z; cases z)), fmsMap kt _ _ h2⟩), ?_, ?_⟩
      · rw [hm, List.map_append, sizes_append, List.map_map]
        have : ((fun x => x.fst) ∘ fun q => (q, T.length)) = (id : Fm → Fm) := rfl
        rw [this, List.map_id]
        omega
      · rw [← comp_step]
        exact hc
      · rw [← e1]
        exact ew hT5 htne
      · rw [List.map_append, List.map_singleton]
        refine nd_snoc nd fun hm => ?_
        obtain ⟨r, hr, e⟩ := List.mem_map.mp hm
        exact hnl r hr e
      · intro r hr
        rcases List.mem_append.mp hr with hr | hr
        · exact hfr r hr
        · simp at hr
          subst hr
          exact ⟨hl0, ntl.symm, nal.symm⟩
      · intro s hs
        have hlen : (T.modify ar (addk T.length) ++ [(p, ([] : List Nat))]).length = T.length + 1 := by simp
        rw [hlen]
        rcases List.mem_append.mp hs with hs | hs
        · obtain ⟨q, _, e⟩ := List.mem_map.mp hs
          subst e
          exact .inl (Nat.lt_succ_self _)
        · rcases hlt s (List.mem_cons_of_mem _ hs) with h | h
          · exact .inl (Nat.lt_succ_of_lt h)
          · exact .inr h
      · intro t2 h2
        have hlen : (T.modify ar (addk T.length) ++ [(p, ([] : List Nat))]).length = T.length + 1 := by simp
        rw [hlen]
        rcases List.mem_append.mp h2 with h2 | h2
        · obtain ⟨i, hi⟩ := List.getElem?_of_mem h2
          rw [List.getElem?_modify] at hi
          cases e : T[i]? with
          | none => rw [e] at hi; cases hi
          | some t0 =>
            rw [e] at hi
            have h3 := hkl t0 (List.mem_of_getElem? e)
            have h4 : (if ar = i then addk T.length t0 else t0) = t2 := by simpa using hi
            rw [← h4]
            split
            · simp [addk]
              exact h3
            · omega
        · simp at h2
          subst h2
          simp
    -- if number > 0
    refine ⟨_, rfl, _, _, rfl, rfl, _, rfl, ?_⟩
    refine ite2 (fun c => ?_) (fun c => ?_)
    · have c' : 0 < T.length := by
        have := of_decide_eq_true c
        omega
      have har : ar < T.length := by
        rcases hlt (p, ar) List.mem_cons_self with h | h
        · exact h
        · have h' : ar = 0 := h
          omega
      obtain ⟨t1, ht1⟩ : ∃ t1, T[ar]? = some t1 := ⟨_, List.getElem?_eq_getElem har⟩
      obtain ⟨r1, hr1⟩ : ∃ r1, rs[ar]? = some r1 := ⟨_, List.getElem?_eq_getElem (by rw [hR.len]; exact har)⟩
      obtain ⟨x1, x2, x3⟩ := hR4.at_ ar r1 t1 hr1 ht1
      have hat : atI ((rs.map fun r => V.ref r.1) ++ [V.ref t]) (ar : Int) = some (V.ref r1.1) := atI_nat (by
        rw [List.getElem?_append_left (by rw [en]; exact har), List.getElem?_map, hr1]
        rfl)
      have hm1 := List.mem_of_getElem? hr1
      have hk2 : (kidsV t1.2).length < sizeLine := by
        have h1 := hkl t1 (List.mem_of_getElem? ht1)
        exact szb (by rw [kidsV, List.length_map]; omega)
      refine ⟨_, rfl, _, rfl, tA, _, _, _, rfl, rfl, sL hT4, hat, r1.1, _, _, _, rfl, rfl, sT x1, atI_nat (j := 1) rfl, .inl ⟨rfl, _, sL x3⟩, _, rfl, r1.2.2, _, _, rfl, rfl, x3, hk2, ?_⟩
      have hx := hfr r1 hm1
      refine tail _ (g4.mut hx.1) (by rw [upd_ne hx.2.1.symm]; exact hT4) (hR4.grow hr1 ht1 nd) (StkAt.w hS4 x3) (fmW x3 hu4) (by rw [upd_ne (hnl r1 hm1).symm]; exact hl4) (by rw [upd_ne (ne_of ht4 x3 (by intro z; cases z))]; exact ht4) (by rw [upd_ne hx.2.2.symm]; exact hA4)
    · have c' : T.length = 0 := by
        have := of_decide_eq_false (Bool.eq_false_iff.mpr c)
        omega
      have hT0 : T = [] := List.length_eq_zero_iff.mp c'
      refine tail H4 g4 hT4 ?_ hS4 hu4 hl4 ht4 hA4
      subst hT0
      have e0 : ([] : Lay).modify ar (addk ([] : Lay).length) = [] := by simp
      rw [e0]
      exact hR4
end
end Sw
set_option Elab.async false
set_option maxRecDepth 100000
set_option maxHeartbeats 4000000
namespace Sw
open PySem L2 PySem.Spec PyProof.Rows
/-! ### is_sign, is_row -/
def letter (c : Nat) : Bool := decide (97 ≤ c) && decide (c ≤ 122)
def signS (t : Str) : Bool := decide (1 ≤ t.length) && decide (t.length ≤ 6) && t.cps.toList.all letter
def signD : PyData → Bool
  | .str t => signS t
  | _ => false
def rowD : PyData → Bool
  | .tuple ds => ds.all signD
  | _ => false
theorem lt_one (a b : Nat) : decide ([a] < [b]) = decide (a < b) := by
  by_cases h : a < b
  · rw [decide_eq_true h]; exact decide_eq_true (List.Lex.rel h)
  · rw [decide_eq_false h]
    refine decide_eq_false fun z => ?_
    cases z with
    | rel q => exact h q
    | cons q => cases q
end Sw
set_option Elab.async false
set_option maxRecDepth 100000
set_option maxHeartbeats 8000000
namespace Sw
open PySem L2 PySem.Spec PyProof.Rows
theorem iteT' {c A B : Prop} [Decidable c] (hc : c) (h : A) : if c then A else B := by rw [if_pos hc]; exact h
theorem iteF' {c A B : Prop} [Decidable c] (hc : ¬ c) (h : B) : if c then A else B := by rw [if_neg hc]; exact h
theorem pairedLen {α β : Type} {F : α → β → Prop} {as : List α} {bs : List β} (h : Paired F as bs) : as.length = bs.length := Paired.length h
theorem take_snoc {α : Type} {l : List α} {i : Nat} {x : α} (h : l[i]? = some x) : l.take (i + 1) = l.take i ++ [x] := by rw [List.take_add_one, h]; rfl
theorem cut_take (xs : List V) (n : Nat) : cutV xs none (some (n : Int)) = xs.take n := by
  unfold cutV
  rw [HT.sIx_nat, HT.sIx_none, List.drop_zero, Nat.sub_zero]
  by_cases h : n ≤ xs.length
  · rw [Nat.min_eq_left h]
  · rw [Nat.min_eq_right (by omega), List.take_of_length_le (by omega), List.take_of_length_le (by omega)]
theorem pairedAtL {α β : Type} {F : α → β → Prop} : ∀ {l₁ : List α} {l₂ : List β} {i : Nat} {a : α}, Paired F l₁ l₂ → l₁[i]? = some a → ∃ b, l₂[i]? = some b ∧ F a b
  | _, _, _, _, .nil, h => by simp at h
  | _, _, 0, _, .cons r t, h => by simp at h; subst h; exact ⟨_, rfl, r⟩
  | _, _, i + 1, _, .cons r t, h => by
    simp at h
    obtain ⟨a, h1, h2⟩ := pairedAtL t h
    exact ⟨a, by simpa using h1, h2⟩
theorem catA {K : PySem.W.Frag} {H : Hp} {a b : Addr} {xs ys : List V} {Q : VK} (ha : SqT K H a xs) (hb : SqT K H b ys) (hl : xs.length + ys.length ≤ sizeLine) (k : ∀ (H' : Hp) (q : Addr), Same H H' → SqT K H' q (xs ++ ys) → Q (.ref q) H') : rCatA K (.ref a) (.ref b) H Q := by
  refine ⟨a, b, xs, ys, rfl, rfl, ha, hb, hl, fun e => ?_, fun _ e => ?_, fun _ _ p hp => k _ p (.new hp) (sT upd_same)⟩
  · subst e
    exact k H b (Same.refl _) hb
  · subst e
    exact k H a (Same.refl _) (by rw [List.append_nil]; exact ha)
mutual
def noL : PyData → Bool
  | .list _ => false
  | .dict _ => false
  | .tuple ds => noLs ds
  | _ => true
def noLs : List PyData → Bool
  | [] => true
  | d :: ds => noL d && noLs ds
end
mutual
theorem dpSameT {K : PySem.W.Frag} {H H' : Hp} (s : ∀ a xs, SqT K H a xs → SqT K H' a xs) : ∀ (d : PyData) (v : V), noL d = true → Dp K H v d → Dp K H' v d
  | .none, _, _, h => by cases h; exact .non
  | .bool b, _, _, h => by cases h; exact .bl b
  | .int i, _, _, h => by cases h; exact .int i
  | .str x, _, _, h => by cases h; exact .str x
  | .list ds, _, e, h => by cases e
  | .tuple ds, _, e, h => by
    cases h with
    | tup h1 h2 => exact .tup (s _ _ h1) (dpAllSameT s ds _ (by unfold noL at e; exact e) h2)
  | .dict _, _, e, h => by cases e
theorem dpAllSameT {K : PySem.W.Frag} {H H' : Hp} (s : ∀ a xs, SqT K H a xs → SqT K H' a xs) : ∀ (ds : List PyData) (vs : List V), noLs ds = true → DpAll K H vs ds → DpAll K H' vs ds
  | [], _, _, h => by cases h; exact .nil
  | d :: ds, _, e, h => by
    cases h with
    | cons h1 h2 =>
      unfold noLs at e
      rw [Bool.and_eq_true] at e
      exact .cons (dpSameT s d _ e.1 h1) (dpAllSameT s ds _ e.2 h2)
end
def SL (x y : Str) : Prop := x.cps.toList < y.cps.toList
theorem SL.asymm {x y : Str} (h : SL x y) (g : SL y x) : False := List.lt_asymm h g
theorem SL.trans {x y z : Str} (h : SL x y) (g : SL y z) : SL x z := List.lt_trans h g
theorem str_ext {x y : Str} (h : x.cps.toList = y.cps.toList) : x = y := by
  cases x; cases y
  have := Array.toList_inj.mp h
  simp at this
  subst this
  rfl
theorem SL.of {x y : Str} (h : ltCps y.cps.toList x.cps.toList = false) (n : x ≠ y) : SL x y := by
  rw [ltCps_eq] at h
  have h' : ¬ y.cps.toList < x.cps.toList := of_decide_eq_false h
  have hle : x.cps.toList ≤ y.cps.toList := h'
  by_cases q : x.cps.toList < y.cps.toList
  · exact q
  · have hge : y.cps.toList ≤ x.cps.toList := q
    exact absurd (str_ext (List.le_antisymm hle hge)) n
theorem risingS_up : ∀ (p : Str) (l : List Str), risingS p l = true → (p :: l).Nodup → (p :: l).Pairwise SL
  | p, [], _, _ => List.pairwise_singleton _ _
  | p, x :: r, h, nd => by
    have h' : (!ltCps x.cps.toList p.cps.toList && risingS x r) = true := h
    rw [Bool.and_eq_true] at h'
    rw [List.nodup_cons] at nd
    have t := risingS_up x r h'.2 nd.2
    have h1 : SL p x := SL.of (by simpa using h'.1) (fun e => nd.1 (by rw [e]; simp))
    refine List.pairwise_cons.mpr ⟨fun y hy => ?_, t⟩
    rcases List.mem_cons.mp hy with rfl | hy
    · exact h1
    · exact h1.trans ((List.pairwise_cons.mp t).1 y hy)
theorem sortedS_up {l : List Str} (h : sortedS l = true) (nd : l.Nodup) : l.Pairwise SL := by
  cases l with
  | nil => exact .nil
  | cons x r => exact risingS_up x r h nd
theorem SL.nd {l : List Str} (h : l.Pairwise SL) : l.Nodup := h.imp fun {a b} q e => by subst e; exact q.asymm q
end Sw
set_option Elab.async false
set_option maxRecDepth 100000
set_option maxHeartbeats 8000000
namespace Sw
open PySem L2 PySem.Spec PyProof.Rows
theorem tuple_mulZero (l : Addr) (items : Array Value) (n : Nat) (dd : Option Addr) (sl : Array (Option Value)) (u : Tok) (c1 : items.isEmpty = false) :
    Meets (Builtin.«tuple.__mul__» ⟨[.ref l, .int 0 u], []⟩) (fun _ R s => s.heap.get? l = some { cls := .type "tuple", dict := dd, data := .seq items n, slots := sl } ∧ R (.ok (.ret (Value.ref s.heap.objs.size))) { s with heap := s.heap.push { cls := Value.type "tuple", data := Data.seq #[] }, toks := s.toks }) :=
  .of_wp fun prog w A R s h => by
    obtain ⟨hp, g, d, tk, os⟩ := s
    obtain ⟨hl, h⟩ := h
    have f1 := AutoSeq1.idx_int
    have c2 : (items.isEmpty || ((0 : Int) == 1)) = false := by rw [c1]; rfl
    wp_walk using wpAny_loadPart' hl
    repeat (first
      | (refine wpAny_ite_false (decide_eq_false (by rw [c2]; exact Bool.false_ne_true)) ?_; wp_walk using wpAny_loadPart' hl)
      | (refine wpAny_ite_true (decide_eq_true (by rfl)) ?_; wp_walk using wpAny_loadPart' hl))
    exact ⟨_, rfl, h⟩
/-- t * k of a tuple, any k from 0 on -/
def rMulA (K : PySem.W.Frag) : R2 := fun x y H Q => ∃ l k xs, x = .ref l ∧ y = .int k ∧ SqT K H l xs ∧ xs ≠ [] ∧ 0 ≤ k ∧ k ≤ 1000 ∧ xs.length ≤ 1000 ∧ ∀ H' p, Same H H' → SqT K H' p (List.replicate k.toNat xs).flatten → Q (.ref p) H'
section
variable {X : Cx}
theorem op_mulA : OpR X (binaryOp .Mult) (rMulA X.K) := by
  intro pins s σ H x y v u Q I rx ry h
  obtain ⟨l, k, xs, rfl, rfl, hT, hne, h0, h1, hz, q⟩ := h
  by_cases hk : 1 ≤ k
  · refine op_repA pins s σ H _ _ v u Q I rx ry ⟨l, k, xs, rfl, rfl, hT, hk, h1, hz, fun e => q H l (.refl _) ?_, fun p np => q _ p (.new np) (sT upd_same)⟩
    rcases e with e | e
    · subst e
      rw [show (List.replicate k.toNat ([] : List V)).flatten = [] by simp]
      exact hT
    · subst e
      simpa using hT
  · have k0 : k = 0 := by omega
    subst k0
    cases hx : xs with
    | nil => exact absurd hx hne
    | cons x0 xr =>
      cases rx
      obtain ⟨t, rfl⟩ := ry
      obtain ⟨its, r, ⟨⟨cls, dd, data, sl⟩, ho, hc, n, hd⟩, hs⟩ := I.tuple hT
      simp only at hc hd
      subst hc hd
      have hle : its.length = xs.length := r.length.symm
      have hi : its.toArray.isEmpty = false := by
        cases its with
        | nil => rw [hx] at hle; cases hle
        | cons a b => rfl
      refine wpAny_binaryOp_repeat_ref (T := "tuple") (U := "int") (by decide) ⟨_, ho, rfl⟩ (fun s' => typeIs_int s' 0 t) noFill_tuple_mul F.fills_int_mul F.slot_int_rmul repeat_tuple F.slot_int_index.lookup
        (call_meets F.slot_int_rmul (typeIs_int s 0 t) F.entry_int_rmul (F.args_int_rmul_2 _ _) (int_rmul_tuple 0 t l its.toArray n dd sl)
          ⟨ho, rfl, ⟨_, ho, rfl⟩, call_meets F.slot_tuple_mul ⟨_, ho, rfl⟩ F.entry_tuple_mul (F.args_tuple_mul_2 _ _) (tuple_mulZero l its.toArray n dd sl t hi) ⟨ho, ?_⟩⟩)
      have np := I.hok.fresh (Nat.le_refl s.heap.objs.size)
      refine ⟨.ref s.heap.objs.size, _, I.laid (t' := s.toks) (o := .tup []) (fun b ob q => Heap.get?_push_of_some _ q) (Nat.le_refl _) ?_, rfl, q _ _ (.new np) (sT upd_same)⟩
      exact ⟨by decide, _, .nil, IsTup.new _ _⟩
end
end Sw
set_option Elab.async false
set_option maxRecDepth 100000
set_option maxHeartbeats 8000000
namespace Sw
open PySem L2 PySem.Spec PyProof.Rows
/-! ### the pen: a list of the cells, a place in them, and what is left of a cell -/
def penL (sp : Addr) (i : Nat) (z : Int) : List V := [.ref sp, .int (i : Int), .int z]
def PenAt (H : Hp) (pen sp : Addr) : Prop := ∃ (ns : List Int) (i : Nat) (z : Int), H pen = some (.lst (penL sp i z)) ∧ H sp = some (.lst (ns.map V.int)) ∧ ns.length ≤ 63
theorem penNe {H : Hp} {pen sp : Addr} {i : Nat} {z : Int} {ns : List Int} (h1 : H pen = some (.lst (penL sp i z))) (h2 : H sp = some (.lst (ns.map V.int))) : sp ≠ pen := by
  rintro rfl
  rw [h1] at h2
  injection h2 with h2
  injection h2 with h2
  cases ns with
  | nil => cases h2
  | cons n r => injection h2 with a b; cases a
theorem PenAt.same {H H' : Hp} {pen sp : Addr} (h : PenAt H pen sp) (s : Same H H') : PenAt H' pen sp := by
  obtain ⟨ns, i, z, h1, h2, h3⟩ := h
  exact ⟨ns, i, z, s _ _ h1, s _ _ h2, h3⟩
/-- another list may be written -/
theorem PenAt.w {H0 H : Hp} {pen sp D : Addr} {o : HO} (h : PenAt H pen sp) (h0 : PenAt H0 pen sp) (hD : H0 D = none) : PenAt (upd H D o) pen sp := by
  obtain ⟨ns, i, z, h1, h2, h3⟩ := h
  obtain ⟨_, _, _, h4, h5, _⟩ := h0
  exact ⟨ns, i, z, by rw [upd_ne (ne_of_none h4 hD)]; exact h1, by rw [upd_ne (ne_of_none h5 hD)]; exact h2, h3⟩
theorem butW {H0 H : Hp} {st D : Addr} {o : HO} (b : But st H0 H) (hD : H0 D = none) : But st H0 (upd H D o) := fun x u e n => by
  rw [upd_ne (ne_of_none e hD)]
  exact b x u e n
theorem PenAt.sqT {K : PySem.W.Frag} {H H' : Hp} {pen sp a : Addr} {xs : List V} (h : PenAt H pen sp) (b : But pen H H') (hq : SqT K H a xs) : SqT K H' a xs := by
  obtain ⟨ns, i, z, h1, h2, h3⟩ := h
  have n : ∀ u, H a = some u → (∀ l, u ≠ .lst l) → a ≠ pen := fun u r e hm => by
    rw [hm, h1] at r
    exact e _ (Option.some.inj r).symm
  rcases hq with hq | hq
  · rcases hq with hq | ⟨o, hq⟩
    · exact .inl (.inl (b _ _ hq (n _ hq (fun l e => by cases e))))
    · exact .inl (.inr ⟨o, b _ _ hq (n _ hq (fun l e => by cases e))⟩)
  · exact .inr hq
/-- lists of texts, of addresses stay -/
theorem PenAt.strs {H H' : Hp} {pen sp a : Addr} {ss : List Str} (h : PenAt H pen sp) (b : But pen H H') (hq : H a = some (.lst (ss.map V.str))) : H' a = some (.lst (ss.map V.str)) := by
  obtain ⟨ns, i, z, h1, h2, h3⟩ := h
  refine b _ _ hq ?_
  rintro rfl
  rw [h1] at hq
  injection hq with hq
  injection hq with hq
  cases ss with
  | nil => cases hq
  | cons n r => injection hq with a b; cases a
theorem PenAt.refs {H H' : Hp} {pen sp a : Addr} {as : List Addr} (h : PenAt H pen sp) (b : But pen H H') (hq : H a = some (.lst (as.map V.ref))) : H' a = some (.lst (as.map V.ref)) := by
  obtain ⟨ns, i, z, h1, h2, h3⟩ := h
  refine b _ _ hq ?_
  rintro rfl
  rw [h1] at hq
  injection hq with hq
  injection hq with hq
  match as, hq with
  | [], hq => cases hq
  | [_], hq => injection hq with a b; cases b
  | _ :: _ :: _, hq => injection hq with a b; injection b with c d; cases c
theorem PenAt.dp {K : PySem.W.Frag} {H H' : Hp} {pen sp : Addr} {v : V} {d : PyData} (h : PenAt H pen sp) (b : But pen H H') (n : noL d = true) (hd : Dp K H v d) : Dp K H' v d := dpSameT (fun _ _ q => h.sqT b q) d v n hd
theorem PenAt.dps {K : PySem.W.Frag} {H H' : Hp} {pen sp : Addr} {vs : List V} {ds : List PyData} (h : PenAt H pen sp) (b : But pen H H') (n : noLs ds = true) (hd : DpAll K H vs ds) : DpAll K H' vs ds := dpAllSameT (fun _ _ q => h.sqT b q) ds vs n hd
section
variable {P : Program} {w : World} {K : PySem.W.Frag} {mg : Str → Option Value} {base : Heap}
abbrev n_law_e_pen : List Str := ["script"]
theorem sc_law_e_pen : FnScope n_law_e_pen ["script"] (defScope s_law_e_pen) := ⟨rfl, rfl, rfl, by decide +kernel, rfl, by decide +kernel, by decide +kernel⟩
def spPen (K : PySem.W.Frag) : Sp := fun vs H Q _ => ∃ (a : Addr) (ns : List Int), vs = [.ref a] ∧ SqL K H a (ns.map V.int) ∧ ns.length ≤ 63 ∧ ∀ H' pen sp, Same H H' → H pen = none → PenAt H' pen sp → Q (.ref pen) H'
theorem ok_law_e_pen (F : DefAt K mg "_law_e_pen" s_law_e_pen ["script"]) (b_list : mg "list" = none) : DefOk P w K mg base "_law_e_pen" 1 ["script"] (spPen K) := by
  refine F.ok sc_law_e_pen (fun vs H Q E h => ?_) (fun f cdv A outer s H vs Q E hr h => ?_)
  · obtain ⟨_, _, rfl, _⟩ := h
    rfl
  obtain ⟨a, ns, rfl, hS, hlen, k⟩ := h
  refine ⟨_, (pss_one (ps_ret (pe_lst (pa_cons (pe_callTy call_list_of (by rfl) b_list (by decide +kernel) (pa_cons (pe_slice sl_list (pv 0) po_none (po_some pe_int)) pa_nil)) (pa_cons pe_int (pa_cons pe_int pa_nil)))))), ?_⟩
  refine ⟨_, rfl, _, rfl, a, _, rfl, hS, fun p hp => ?_⟩
  have e63 : cutV (ns.map V.int) none (some 63) = ns.map V.int := by
    have := cut_take (ns.map V.int) 63
    rw [show ((63 : Nat) : Int) = 63 from rfl] at this
    rw [this, List.take_of_length_le (by rw [List.length_map]; exact hlen)]
  dsimp only
  rw [e63]
  refine ⟨p, _, rfl, .inl (sL upd_same), fun l hl => ⟨(by show 3 ≤ sizeLine; decide), fun q hq => ?_⟩⟩
  have nl : l ≠ q := ne_of_none upd_same hq
  have s3 := ((Same.new (o := .lst (ns.map V.int)) hp).trans (.new (o := .lst (ns.map V.int)) hl)).trans (.new (o := .lst [.ref l, .int 0, .int 0]) hq)
  have nqH : H q = none := by
    cases e : H q with
    | none => rfl
    | some o => rw [((Same.new (o := .lst (ns.map V.int)) hp).trans (.new (o := .lst (ns.map V.int)) hl)) _ _ e] at hq; cases hq
  exact k _ q l s3 nqH ⟨ns, 0, 0, upd_same, by rw [upd_ne nl]; exact upd_same, hlen⟩
end
end Sw
set_option Elab.async false
set_option maxRecDepth 100000
set_option maxHeartbeats 8000000
namespace Sw
open PySem L2 PySem.Spec PyProof.Rows
def thenOf : Stmt → List Stmt
  | .If _ b _ _ => b
  | _ => []
theorem modLt (c : Int) {m : Int} (h : 0 < m) : 0 ≤ c % m ∧ c % m < m := ⟨Int.emod_nonneg _ (by omega), Int.emod_lt_of_pos _ h⟩
section
variable {P : Program} {w : World} {K : PySem.W.Frag} {mg : Str → Option Value} {base : Heap}
abbrev n_law_e_take : List Str := ["pen", "many", "at", "cell", "mixed", "found"]
theorem sc_law_e_take : FnScope n_law_e_take ["pen", "many"] (defScope s_law_e_take) := ⟨rfl, rfl, rfl, by decide +kernel, rfl, by decide +kernel, by decide +kernel⟩
def spTake : Sp := fun vs H Q _ => ∃ (pen sp : Addr) (m : Nat), vs = [.ref pen, .int (m : Int)] ∧ 0 < m ∧ m ≤ 1000 ∧ PenAt H pen sp ∧ ∀ H' (k : Nat), k < m → But pen H H' → PenAt H' pen sp → Q (.int (k : Int)) H'
theorem ok_law_e_take (F : DefAt K mg "_law_e_take" s_law_e_take ["pen", "many"]) (b_len : mg "len" = none) : DefOk P w K mg base "_law_e_take" 1 ["pen", "many"] spTake := by
  refine F.ok sc_law_e_take (fun vs H Q E h => ?_) (fun f cdv A outer s H vs Q E hr h => ?_)
  · obtain ⟨_, _, _, rfl, _⟩ := h
    rfl
  obtain ⟨pen, sp, m, rfl, hm0, hm1, hp, k⟩ := h
  -- the last three
  obtain ⟨t2, h2, f2⟩ : ∃ t2, PSs (cxOf CX0 P w K mg base n_law_e_take "_law_e_take" (defScope s_law_e_take) f cdv A outer s H E).nox ((defBody s_law_e_take).drop 1) t2 ∧
      ∀ (o2 o3 o4 : Option V) (H' : Hp), But pen H H' → PenAt H' pen sp → t2 { nx := fun _ H' => Q .non H', rt := Q } [some (.ref pen), some (.int (m : Int)), o2, o3, o4, none] H' := by
    refine ⟨_, (pss_cons (ps_set (i := 5) sc_law_e_take.nd rfl (Or.inl rfl) (pe_op op_mod (pe_ix ix_list (pv 0) pe_int (fun _ _ => rfl)) (pv 1)))
      (pss_cons (ps_asg (pe_op op_fdiv (pe_ix ix_list (pv 0) pe_int (fun _ _ => rfl)) (pv 1)) (pg_sub (pv 0) pe_int set_list))
      (pss_one (ps_ret (pv 5))))), ?_⟩
    rintro o2 o3 o4 H' b ⟨ns, i, z, h1, hs, hl⟩
    refine ⟨_, rfl, pen, _, 2, _, rfl, rfl, sL h1, atI_nat (j := 2) rfl, _, rfl, _, _, rfl, rfl, (by show (0 : Int) < (m : Int); omega), ?_⟩
    refine ⟨_, rfl, pen, _, 2, _, rfl, rfl, sL h1, atI_nat (j := 2) rfl, _, rfl, _, _, rfl, rfl, ⟨(by show (0 : Int) < (m : Int); omega), (by show (m : Int) < 1073741824; omega)⟩, ?_⟩
    refine ⟨_, rfl, pen, _, 2, 2, rfl, rfl, h1, rfl, _, rfl, ?_⟩
    obtain ⟨q1, q2⟩ := modLt z (m := (m : Int)) (by omega)
    obtain ⟨j, hj⟩ : ∃ j : Nat, z % (m : Int) = (j : Int) := ⟨(z % (m : Int)).toNat, by omega⟩
    have nsp := penNe h1 hs
    show Q (V.int (z % (m : Int))) _
    rw [hj]
    refine k _ j (by omega) b.upd ⟨ns, i, z / (m : Int), upd_same, by rw [upd_ne nsp]; exact hs, hl⟩
  obtain ⟨ns, i, z, h1, hs, hl⟩ := id hp
  have nsp := penNe h1 hs
  -- behind the cell
  obtain ⟨t3, h3, f3⟩ : ∃ t3, PSs (cxOf CX0 P w K mg base n_law_e_take "_law_e_take" (defScope s_law_e_take) f cdv A outer s H E).nox ((thenOf ((defBody s_law_e_take).headD (.Pass ⟨0, 0, 0, 0⟩))).drop 3) t3 ∧
      ∀ (D : Ends), (∀ (o2 o3 o4 : Option V) (H' : Hp), But pen H H' → PenAt H' pen sp → D.nx [some (.ref pen), some (.int (m : Int)), o2, o3, o4, none] H') → ∀ c : Int, t3 D [some (.ref pen), some (.int (m : Int)), some (.int (i : Int)), some (.int c), none, none] H := by
    refine ⟨_, (pss_cons (ps_asg (pe_op op_add (pv 2) pe_int) (pg_sub (pv 0) pe_int set_list))
    (pss_cons (ps_asg (pv 3) (pg_sub (pv 0) pe_int set_list))
    (pss_one (ps_if (pt_cmpR op_lt (pv 3) (pe_op op_pow pe_int pe_int) (nomark _)) (pss_cons (ps_set (i := 4) sc_law_e_take.nd rfl (Or.inl rfl) (pe_op op_mod (pe_op op_add (pe_op op_add (pe_op op_mul (pe_op op_mod (pv 3) pe_int) pe_int) (pe_op op_mul (pv 2) pe_int)) pe_int) pe_int))
    (pss_cons (ps_set (i := 4) sc_law_e_take.nd rfl (Or.inl rfl) (pe_op op_mod (pe_op op_add (pe_op op_add (pe_op op_mul (pv 4) (pv 4)) (pe_op op_mul (pv 2) pe_int)) pe_int) pe_int))
    (pss_one (ps_asg (pe_op op_add (pe_op op_mul (pv 4) pe_int) (pe_op op_mod (pe_op op_add (pe_op op_mul (pv 4) (pv 4)) (pe_op op_mul pe_int (pv 2))) pe_int)) (pg_sub (pv 0) pe_int set_list))))) pss_nil)))), ?_⟩
    intro D f2 c
    have w1 : (upd (upd H pen (.lst ((penL sp i z).set 1 (.int ((i : Int) + 1))))) pen (.lst (((penL sp i z).set 1 (.int ((i : Int) + 1))).set 2 (.int c)))) pen = some (.lst (penL sp (i + 1) c)) := by
      rw [upd_same]
      unfold penL
      rw [Int.natCast_add]
      rfl
    have w2 : PenAt (upd (upd H pen (.lst ((penL sp i z).set 1 (.int ((i : Int) + 1))))) pen (.lst (((penL sp i z).set 1 (.int ((i : Int) + 1))).set 2 (.int c)))) pen sp := ⟨ns, i + 1, c, w1, by rw [upd_ne nsp, upd_ne nsp]; exact hs, hl⟩
    refine ⟨_, rfl, _, _, rfl, rfl, _, rfl, pen, _, 1, 1, rfl, rfl, h1, rfl, ?_⟩
    refine ⟨_, rfl, _, rfl, pen, _, 2, 2, rfl, rfl, upd_same, rfl, ?_⟩
    refine ⟨_, rfl, _, _, rfl, rfl, ⟨by decide, by decide, by decide⟩, _, _, rfl, rfl, _, rfl, ite2 (fun _ => ?_) (fun _ => f2 _ _ _ _ (But.refl.upd.upd) w2)⟩
    refine ⟨_, rfl, _, _, rfl, rfl, (by show (0 : Int) < 2147483629; decide), _, _, rfl, rfl, .inr ⟨by decide, by decide⟩, _, rfl, _, _, rfl, rfl, .inr ⟨by decide, by decide⟩, _, _, rfl, rfl, _, _, rfl, rfl, _, _, rfl, rfl, (by show (0 : Int) < 2147483587; decide), ?_⟩
    dsimp only
    obtain ⟨m1, m2⟩ := modLt (c % 2147483629 * 48271 + (i : Int) * 69621 + 101) (m := 2147483587) (by decide)
    generalize (c % 2147483629 * 48271 + (i : Int) * 69621 + 101) % 2147483587 = x at m1 m2 ⊢
    refine ⟨_, rfl, _, rfl, _, _, rfl, rfl, .inl ⟨by omega, by omega⟩, _, rfl, _, _, rfl, rfl, .inr ⟨by decide, by decide⟩, _, _, rfl, rfl, _, _, rfl, rfl, _, _, rfl, rfl, (by show (0 : Int) < 2147483563; decide), ?_⟩
    dsimp only
    obtain ⟨m3, m4⟩ := modLt (x * x + (i : Int) * 40014 + 7) (m := 2147483563) (by decide)
    generalize (x * x + (i : Int) * 40014 + 7) % 2147483563 = y at m3 m4 ⊢
    refine ⟨_, rfl, _, _, rfl, rfl, .inr ⟨by decide, by decide⟩, _, rfl, _, rfl, _, _, rfl, rfl, .inl ⟨by omega, by omega⟩, _, rfl, _, _, rfl, rfl, .inl ⟨by decide, by decide⟩, _, _, rfl, rfl, _, _, rfl, rfl, (by show (0 : Int) < 2147483549; decide), _, _, rfl, rfl, ?_⟩
    refine ⟨_, rfl, pen, _, 2, 2, rfl, rfl, upd_same, rfl, ?_⟩
    refine f2 _ _ _ _ But.refl.upd.upd.upd ⟨ns, i + 1, _, by rw [upd_same]; unfold penL; rw [Int.natCast_add]; rfl, by rw [upd_ne nsp, upd_ne nsp, upd_ne nsp]; exact hs, hl⟩
  refine ⟨_, (pss_cons (ps_if (pt_cmpR op_lt (pe_ix ix_list (pv 0) pe_int (fun _ _ => rfl)) (pv 1) (nomark _)) (pss_cons (ps_set (i := 2) sc_law_e_take.nd rfl (Or.inl rfl) (pe_ix ix_list (pv 0) pe_int (fun _ _ => rfl)))
    (pss_cons (ps_set (i := 3) sc_law_e_take.nd rfl (Or.inl rfl) pe_int)
    (pss_cons (ps_if (pt_cmpR op_lt (pv 2) (pe_callB call_len_seq (by rfl) b_len PySem.boot_len (pa_cons (pe_ix ix_list (pv 0) pe_int (fun _ _ => rfl)) pa_nil)) (nomark _)) (pss_one (ps_set (i := 3) sc_law_e_take.nd rfl (Or.inl rfl) (pe_ix ix_list (pe_ix ix_list (pv 0) pe_int (fun _ _ => rfl)) (pv 2) (fun _ _ => rfl)))) (pss_one (ps_if (pt_cmpR op_gt (pe_callB call_len_seq (by rfl) b_len PySem.boot_len (pa_cons (pe_ix ix_list (pv 0) pe_int (fun _ _ => rfl)) pa_nil)) pe_int (nomark _)) (pss_one (ps_set (i := 3) sc_law_e_take.nd rfl (Or.inl rfl) (pe_op op_mod (pe_ix ix_list (pe_ix ix_list (pv 0) pe_int (fun _ _ => rfl)) (pe_op op_mod (pe_op op_mul (pv 2) pe_int) (pe_callB call_len_seq (by rfl) b_len PySem.boot_len (pa_cons (pe_ix ix_list (pv 0) pe_int (fun _ _ => rfl)) pa_nil))) (fun _ _ => rfl)) pe_int))) pss_nil)))
    h3))) pss_nil)
    h2), ?_⟩
  refine ⟨_, rfl, pen, _, 2, _, rfl, rfl, sL h1, atI_nat (j := 2) rfl, _, rfl, _, _, rfl, rfl, _, rfl, ite2 (fun _ => ?_) (fun _ => f2 _ _ _ H .refl hp)⟩
  refine ⟨_, rfl, pen, _, 1, _, rfl, rfl, sL h1, atI_nat (j := 1) rfl, ?_⟩
  refine ⟨_, rfl, _, rfl, pen, _, 0, _, rfl, rfl, sL h1, atI_nat (j := 0) rfl, sp, _, rfl, .inl (sL hs), _, _, rfl, rfl, _, rfl, ?_⟩
  rw [List.length_map]
  refine ite2 (fun hlt => ?_) (fun hlt => ?_)
  · have hlt' : (i : Int) < (ns.length : Int) := of_decide_eq_true hlt
    obtain ⟨c, hc⟩ : ∃ c, ns[i]? = some c := ⟨_, List.getElem?_eq_getElem (by omega)⟩
    refine ⟨_, rfl, pen, _, 0, _, rfl, rfl, sL h1, atI_nat (j := 0) rfl, _, rfl, sp, _, _, _, rfl, rfl, sL hs, atI_nat (j := i) (v := V.int c) (by rw [List.getElem?_map, hc]; rfl), ?_⟩
    exact f3 _ (fun o2 o3 o4 H' b q => f2 o2 o3 o4 H' b q) c
  · refine ⟨_, rfl, pen, _, 0, _, rfl, rfl, sL h1, atI_nat (j := 0) rfl, sp, _, rfl, .inl (sL hs), _, _, rfl, rfl, _, rfl, ?_⟩
    rw [List.length_map]
    refine ite2 (fun hpos => ?_) (fun _ => f3 _ (fun o2 o3 o4 H' b q => f2 o2 o3 o4 H' b q) 0)
    have hpos' : (0 : Int) < (ns.length : Int) := of_decide_eq_true hpos
    obtain ⟨q1, q2⟩ := modLt ((i : Int) * 5) hpos'
    obtain ⟨j, hj⟩ : ∃ j : Nat, (i : Int) * 5 % (ns.length : Int) = (j : Int) := ⟨((i : Int) * 5 % (ns.length : Int)).toNat, by omega⟩
    obtain ⟨c, hc⟩ : ∃ c, ns[j]? = some c := ⟨_, List.getElem?_eq_getElem (by omega)⟩
    refine ⟨_, rfl, pen, _, 0, _, rfl, rfl, sL h1, atI_nat (j := 0) rfl, _, rfl, _, _, rfl, rfl, .inr ⟨by decide, by decide⟩, _, rfl, pen, _, 0, _, rfl, rfl, sL h1, atI_nat (j := 0) rfl, sp, _, rfl, .inl (sL hs), _, _, rfl, rfl, ?_⟩
    rw [List.length_map]
    refine ⟨hpos', sp, _, _, _, rfl, rfl, sL hs, at_of (j := j) (v := V.int c) hj (by rw [List.getElem?_map, hc]; rfl), _, _, rfl, rfl, (by show (0 : Int) < 1000000007; decide), ?_⟩
    exact f3 _ (fun o2 o3 o4 H' b q => f2 o2 o3 o4 H' b q) _
end
end Sw
set_option Elab.async false
set_option maxRecDepth 100000
set_option maxHeartbeats 8000000
namespace Sw
open PySem L2 PySem.Spec PyProof.Rows TL
instance decSL (x y : Str) : Decidable (SL x y) := inferInstanceAs (Decidable (x.cps.toList < y.cps.toList))
theorem join_one : ∀ cs : List Nat, joinL [] (cs.map fun c => [c]) = cs
  | [] => rfl
  | [c] => rfl
  | c :: d :: cs => by
    have ih := join_one (d :: cs)
    show [c] ++ ([] ++ joinL [] ((d :: cs).map fun c => [c])) = _
    rw [ih]
    rfl
def oneS (c : Nat) : Str := ⟨#[c]⟩
theorem join_word (cs : List Nat) : tl (Txt.join "" (cs.map oneS)) = cs := by
  rw [join_eq, tl_join, List.map_map]
  exact join_one cs
theorem word_sign {cs : List Nat} (h : cs.all letter = true) (h1 : 1 ≤ cs.length) (h6 : cs.length ≤ 6) : signS (Txt.join "" (cs.map oneS)) = true := by
  have e := join_word cs
  unfold signS
  have hl : (Txt.join "" (cs.map oneS)).length = cs.length := by rw [len_tl, e]
  rw [hl, decide_eq_true h1, decide_eq_true h6]
  show (true && true && (tl (Txt.join "" (cs.map oneS))).all letter) = true
  rw [e, h]
  rfl
def abc : Str := "abcdefghijklmnopqrstuvwxyz"
theorem abc_at (j : Nat) (h : j < 26) : ∃ c, (tl abc)[j]? = some c ∧ letter c = true := by
  have : ∀ j : Fin 26, (match (tl abc)[j.val]? with | some c => letter c | none => false) = true := by decide +kernel
  have := this ⟨j, h⟩
  cases e : (tl abc)[j]? with
  | none => rw [e] at this; cases this
  | some c => rw [e] at this; exact ⟨c, rfl, this⟩
theorem putKeys {kvs : List (Key × V)} {ks : List Str} {s : Str} {v : V} (h : kvs.map (·.1) = ks.map Sum.inr) (nd : ks.Nodup) (hs : signS s = true) (hk : ∀ t, t ∈ ks → signS t = true) : ∃ ks' : List Str, (putK kvs (.inr s) v).map (·.1) = ks'.map Sum.inr ∧ ks'.length ≤ ks.length + 1 ∧ ks' ≠ [] ∧ ks'.Nodup ∧ ∀ t, t ∈ ks' → signS t = true := by
  unfold putK
  split
  · rename_i hany
    refine ⟨ks, ?_, by omega, ?_, nd, hk⟩
    · rw [List.map_map, ← h]
      refine List.map_congr_left fun kv _ => ?_
      dsimp only [Function.comp]
      split <;> rfl
    · rintro rfl
      cases kvs with
      | nil => cases hany
      | cons a b => cases h
  · rename_i hany
    refine ⟨ks ++ [s], by rw [List.map_append, List.map_append, h]; rfl, by simp, by simp, ?_, fun t ht => ?_⟩
    · rw [List.nodup_append]
      refine ⟨nd, by simp, fun a ha b hb => ?_⟩
      rw [List.mem_singleton.mp hb]
      rintro rfl
      refine hany (List.any_eq_true.mpr ?_)
      have : (Sum.inr a : Key) ∈ kvs.map (·.1) := by rw [h]; exact List.mem_map.mpr ⟨a, ha, rfl⟩
      obtain ⟨kv, h1, h2⟩ := List.mem_map.mp this
      exact ⟨kv, h1, decide_eq_true h2⟩
    · rcases List.mem_append.mp ht with ht | ht
      · exact hk t ht
      · rw [List.mem_singleton.mp ht]; exact hs
section
variable {P : Program} {w : World} {K : PySem.W.Frag} {mg : Str → Option Value} {base : Heap}
abbrev n_law_e_signs : List Str := ["pen", "way", "letters", "found", "k", "word", "j"]
theorem sc_law_e_signs : FnScope n_law_e_signs ["pen"] (defScope s_law_e_signs) := ⟨rfl, rfl, rfl, by decide +kernel, rfl, by decide +kernel, by decide +kernel⟩
def spSigns : Sp := fun vs H Q _ => ∃ (pen sp : Addr), vs = [.ref pen] ∧ PenAt H pen sp ∧ ∀ H' sg (ss : List Str), But pen H H' → PenAt H' pen sp → H' sg = some (.lst (ss.map V.str)) → 0 < ss.length → ss.length ≤ 3 → ss.Pairwise SL → (∀ t, t ∈ ss → signS t = true) → Q (.ref sg) H'
theorem ok_law_e_signs (F : DefAt K mg "_law_e_signs" s_law_e_signs ["pen"]) (d__law_e_take : DefOk P w K mg base "_law_e_take" 1 ["pen", "many"] spTake) (b_range : mg "range" = none) (b_sorted : mg "sorted" = none) : DefOk P w K mg base "_law_e_signs" 2 ["pen"] spSigns := by
  refine F.ok sc_law_e_signs (fun vs H Q E h => ?_) (fun f cdv A outer s H vs Q E hr h => ?_)
  · obtain ⟨_, _, rfl, _⟩ := h
    rfl
  obtain ⟨pen, sp, rfl, hp, k⟩ := h
  have hu := hu_of hr
  refine ⟨_, (pss_cons (ps_set (i := 1) sc_law_e_signs.nd rfl (Or.inl rfl) (pe_callD d__law_e_take (hr.mono (by decide)) rfl (pa_cons (pv 0) (pa_cons pe_int pa_nil))))
    (pss_cons (ps_if (pt_cmpR op_lt (pv 1) pe_int (nomark _)) (pss_one (ps_ret (pe_ix ix_list (pe_lst (pa_cons (pe_lst (pa_cons pe_str (pa_cons pe_str pa_nil))) (pa_cons (pe_lst (pa_cons pe_str (pa_cons pe_str (pa_cons pe_str pa_nil)))) (pa_cons (pe_lst (pa_cons pe_str (pa_cons pe_str (pa_cons pe_str pa_nil)))) (pa_cons (pe_lst (pa_cons pe_str (pa_cons pe_str (pa_cons pe_str pa_nil)))) pa_nil))))) (pv 1) (fun _ _ => rfl)))) pss_nil)
    (pss_cons (ps_set (i := 2) sc_law_e_signs.nd rfl (Or.inr rfl) pe_str)
    (pss_cons (ps_set (i := 3) sc_law_e_signs.nd rfl (Or.inl rfl) pe_dnewK)
    (pss_cons (ps_for PassesOwn.never rfl (pi_range1 rfl b_range (pa_cons (pe_op op_add pe_int (pe_op op_mod (pv 1) pe_int)) pa_nil)) (pg_name (i := 4) sc_law_e_signs.nd rfl (Or.inl rfl))
      (pss_cons (ps_setLc (i := 5) (own := [("j", 6)]) (g := gName 6) rfl sc_law_e_signs.nd rfl rfl (sw_true rfl rfl rfl (by decide +kernel)) (pi_range1 rfl b_range (pa_cons (pe_op op_add pe_int (pe_callD d__law_e_take (hr.mono (by decide)) rfl (pa_cons (pv 0) (pa_cons pe_int pa_nil)))) pa_nil)) (blkOk_by (own := [("j", 6)]) (N := n_law_e_signs) (sc := defScope s_law_e_signs) (by decide +kernel)) (fun _ _ _ _ _ => (pg_name (i := 6) sc_law_e_signs.nd rfl (Or.inl rfl))) (fun _ _ _ _ _ => pts_nil) (fun _ _ _ _ _ => (pe_ix ix_str (pv 2) (pe_callD d__law_e_take (hr.mono (by decide)) rfl (pa_cons (pv 0) (pa_cons pe_int pa_nil))) (fun _ _ => rfl))))
    (pss_one (ps_dput hu (pv 3) (pe_join pe_str (pv 5)) pe_bl rfl))))
    (pss_one (ps_ret (pe_callB (call_sortedD rfl) (by rfl) b_sorted (by decide +kernel) (pa_cons (pv 3) pa_nil))))))))), ?_⟩
  refine ⟨_, rfl, pen, sp, 8, rfl, by decide, by decide, hp, fun H1 y hy b1 p1 => ?_⟩
  refine ⟨_, rfl, _, _, rfl, rfl, _, rfl, ite2 (fun hlt => ?_) (fun _ => ?_)⟩
  · have hy4 : y < 4 := by have := of_decide_eq_true hlt; omega
    refine ⟨(by show 2 ≤ sizeLine; decide), fun l1 n1 => ⟨(by show 3 ≤ sizeLine; decide), fun l2 n2 => ⟨(by show 3 ≤ sizeLine; decide), fun l3 n3 => ⟨(by show 3 ≤ sizeLine; decide), fun l4 n4 => ⟨(by show 4 ≤ sizeLine; decide), fun L nL => ?_⟩⟩⟩⟩⟩
    have q1 : Same H1 (upd H1 l1 (.lst [.str "a", .str "b"])) := .new n1
    have t1 : (upd H1 l1 (.lst [.str "a", .str "b"])) l1 = some (.lst [.str "a", .str "b"]) := upd_same
    generalize upd H1 l1 (.lst [.str "a", .str "b"]) = A1 at *
    have q2 : Same A1 (upd A1 l2 (.lst [.str "a", .str "ab", .str "b"])) := .new n2
    have t2 : (upd A1 l2 (.lst [.str "a", .str "ab", .str "b"])) l2 = some (.lst [.str "a", .str "ab", .str "b"]) := upd_same
    generalize upd A1 l2 (.lst [.str "a", .str "ab", .str "b"]) = A2 at *
    have q3 : Same A2 (upd A2 l3 (.lst [.str "b", .str "ba", .str "c"])) := .new n3
    have t3 : (upd A2 l3 (.lst [.str "b", .str "ba", .str "c"])) l3 = some (.lst [.str "b", .str "ba", .str "c"]) := upd_same
    generalize upd A2 l3 (.lst [.str "b", .str "ba", .str "c"]) = A3 at *
    have q4 : Same A3 (upd A3 l4 (.lst [.str "z", .str "zz", .str "zzzzzz"])) := .new n4
    have t4 : (upd A3 l4 (.lst [.str "z", .str "zz", .str "zzzzzz"])) l4 = some (.lst [.str "z", .str "zz", .str "zzzzzz"]) := upd_same
    generalize upd A3 l4 (.lst [.str "z", .str "zz", .str "zzzzzz"]) = A4 at *
    have q5 : Same A4 (upd A4 L (.lst [.ref l1, .ref l2, .ref l3, .ref l4])) := .new nL
    have tL : (upd A4 L (.lst [.ref l1, .ref l2, .ref l3, .ref l4])) L = some (.lst [.ref l1, .ref l2, .ref l3, .ref l4]) := upd_same
    generalize upd A4 L (.lst [.ref l1, .ref l2, .ref l3, .ref l4]) = A5 at *
    have q15 := ((((q1.trans q2).trans q3).trans q4).trans q5)
    have hall : ∀ m : Nat, m < 4 → ∃ (li : Addr) (ss : List Str), ([.ref l1, .ref l2, .ref l3, .ref l4] : List V)[m]? = some (.ref li) ∧ A5 li = some (.lst (ss.map V.str)) ∧ 0 < ss.length ∧ ss.length ≤ 3 ∧ ss.Pairwise SL ∧ (∀ t, t ∈ ss → signS t = true) := by
      have sgAll : ∀ l : List Str, l.all signS = true → ∀ t, t ∈ l → signS t = true := fun l h => List.all_eq_true.mp h
      intro m hm
      match m, hm with
      | 0, _ => exact ⟨l1, ["a", "b"], rfl, q5 _ _ (q4 _ _ (q3 _ _ (q2 _ _ t1))), by decide, by decide, by decide +kernel, sgAll _ (by decide +kernel)⟩
      | 1, _ => exact ⟨l2, ["a", "ab", "b"], rfl, q5 _ _ (q4 _ _ (q3 _ _ t2)), by decide, by decide, by decide +kernel, sgAll _ (by decide +kernel)⟩
      | 2, _ => exact ⟨l3, ["b", "ba", "c"], rfl, q5 _ _ (q4 _ _ t3), by decide, by decide, by decide +kernel, sgAll _ (by decide +kernel)⟩
      | 3, _ => exact ⟨l4, ["z", "zz", "zzzzzz"], rfl, q5 _ _ t4, by decide, by decide, by decide +kernel, sgAll _ (by decide +kernel)⟩
    obtain ⟨li, ss, e1, e2, e3, e4, e5, e6⟩ := hall y hy4
    refine ⟨_, rfl, L, _, _, _, rfl, rfl, sL tL, atI_nat (j := y) e1, ?_⟩
    exact k A5 li ss (b1.trans (.of q15)) (p1.same q15) e2 e3 e4 e5 e6
  · intro d nd
    obtain ⟨r1, r2⟩ := modLt (y : Int) (m := 2) (by decide)
    refine ⟨_, rfl, _, _, rfl, rfl, (by show (0 : Int) < 2; decide), _, _, rfl, rfl, _, rfl, by omega, by omega, ?_⟩
    have hn1 : 0 < (2 + (y : Int) % 2).toNat ∧ (2 + (y : Int) % 2).toNat ≤ 3 := by omega
    refine for_range (lo := 0) (n := (2 + (y : Int) % 2).toNat) (fun i σ H' => ∃ (kvs : List (Key × V)) (ks : List Str) (o4 o5 : Option V), σ = [some (.ref pen), some (.int (y : Int)), some (.str "abcdefghijklmnopqrstuvwxyz"), some (.ref d), o4, o5, none] ∧ But pen H1 H' ∧ PenAt H' pen sp ∧ H' d = some (.dK kvs) ∧ kvs.map (·.1) = ks.map Sum.inr ∧ ks.length ≤ i ∧ (0 < i → ks ≠ []) ∧ ks.Nodup ∧ ∀ t, t ∈ ks → signS t = true)
      ⟨[], [], none, none, rfl, .of (.new nd), p1.same (.new nd), upd_same, rfl, Nat.zero_le _, fun h => absurd h (by omega), by simp, fun t h => by cases h⟩ ?_ ?_
    · rintro i σ H2 hi ⟨kvs, ks, o4, o5, rfl, b2, p2, hd, hk, hl, _, hknd, hksg⟩
      refine ⟨_, rfl, pen, sp, 6, rfl, by decide, by decide, p2, fun H3 u hu6 b3 p3 => ⟨_, _, rfl, rfl, _, rfl, by omega, by omega, fun D hD => ?_⟩⟩
      have nd' : d ≠ pen := by
        obtain ⟨_, _, _, x1, _⟩ := p2
        rintro rfl
        rw [x1] at hd
        cases hd
      have hd3 := b3 _ _ hd nd'
      have hm : (1 + (u : Int)).toNat ≤ 6 := by omega
      refine lc_range (lo := 0) (n := (1 + (u : Int)).toNat) (fun i H' => ∃ ws : List Nat, But pen H3 H' ∧ PenAt H' pen sp ∧ H' D = some (.lst ((ws.map oneS).map V.str)) ∧ ws.length = i ∧ ws.all letter = true)
        ⟨[], .of (.new hD), p3.same (.new hD), upd_same, rfl, rfl⟩ ?_ ?_
      · rintro j H4 hj ⟨ws, b4, p4, hw, hwl, hw1⟩
        refine ⟨rfl, ?_⟩
        refine ⟨_, rfl, _, rfl, pen, sp, 26, rfl, by decide, by decide, p4, fun H5 c hc b5 p5 => ?_⟩
        obtain ⟨ch, hch, hlt⟩ := abc_at c hc
        refine ⟨_, _, ch, rfl, rfl, by decide +kernel, atI_nat hch, ?_⟩
        have hw5 := p4.strs b5 hw
        refine ⟨_, hw5, szb (by rw [List.length_map, List.length_map]; omega), ws ++ [ch], butW (b4.trans b5) hD, p5.w p3 hD, by rw [upd_same, List.map_append, List.map_append]; rfl, by rw [List.length_append, hwl]; rfl, ?_⟩
        rw [List.all_append, hw1]
        show (true && (letter ch && true)) = true
        rw [hlt]
        rfl
      · rintro H4 ⟨ws, b4, p4, hw, hwl, hw1⟩
        have hd4 := b4 _ _ hd3 nd'
        have hsum : ((ws.map oneS).map (·.length)).sum = ws.length := by
          clear hw hwl hw1
          induction ws with
          | nil => rfl
          | cons x l ih => simp only [List.map_cons, List.sum_cons, ih, List.length_cons]; show 1 + _ = _; omega
        refine ⟨_, rfl, ⟨_, rfl⟩, _, rfl, "", D, ws.map oneS, rfl, rfl, .inl (sL hw), ?_, d, _, rfl, DPut.k (k := .inr _) hd4 (szb (by have := congrArg List.length hk; rw [List.length_map, List.length_map] at this; omega)), ?_⟩
        · rw [hsum]
          have : (Str.ofString "").length = 0 := rfl
          rw [this]
          omega
        · obtain ⟨ks', g1, g2, g3, g4, g5⟩ := putKeys (s := Txt.join "" (ws.map oneS)) (v := V.bl true) hk hknd (word_sign hw1 (by omega) (by omega)) hksg
          have nl : ∀ l, (HO.dK kvs) ≠ .lst l := fun l e => by cases e
          obtain ⟨ns, ii, z, x1, x2, x3⟩ := id p4
          have nsd : sp ≠ d := by rintro rfl; rw [hd4] at x2; cases x2
          refine ⟨_, ks', _, _, rfl, ?_, ⟨ns, ii, z, by rw [upd_ne nd'.symm]; exact x1, by rw [upd_ne nsd]; exact x2, x3⟩, upd_same, g1, by omega, fun _ => g3, g4, g5⟩
          exact butW (b2.trans (b3.trans b4)) nd
    · rintro σ H2 ⟨kvs, ks, o4, o5, rfl, b2, p2, hd, hk, hl, hne, hknd, hksg⟩
      refine ⟨_, rfl, d, kvs, ks, rfl, .inl hd, hk, by omega, fun ys p hperm hsort hp' => ?_⟩
      have hlen := hperm.length_eq
      have hpos : 0 < ks.length := by
        cases ks with
        | nil => exact absurd rfl (hne hn1.1)
        | cons a b => simp
      exact k _ p ys (b1.trans (b2.trans (.of (.new hp')))) (p2.same (.new hp')) upd_same (by omega) (by omega) (sortedS_up hsort (hperm.nodup_iff.mpr hknd)) fun t ht => hksg t (hperm.mem_iff.mp ht)
end
end Sw
set_option Elab.async false
set_option maxRecDepth 100000
set_option maxHeartbeats 8000000
namespace Sw
open PySem L2 PySem.Spec PyProof.Rows
section
variable {X : Cx}
/-- x in, not in a tuple, a list of data of any depth -/
def rInT (K : PySem.W.Frag) : R2 := fun x y H Q => ∃ d ds, Dp K H x d ∧ Dp K H y (.tuple ds) ∧ SeqAt.shaped d = true ∧ SeqAt.shaped (.tuple ds) = true ∧ Q (.bl (ds.any fun z => PyData.eqv z d)) H
theorem op_inT (hu : X.A.units + 65 < cLine) : OpR X (compareOp .In) (rInT X.K) := by
  intro pins s σ H x y v u Q I rx ry h
  obtain ⟨d, ds, hd, he, sd, se, q⟩ := h
  obtain ⟨as, r1⟩ := Dp.reads I d x v hd rx
  obtain ⟨bs, r2⟩ := Dp.reads I (.tuple ds) y u he ry
  exact SeqAt.in_tuple_reads r2 r1 (SeqAt.canLay_of_shaped se) (SeqAt.canLay_of_shaped sd) (room_in_shaped sd hu) ⟨.bl _, H, I, rfl, q⟩
def rNotInL (K : PySem.W.Frag) : R2 := fun x y H Q => ∃ d ds, Dp K H x d ∧ Dp K H y (.list ds) ∧ SeqAt.shaped d = true ∧ SeqAt.shaped (.list ds) = true ∧ Q (.bl (!ds.any fun z => PyData.eqv z d)) H
theorem op_notInL (hu : X.A.units + 65 < cLine) : OpR X (compareOp .NotIn) (rNotInL X.K) := by
  intro pins s σ H x y v u Q I rx ry h
  obtain ⟨d, ds, hd, he, sd, se, q⟩ := h
  obtain ⟨as, r1⟩ := Dp.reads I d x v hd rx
  obtain ⟨bs, r2⟩ := Dp.reads I (.list ds) y u he ry
  exact SeqAt.notIn_list_reads r2 r1 (SeqAt.canLay_of_shaped se) (SeqAt.canLay_of_shaped sd) (room_in_shaped sd hu) ⟨.bl _, H, I, rfl, q⟩
theorem units65 {k : Nat} {A : Around} (r : Room k A) : A.units + 65 < cLine := by have := r.un; omega
end
/-! ### the plain counts -/
def pairD (l : Nat) (h : Option Nat) : PyData := .tuple [.int (l : Int), match h with | some n => .int (n : Int) | none => .none]
def pcD : List PyData := [pairD 0 (some 1), pairD 0 none, pairD 1 none]
theorem pair_eqv (l : Nat) (h : Option Nat) (l' : Nat) (h' : Option Nat) : PyData.eqv (pairD l h) (pairD l' h') = decide ((l', h') = (l, h)) := by
  have e1 : ((l : Int) == (l' : Int)) = decide (l' = l) := by
    by_cases q : l' = l
    · rw [q]; simp
    · rw [decide_eq_false q]; exact beq_eq_false_iff_ne.mpr (by omega)
  cases h with
  | none =>
    cases h' with
    | none =>
      simp only [pairD, PyData.eqv, PyData.eqvAll, e1]
      by_cases q : l' = l <;> simp [q]
    | some m =>
      simp only [pairD, PyData.eqv, PyData.eqvAll, e1]
      simp
  | some n =>
    cases h' with
    | none =>
      simp only [pairD, PyData.eqv, PyData.eqvAll, e1]
      simp
    | some m =>
      have e2 : ((n : Int) == (m : Int)) = decide (m = n) := by
        by_cases q : m = n
        · rw [q]; simp
        · rw [decide_eq_false q]; exact beq_eq_false_iff_ne.mpr (by omega)
      simp only [pairD, PyData.eqv, PyData.eqvAll, e1, e2]
      by_cases q : l' = l <;> by_cases q2 : m = n <;> simp [q, q2]
theorem sh_pair (l : Nat) (h : Option Nat) : SeqAt.shaped (pairD l h) = true := by cases h <;> rfl
theorem sh_pc : SeqAt.shaped (.tuple pcD) = true := rfl
theorem sh_pcL : SeqAt.shaped (.list pcD) = true := rfl
theorem dpPair {K : PySem.W.Frag} {H : Hp} {a : Addr} {l : Nat} {h : Option Nat} (q : SqT K H a [.int (l : Int), highV h]) : Dp K H (.ref a) (pairD l h) := by
  cases h with
  | none => exact .tup q (.cons (.int _) (.cons .non .nil))
  | some n => exact .tup q (.cons (.int _) (.cons (.int _) .nil))

/-! ### what opened makes of a form -/
def plc (l : Nat) (h : Option Nat) : Bool := decide ((l, h) = (0, some 1)) || (decide ((l, h) = (0, none)) || decide ((l, h) = (1, none)))
theorem pc_plc (l : Nat) (h : Option Nat) : (pcD.any fun z => PyData.eqv z (pairD l h)) = plc l h := by
  unfold pcD plc
  simp only [List.any_cons, List.any_nil, pair_eqv, Bool.or_false]
def rowOf : List Fm → Fm
  | [f] => f
  | fs => .row fs
theorem rowOf_two (f g : Fm) (fs : List Fm) : rowOf (f :: g :: fs) = .row (f :: g :: fs) := rfl
def upT (f : Fm) : Nat → Fm
  | 0 => .times f 0 (some 1)
  | n + 1 => .times (.row [f, upT f n]) 0 (some 1)
def op1 (p : Fm) (l : Nat) (h : Option Nat) : Fm :=
  if plc l h = true then .times p l h else
  match h with
  | none => rowOf (List.replicate (l - 1) p ++ [.times p 1 none])
  | some n => if n = l then rowOf (List.replicate l p) else rowOf (List.replicate l p ++ [upT p (n - l - 1)])
def sz1 (m l : Nat) (h : Option Nat) : Nat :=
  if plc l h = true then 1 + m else
  match h with
  | none => 1 + l * m + 1
  | some n => l * m + (if l < n then (n - l) * (1 + m) + (n - l) - 1 else 0) + (if l + min (n - l) 1 > 1 then 1 else 0)
theorem sz1_none {m l : Nat} (h : plc l none = false) : sz1 m l none = 1 + l * m + 1 := by
  unfold sz1
  rw [if_neg (by rw [h]; exact Bool.false_ne_true)]
theorem sz1_some {m l n : Nat} (h : plc l (some n) = false) : sz1 m l (some n) = l * m + (if l < n then (n - l) * (1 + m) + (n - l) - 1 else 0) + (if l + min (n - l) 1 > 1 then 1 else 0) := by
  unfold sz1
  rw [if_neg (by rw [h]; exact Bool.false_ne_true)]
theorem op1_plain {p : Fm} {l : Nat} {h : Option Nat} (e : plc l h = true) : op1 p l h = .times p l h := by
  unfold op1
  rw [if_pos e]
theorem op1_none {p : Fm} {l : Nat} (h : plc l none = false) : op1 p l none = rowOf (List.replicate (l - 1) p ++ [.times p 1 none]) := by
  unfold op1
  rw [if_neg (by rw [h]; exact Bool.false_ne_true)]
theorem op1_some {p : Fm} {l n : Nat} (h : plc l (some n) = false) : op1 p l (some n) = if n = l then rowOf (List.replicate l p) else rowOf (List.replicate l p ++ [upT p (n - l - 1)]) := by
  unfold op1
  rw [if_neg (by rw [h]; exact Bool.false_ne_true)]
mutual
def Fm.op : Fm → Fm
  | .sign s => .sign s
  | .row ps => .row (Fm.ops ps)
  | .pick ps => .pick (Fm.ops ps)
  | .times p l h => op1 p.op l h
def Fm.ops : List Fm → List Fm
  | [] => []
  | p :: ps => p.op :: Fm.ops ps
end
theorem ops_map : ∀ ps : List Fm, Fm.ops ps = ps.map Fm.op
  | [] => rfl
  | p :: ps => by rw [Fm.ops, ops_map ps]; rfl
mutual
def Fm.osz : Fm → Nat
  | .sign _ => 1
  | .row ps => 1 + Fm.oszs ps
  | .pick ps => 1 + Fm.oszs ps
  | .times p l h => sz1 p.osz l h
def Fm.oszs : List Fm → Nat
  | [] => 0
  | p :: ps => p.osz + Fm.oszs ps
end
theorem oszs_map : ∀ ps : List Fm, Fm.oszs ps = (ps.map Fm.osz).sum
  | [] => rfl
  | p :: ps => by rw [Fm.oszs, oszs_map ps]; rfl
def bd1 (l : Nat) : Option Nat → Bool
  | none => decide (l ≤ 12)
  | some n => decide (l ≤ n) && (decide (1 ≤ n) && decide (n ≤ 12))
mutual
def Fm.bd : Fm → Bool
  | .sign _ => true
  | .row ps => Fm.bds ps
  | .pick ps => Fm.bds ps
  | .times p l h => p.bd && bd1 l h
def Fm.bds : List Fm → Bool
  | [] => true
  | p :: ps => p.bd && Fm.bds ps
end
theorem bd1_l {l : Nat} {h : Option Nat} (b : bd1 l h = true) : l ≤ 12 := by
  cases h with
  | none => exact of_decide_eq_true b
  | some n =>
    simp [bd1] at b
    omega
theorem sz1_le {m l : Nat} {h : Option Nat} (b : bd1 l h = true) : m ≤ sz1 m l h := by
  unfold sz1
  split
  · omega
  rename_i hp
  cases h with
  | none =>
    have : l ≠ 0 := by
      rintro rfl
      exact hp (by decide)
    have := Nat.le_mul_of_pos_left m (Nat.pos_of_ne_zero this)
    show m ≤ 1 + l * m + 1
    omega
  | some n =>
    simp [bd1] at b
    show m ≤ l * m + (if l < n then (n - l) * (1 + m) + (n - l) - 1 else 0) + (if l + min (n - l) 1 > 1 then 1 else 0)
    by_cases h0 : l = 0
    · subst h0
      rw [if_pos (by omega)]
      have := Nat.le_mul_of_pos_left (1 + m) (show 0 < n - 0 by omega)
      omega
    · have := Nat.le_mul_of_pos_left m (Nat.pos_of_ne_zero h0)
      omega
theorem osz_pos : ∀ f : Fm, f.bd = true → 0 < f.osz
  | .sign _, _ => by simp [Fm.osz]
  | .row _, _ => by rw [Fm.osz]; omega
  | .pick _, _ => by rw [Fm.osz]; omega
  | .times p l h, b => by
    rw [Fm.bd, Bool.and_eq_true] at b
    have := osz_pos p b.1
    have := sz1_le (m := p.osz) b.2
    rw [Fm.osz]
    omega
mutual
theorem laid_osz : ∀ (f : Fm) (n : Nat) (t : Fm × List Nat), f.bd = true → t ∈ laidF f n → t.1.osz ≤ f.osz ∧ t.1.bd = true
  | .sign s, n, t, b, h => by simp [laidF] at h; subst h; exact ⟨Nat.le_refl _, b⟩
  | .row ps, n, t, b, h => by
    rw [laidF] at h
    rcases List.mem_cons.mp h with rfl | h
    · exact ⟨Nat.le_refl _, b⟩
    · have := laids_osz ps (n + 1) t (by rw [Fm.bd] at b; exact b) h
      rw [Fm.osz]
      exact ⟨by omega, this.2⟩
  | .pick ps, n, t, b, h => by
    rw [laidF] at h
    rcases List.mem_cons.mp h with rfl | h
    · exact ⟨Nat.le_refl _, b⟩
    · have := laids_osz ps (n + 1) t (by rw [Fm.bd] at b; exact b) h
      rw [Fm.osz]
      exact ⟨by omega, this.2⟩
  | .times p l u, n, t, b, h => by
    rw [laidF] at h
    rcases List.mem_cons.mp h with rfl | h
    · exact ⟨Nat.le_refl _, b⟩
    · rw [Fm.bd, Bool.and_eq_true] at b
      obtain ⟨q1, q2⟩ := laid_osz p (n + 1) t b.1 h
      have := sz1_le (m := p.osz) b.2
      rw [Fm.osz]
      exact ⟨by omega, q2⟩
theorem laids_osz : ∀ (ps : List Fm) (n : Nat) (t : Fm × List Nat), Fm.bds ps = true → t ∈ laidFs ps n → t.1.osz ≤ Fm.oszs ps ∧ t.1.bd = true
  | [], n, t, _, h => by simp [laidFs] at h
  | p :: ps, n, t, b, h => by
    rw [laidFs] at h
    rw [Fm.bds, Bool.and_eq_true] at b
    rw [Fm.oszs]
    rcases List.mem_append.mp h with h | h
    · have := laid_osz p n t b.1 h
      exact ⟨by omega, this.2⟩
    · have := laids_osz ps (n + p.size) t b.2 h
      exact ⟨by omega, this.2⟩
end
end Sw
set_option Elab.async false
set_option maxRecDepth 100000
set_option maxHeartbeats 8000000
namespace Sw
open PySem L2 PySem.Spec PyProof.Rows
theorem fmsLen {K : PySem.W.Frag} {H : Hp} {vs : List V} {fs : List Fm} (h : FmsAt K H vs fs) : vs.length = fs.length := by
  have := dpsLen h
  rw [Fm.dats_map, List.length_map] at this
  exact this
theorem sqLS {K : PySem.W.Frag} {H H' : Hp} {a : Addr} {xs : List V} (e : Same H H') (h : SqL K H a xs) : SqL K H' a xs := by
  rcases h with h | h
  · exact .inl (e.rd h)
  · exact .inr h
theorem fmTup4 {K : PySem.W.Frag} {H : Hp} {p : Addr} {u : V} {f : Fm} {l : Nat} {h : Option Nat} (ht : SqT K H p [.str "times", u, .int (l : Int), highV h]) (hu : FmAt K H u f) : FmAt K H (.ref p) (.times f l h) := by
  refine .tup ht (.cons (.str _) (.cons hu (.cons (.int _) (.cons (highDp h) .nil))))
theorem fmRow2 {K : PySem.W.Frag} {H : Hp} {p q : Addr} {us : List V} {fs : List Fm} (ht : SqT K H p [.str "row", .ref q]) (hq : SqT K H q us) (hu : FmsAt K H us fs) : FmAt K H (.ref p) (.row fs) :=
  .tup ht (.cons (.str _) (.cons (.tup hq hu) .nil))
theorem fmPick2 {K : PySem.W.Frag} {H : Hp} {p q : Addr} {us : List V} {fs : List Fm} (ht : SqT K H p [.str "pick", .ref q]) (hq : SqT K H q us) (hu : FmsAt K H us fs) : FmAt K H (.ref p) (.pick fs) :=
  .tup ht (.cons (.str _) (.cons (.tup hq hu) .nil))
section
variable {P : Program} {w : World} {K : PySem.W.Frag} {mg : Str → Option Value} {base : Heap}
abbrev n_row_of : List Str := ["forms"]
theorem sc_row_of : FnScope n_row_of ["forms"] (defScope s_row_of) := ⟨rfl, rfl, rfl, by decide +kernel, rfl, by decide +kernel, by decide +kernel⟩
def spRowOf (K : PySem.W.Frag) : Sp := fun vs H Q _ => ∃ (a : Addr) (us : List V) (fs : List Fm), vs = [.ref a] ∧ SqL K H a us ∧ FmsAt K H us fs ∧ ∀ H' v, Same H H' → FmAt K H' v (rowOf fs) → Q v H'
theorem ok_row_of (F : DefAt K mg "row_of" s_row_of ["forms"]) (b_len : mg "len" = none) (b_tuple : mg "tuple" = none) : DefOk P w K mg base "row_of" 1 ["forms"] (spRowOf K) := by
  refine F.ok sc_row_of (fun vs H Q E h => ?_) (fun f cdv A outer s H vs Q E hr h => ?_)
  · obtain ⟨_, _, _, rfl, _⟩ := h
    rfl
  obtain ⟨a, us, fs, rfl, ha, hu, k⟩ := h
  refine ⟨_, (pss_one (ps_ret (pe_ifExp (pt_cmpR op_eq (pe_callB call_len_seq (by rfl) b_len PySem.boot_len (pa_cons (pv 0) pa_nil)) pe_int (nomark _)) (pe_ix ix_list (pv 0) pe_int (fun _ _ => rfl)) (pe_tup (pa_cons pe_str (pa_cons (pe_callTy call_tuple_of (by rfl) b_tuple (by decide +kernel) (pa_cons (pv 0) pa_nil)) pa_nil)))))), ?_⟩
  have hl := fmsLen hu
  refine ⟨_, rfl, a, _, rfl, .inl ha, rfl, _, rfl, ?_⟩
  by_cases h1 : us.length = 1
  · rw [decide_eq_true (show V.int (us.length : Int) = V.int 1 by rw [h1]; rfl)]
    refine iteT ?_
    obtain ⟨u, rfl⟩ := List.length_eq_one_iff.mp h1
    obtain ⟨f, rfl⟩ := List.length_eq_one_iff.mp (hl.symm.trans h1)
    obtain ⟨v0, us0, e, hv, _⟩ := dpCons hu
    cases e
    exact ⟨_, rfl, a, _, 0, _, rfl, rfl, ha, atI_nat (j := 0) rfl, k H u (.refl _) hv⟩
  · rw [decide_eq_false (show ¬ V.int (us.length : Int) = V.int 1 from fun e => h1 (by have := V.int.inj e; omega))]
    refine iteF ?_
    have er : rowOf fs = .row fs := by
      match fs, hl with
      | [], _ => rfl
      | [f], e => exact absurd e h1
      | f :: g :: r, _ => rfl
    rw [er] at k
    refine ⟨_, rfl, a, _, rfl, .inl ⟨ha, fun l hn => ?_⟩⟩
    refine ⟨by show 2 ≤ sizeLine; decide, fun p hp => k _ (.ref p) ((Same.new hn).trans (.new hp)) ?_⟩
    exact fmRow2 (sT upd_same) ((Same.new hp).sqT (sT upd_same)) (dpsS ((Same.new hn).trans (.new hp)) hu)
abbrev n_up_to : List Str := ["part", "many", "told", "_"]
theorem sc_up_to : FnScope n_up_to ["part", "many"] (defScope s_up_to) := ⟨rfl, rfl, rfl, by decide +kernel, rfl, by decide +kernel, by decide +kernel⟩
def spUpTo (K : PySem.W.Frag) : Sp := fun vs H Q _ => ∃ (v : V) (f : Fm) (n : Nat), vs = [v, .int ((n : Int) + 1)] ∧ FmAt K H v f ∧ n ≤ 1000 ∧ ∀ H' v', Same H H' → FmAt K H' v' (upT f n) → Q v' H'
theorem ok_up_to (F : DefAt K mg "_up_to" s_up_to ["part", "many"]) (b_range : mg "range" = none) : DefOk P w K mg base "_up_to" 1 ["part", "many"] (spUpTo K) := by
  refine F.ok sc_up_to (fun vs H Q E h => ?_) (fun f cdv A outer s H vs Q E hr h => ?_)
  · obtain ⟨_, _, _, rfl, _⟩ := h
    rfl
  obtain ⟨v, fm, n, rfl, hf, hn, k⟩ := h
  refine ⟨_, (pss_cons (ps_set (i := 2) sc_up_to.nd rfl (Or.inl rfl) (pe_tup (pa_cons pe_str (pa_cons (pv 0) (pa_cons pe_int (pa_cons pe_int pa_nil))))))
    (pss_cons (ps_for PassesOwn.never rfl (pi_range1 rfl b_range (pa_cons (pe_op op_sub (pv 1) pe_int) pa_nil)) (pg_name (i := 3) sc_up_to.nd rfl (Or.inl rfl))
      (pss_one (ps_set (i := 2) sc_up_to.nd rfl (Or.inl rfl) (pe_tup (pa_cons pe_str (pa_cons (pe_tup (pa_cons pe_str (pa_cons (pe_tup (pa_cons (pv 0) (pa_cons (pv 2) pa_nil))) pa_nil))) (pa_cons pe_int (pa_cons pe_int pa_nil))))))))
    (pss_one (ps_ret (pv 2))))), ?_⟩
  refine ⟨_, rfl, by show 4 ≤ sizeLine; decide, fun p0 hp0 => ?_⟩
  have q0 : FmAt K (upd H p0 (.tup [.str "times", v, .int 0, .int 1])) (.ref p0) (upT fm 0) := fmTup4 (h := some 1) (sT upd_same) (dpS (.new hp0) hf)
  refine ⟨_, rfl, _, _, rfl, rfl, _, rfl, by omega, by omega, ?_⟩
  have hz : ((n : Int) + 1 - 1).toNat = n := by omega
  refine for_range (lo := 0) (n := ((n : Int) + 1 - 1).toNat) (fun i σ H' => ∃ (p : V) (o3 : Option V), σ = [some v, some (.int ((n : Int) + 1)), some p, o3] ∧ Same H H' ∧ FmAt K H' p (upT fm i)) ⟨_, _, rfl, .new hp0, q0⟩ ?_ ?_
  · rintro i σ H1 hi ⟨p, o3, rfl, s1, hp⟩
    refine ⟨_, rfl, _, rfl, (by show 2 ≤ sizeLine; decide), fun p1 n1 => ⟨(by show 2 ≤ sizeLine; decide), fun p2 n2 => ⟨(by show 4 ≤ sizeLine; decide), fun p3 n3 => ?_⟩⟩⟩
    have s4 := (Same.new n1).trans ((Same.new n2).trans (Same.new n3 (o := .tup [.str "times", .ref p2, .int 0, .int 1])))
    refine ⟨_, _, rfl, s1.trans s4, fmTup4 (h := some 1) (l := 0) (sT upd_same) ?_⟩
    exact fmRow2 ((Same.new n3).sqT (sT upd_same)) (((Same.new n2).trans (.new n3)).sqT (sT upd_same)) (.cons (dpS (s1.trans s4) hf) (.cons (dpS s4 hp) .nil))
  · rintro σ H1 ⟨p, o3, rfl, s1, hp⟩
    rw [hz] at hp
    exact ⟨_, rfl, k _ _ s1 hp⟩
abbrev n_many_opened : List Str := ["piece", "parts", "low", "high", "more", "many"]
theorem sc_many_opened : FnScope n_many_opened ["piece", "parts"] (defScope s_many_opened) := ⟨rfl, rfl, rfl, by decide +kernel, rfl, by decide +kernel, by decide +kernel⟩
def natI (ns : List Nat) : List V := ns.map fun n : Nat => V.int (n : Int)
def spManyO (K : PySem.W.Frag) : Sp := fun vs H Q _ => ∃ v f a, vs = [v, .ref a] ∧ FmAt K H v f ∧ f.bd = true ∧ SqL K H a (natI (f.parts.map Fm.osz)) ∧ ∀ H', Same H H' → Q (.int (f.osz : Int)) H'
theorem natI_eq (ns : List Nat) : natI ns = (ns.map fun n : Nat => (n : Int)).map V.int := by
  rw [natI, List.map_map]
  rfl
theorem sum_cast : ∀ ns : List Nat, (ns.map fun n : Nat => (n : Int)).sum = (ns.sum : Nat)
  | [] => rfl
  | n :: ns => by
    rw [List.map_cons, List.sum_cons, List.sum_cons, sum_cast ns]
    omega
theorem ok_many_opened (F : DefAt K mg "_many_opened" s_many_opened ["piece", "parts"]) (b_min : mg "min" = none) (b_sum : mg "sum" = none) (g_pc : ∃ c, mg "PLAIN_COUNTS" = some (.ref c) ∧ ∀ H, Dp K H (.ref c) (.tuple pcD)) :
    DefOk P w K mg base "_many_opened" 1 ["piece", "parts"] (spManyO K) := by
  obtain ⟨pc, g_pc, hpc⟩ := g_pc
  refine F.ok sc_many_opened (fun vs H Q E h => ?_) (fun f cdv A outer s H vs Q E hr h => ?_)
  · obtain ⟨_, _, _, rfl, _⟩ := h
    rfl
  obtain ⟨v, f, pa, rfl, hf, hb, hp, k⟩ := h
  refine ⟨_, (pss_cons (ps_if (PW.pt (pw_or (pt_cmpR op_ne (pe_ix ix_tup (pv 0) pe_int (fun _ _ => rfl)) pe_str (nomark _)) (pw_or1 (pt_cmpR (r := rInT K) (op_inT (units65 hr)) (pe_tup (pa_cons (pe_ix ix_tup (pv 0) pe_int (fun _ _ => rfl)) (pa_cons (pe_ix ix_tup (pv 0) pe_int (fun _ _ => rfl)) pa_nil))) (pe_glob (v := .ref pc) rfl g_pc rfl) (by rfl))))) (pss_one (ps_ret (pe_op op_add pe_int (pe_callB (cr_sum rfl) (by rfl) b_sum (by decide +kernel) (pa_cons (pv 1) pa_nil))))) pss_nil)
    (pss_cons (ps_par (i := 2) (j := 3) rfl sc_many_opened.nd rfl rfl (by decide) rfl rfl (pa_cons (pe_ix ix_tup (pv 0) pe_int (fun _ _ => rfl)) (pa_cons (pe_ix ix_tup (pv 0) pe_int (fun _ _ => rfl)) pa_nil)) (by rfl))
    (pss_cons (ps_if (pt_cmp (pc_isN (pv 3)) rfl) (pss_one (ps_ret (pe_op op_add (pe_op op_add pe_int (pe_op op_mul (pv 2) (pe_ix ix_list (pv 1) pe_int (fun _ _ => rfl)))) pe_int))) pss_nil)
    (pss_cons (ps_set (i := 4) sc_many_opened.nd rfl (Or.inl rfl) (pe_op op_sub (pv 3) (pv 2)))
    (pss_cons (ps_set (i := 5) sc_many_opened.nd rfl (Or.inl rfl) (pe_op op_mul (pv 2) (pe_ix ix_list (pv 1) pe_int (fun _ _ => rfl))))
    (pss_cons (ps_if (pt_cmpR op_gt (pv 4) pe_int (nomark _)) (pss_one (ps_aug (i := 5) sc_many_opened.nd rfl (Or.inl rfl) (pe_op op_sub (pe_op op_add (pe_op op_mul (pv 4) (pe_op op_add pe_int (pe_ix ix_list (pv 1) pe_int (fun _ _ => rfl)))) (pv 4)) pe_int) ip_add)) pss_nil)
    (pss_one (ps_ret (pe_op op_add (pv 5) (pe_ifExp (pt_cmpR op_gt (pe_op op_add (pv 2) (pe_callB (call_min2 rfl) (by rfl) b_min (by decide +kernel) (pa_cons (pv 4) (pa_cons pe_int pa_nil)))) pe_int (nomark _)) pe_int pe_int)))))))))), ?_⟩
  rw [natI_eq] at hp
  have kk : ∀ z : Int, z = (f.osz : Int) → ∀ H', Same H H' → Q (.int z) H' := fun z e H' s => by rw [e]; exact k H' s
  cases f with
  | sign s =>
    obtain ⟨a, rfl, ht⟩ := fmSign hf
    refine ⟨_, rfl, a, _, 0, _, rfl, rfl, ht, atI_nat (j := 0) rfl, rfl, _, rfl, ?_⟩
    refine iteT (iteT ?_)
    exact ⟨_, rfl, pa, _, rfl, hp, _, _, rfl, rfl, k H (.refl _)⟩
  | row ps =>
    obtain ⟨a, b, vs, rfl, ht, _, hv⟩ := fmRow hf
    refine ⟨_, rfl, a, _, 0, _, rfl, rfl, ht, atI_nat (j := 0) rfl, rfl, _, rfl, ?_⟩
    refine iteT (iteT ?_)
    refine ⟨_, rfl, pa, _, rfl, hp, _, _, rfl, rfl, ?_⟩
    have e : (1 : Int) + ((((Fm.row ps).parts.map Fm.osz)).map fun n : Nat => (n : Int)).sum = ((Fm.row ps).osz : Int) := by
      rw [Fm.osz, oszs_map, sum_cast]
      show (1 : Int) + ((ps.map Fm.osz).sum : Nat) = _
      omega
    exact kk _ e _ (.refl _)
  | pick ps =>
    obtain ⟨a, b, vs, rfl, ht, _, hv⟩ := fmPick hf
    refine ⟨_, rfl, a, _, 0, _, rfl, rfl, ht, atI_nat (j := 0) rfl, rfl, _, rfl, ?_⟩
    refine iteT (iteT ?_)
    refine ⟨_, rfl, pa, _, rfl, hp, _, _, rfl, rfl, ?_⟩
    have e : (1 : Int) + ((((Fm.pick ps).parts.map Fm.osz)).map fun n : Nat => (n : Int)).sum = ((Fm.pick ps).osz : Int) := by
      rw [Fm.osz, oszs_map, sum_cast]
      show (1 : Int) + ((ps.map Fm.osz).sum : Nat) = _
      omega
    exact kk _ e _ (.refl _)
  | times p l h =>
    obtain ⟨a, u, rfl, ht, hu⟩ := fmTimes hf
    rw [Fm.bd, Bool.and_eq_true] at hb
    have hl := bd1_l hb.2
    have hp' : SqL K H pa [V.int (p.osz : Int)] := hp
    refine ⟨_, rfl, a, _, 0, _, rfl, rfl, ht, atI_nat (j := 0) rfl, rfl, _, rfl, ?_⟩
    refine iteF ?_
    refine ⟨_, rfl, a, _, 2, _, rfl, rfl, ht, atI_nat (j := 2) rfl, _, rfl, a, _, 3, _, rfl, rfl, ht, atI_nat (j := 3) rfl, (by show 2 ≤ sizeLine; decide), fun p1 n1 => ?_⟩
    have s1 : Same H (upd H p1 (.tup [.int (l : Int), highV h])) := .new n1
    refine ⟨pairD l h, pcD, dpPair (sT upd_same), hpc _, sh_pair _ _, sh_pc, _, rfl, ?_⟩
    rw [pc_plc]
    have ht1 := s1.sqT ht
    have hp1 : SqL K (upd H p1 (.tup [.int (l : Int), highV h])) pa [V.int (p.osz : Int)] := sqLS s1 hp'
    by_cases hc : plc l h = true
    · rw [hc]
      refine iteT ?_
      have e : (Fm.times p l h).osz = 1 + p.osz := by rw [Fm.osz]; unfold sz1; rw [if_pos hc]
      refine ⟨_, rfl, pa, [(p.osz : Int)], rfl, hp1, _, _, rfl, rfl, ?_⟩
      have e2 : (1 : Int) + ([(p.osz : Int)] : List Int).sum = ((Fm.times p l h).osz : Int) := by
        rw [e]; simp
      exact kk _ e2 _ s1
    · rw [Bool.not_eq_true] at hc
      rw [hc]
      refine iteF ?_
      refine ⟨_, rfl, a, _, 2, _, rfl, rfl, ht1, atI_nat (j := 2) rfl, _, rfl, a, _, 3, _, rfl, rfl, ht1, atI_nat (j := 3) rfl, ?_⟩
      have hcm : ∀ z : Int, CMul (l : Int) z := fun z => .inl ⟨by omega, by omega⟩
      cases h with
      | none =>
        refine ⟨_, _, rfl, _, rfl, _, rfl, iteT ?_⟩
        have e : (1 : Int) + (l : Int) * (p.osz : Int) + 1 = ((Fm.times p l none).osz : Int) := by
          rw [Fm.osz, sz1_none hc]
          simp
        exact ⟨_, rfl, _, rfl, pa, _, 0, _, rfl, rfl, hp1, atI_nat (j := 0) rfl, _, _, rfl, rfl, hcm _, _, _, rfl, rfl, _, _, rfl, rfl, kk _ e _ s1⟩
      | some n =>
        simp [bd1] at hb
        refine ⟨_, _, rfl, _, rfl, _, rfl, iteF ?_⟩
        refine ⟨_, rfl, _, rfl, _, _, rfl, rfl, ?_⟩
        refine ⟨_, rfl, _, rfl, pa, _, 0, _, rfl, rfl, hp1, atI_nat (j := 0) rfl, _, _, rfl, rfl, hcm _, ?_⟩
        have eo : ((Fm.times p l (some n)).osz : Int) = (l : Int) * (p.osz : Int) + ((if l < n then (n - l) * (1 + p.osz) + (n - l) - 1 else 0 : Nat) : Int) + ((if l + min (n - l) 1 > 1 then 1 else 0 : Nat) : Int) := by
          rw [Fm.osz, sz1_some hc]
          simp
        have ec : ∀ c : Bool, c = decide (1 < (l : Int) + (if (1 : Int) < (n : Int) - (l : Int) then 1 else (n : Int) - (l : Int))) → ((if l + min (n - l) 1 > 1 then 1 else 0 : Nat) : Int) = (if c = true then 1 else 0) := fun c ec => by
          by_cases q : l + min (n - l) 1 > 1
          · rw [if_pos q, ec, if_pos (decide_eq_true (by split <;> omega))]
            rfl
          · rw [if_neg q, ec, if_neg (by rw [decide_eq_true_eq]; split <;> omega)]
            rfl
        refine ⟨_, rfl, _, _, rfl, rfl, _, rfl, ite2 (fun hlt => ?_) (fun hlt => ?_)⟩
        · have hlt' : l < n := by have := of_decide_eq_true hlt; omega
          refine ⟨_, rfl, _, rfl, _, rfl, pa, _, 0, _, rfl, rfl, hp1, atI_nat (j := 0) rfl, _, _, rfl, rfl, _, _, rfl, rfl, .inl ⟨by omega, by omega⟩, _, rfl, _, _, rfl, rfl, _, _, rfl, rfl, _, _, rfl, rfl, ?_⟩
          refine ⟨_, rfl, _, rfl, _, rfl, _, _, rfl, _, _, rfl, rfl, _, _, rfl, rfl, _, rfl, ?_⟩
          have em : (((n - l) * (1 + p.osz) + (n - l) - 1 : Nat) : Int) = ((n : Int) - (l : Int)) * (1 + (p.osz : Int)) + ((n : Int) - (l : Int)) - 1 := by
            have h1 : 1 ≤ (n - l) * (1 + p.osz) + (n - l) := by omega
            rw [Int.natCast_sub h1, Int.natCast_add, Int.natCast_mul, Int.natCast_sub (by omega), Int.natCast_add]
            rfl
          rw [if_pos hlt', em] at eo
          refine ite2 (fun q => ?_) (fun q => ?_)
          · have e2 := ec _ rfl
            rw [if_pos q] at e2
            exact ⟨_, _, rfl, rfl, kk _ (by rw [eo, e2]) _ s1⟩
          · have e2 := ec _ rfl
            rw [if_neg q] at e2
            exact ⟨_, _, rfl, rfl, kk _ (by rw [eo, e2]) _ s1⟩
        · have hlt' : ¬ l < n := fun q => hlt (decide_eq_true (by omega))
          refine ⟨_, rfl, _, rfl, _, rfl, _, _, rfl, _, _, rfl, rfl, _, _, rfl, rfl, _, rfl, ?_⟩
          rw [if_neg hlt'] at eo
          refine ite2 (fun q => ?_) (fun q => ?_)
          · have e2 := ec _ rfl
            rw [if_pos q] at e2
            exact ⟨_, _, rfl, rfl, kk _ (by rw [eo, e2]; simp) _ s1⟩
          · have e2 := ec _ rfl
            rw [if_neg q] at e2
            exact ⟨_, _, rfl, rfl, kk _ (by rw [eo, e2]; simp) _ s1⟩
end
end Sw
set_option Elab.async false
set_option maxRecDepth 100000
set_option maxHeartbeats 8000000
namespace Sw
open PySem L2 PySem.Spec PyProof.Rows
theorem fmsRep {K : PySem.W.Frag} {H : Hp} {x : V} {f : Fm} (h : FmAt K H x f) : ∀ n : Nat, FmsAt K H (List.replicate n [x]).flatten (List.replicate n f)
  | 0 => .nil
  | n + 1 => by
    rw [List.replicate_succ, List.replicate_succ]
    exact .cons h (fmsRep h n)
theorem fmsApp {K : PySem.W.Frag} {H : Hp} : ∀ {xs ys : List V} {fs gs : List Fm}, FmsAt K H xs fs → FmsAt K H ys gs → FmsAt K H (xs ++ ys) (fs ++ gs)
  | _, _, [], _, h, g => by cases h; exact g
  | _, _, f :: fs, _, h, g => by
    cases h with
    | cons a b => exact .cons a (fmsApp b g)
theorem repLen {x : V} : ∀ n : Nat, (List.replicate n [x]).flatten.length = n
  | 0 => rfl
  | n + 1 => by rw [List.replicate_succ, List.flatten_cons, List.length_append, repLen n, List.length_singleton]; omega
section
variable {P : Program} {w : World} {K : PySem.W.Frag} {mg : Str → Option Value} {base : Heap}
abbrev n_opened1 : List Str := ["piece", "parts", "part", "low", "high"]
theorem sc_opened1 : FnScope n_opened1 ["piece", "parts"] (defScope s_opened1) := ⟨rfl, rfl, rfl, by decide +kernel, rfl, by decide +kernel, by decide +kernel⟩
def spOp1 (K : PySem.W.Frag) : Sp := fun vs H Q _ => ∃ v f a us, vs = [v, .ref a] ∧ FmAt K H v f ∧ f.bd = true ∧ SqL K H a us ∧ FmsAt K H us (f.parts.map Fm.op) ∧ ∀ H' v', Same H H' → FmAt K H' v' f.op → Q v' H'
theorem ok__opened (F : DefAt K mg "_opened" s_opened1 ["piece", "parts"]) (d_row_of : DefOk P w K mg base "row_of" 1 ["forms"] (spRowOf K)) (d__up_to : DefOk P w K mg base "_up_to" 1 ["part", "many"] (spUpTo K)) (b_tuple : mg "tuple" = none) (g_pc : ∃ c, mg "PLAIN_COUNTS" = some (.ref c) ∧ ∀ H, Dp K H (.ref c) (.tuple pcD)) :
    DefOk P w K mg base "_opened" 2 ["piece", "parts"] (spOp1 K) := by
  obtain ⟨pc, g_pc, hpc⟩ := g_pc
  refine F.ok sc_opened1 (fun vs H Q E h => ?_) (fun f cdv A outer s H vs Q E hr h => ?_)
  · obtain ⟨_, _, _, _, rfl, _⟩ := h
    rfl
  obtain ⟨v, f, pa, us, rfl, hf, hb, hp, hu, k⟩ := h
  refine ⟨_, (pss_cons (ps_if (pt_cmpR op_eq (pe_ix ix_tup (pv 0) pe_int (fun _ _ => rfl)) pe_str (nomark _)) (pss_one (ps_ret (pv 0))) pss_nil)
    (pss_cons (ps_if (pt_cmpR op_ne (pe_ix ix_tup (pv 0) pe_int (fun _ _ => rfl)) pe_str (nomark _)) (pss_one (ps_ret (pe_tup (pa_cons (pe_ix ix_tup (pv 0) pe_int (fun _ _ => rfl)) (pa_cons (pe_callTy call_tuple_of (by rfl) b_tuple (by decide +kernel) (pa_cons (pv 1) pa_nil)) pa_nil))))) pss_nil)
    (pss_cons (ps_par3 (i := 2) (j := 3) (l := 4) rfl sc_opened1.nd rfl rfl rfl (by decide) (by decide) (by decide) rfl rfl rfl (pa_cons (pe_ix ix_list (pv 1) pe_int (fun _ _ => rfl)) (pa_cons (pe_ix ix_tup (pv 0) pe_int (fun _ _ => rfl)) (pa_cons (pe_ix ix_tup (pv 0) pe_int (fun _ _ => rfl)) pa_nil))) (by rfl))
    (pss_cons (ps_if (pt_cmpR (r := rInT K) (op_inT (units65 hr)) (pe_tup (pa_cons (pv 3) (pa_cons (pv 4) pa_nil))) (pe_glob (v := .ref pc) rfl g_pc rfl) (by rfl)) (pss_one (ps_ret (pe_tup (pa_cons pe_str (pa_cons (pv 2) (pa_cons (pv 3) (pa_cons (pv 4) pa_nil))))))) pss_nil)
    (pss_cons (ps_if (pt_cmp (pc_isN (pv 4)) rfl) (pss_one (ps_ret (pe_callD d_row_of (hr.mono (by decide)) rfl (pa_cons (pe_op op_cat (pe_op op_rep (pe_lst (pa_cons (pv 2) pa_nil)) (pe_op op_sub (pv 3) pe_int)) (pe_lst (pa_cons (pe_tup (pa_cons pe_str (pa_cons (pv 2) (pa_cons pe_int (pa_cons pe_non pa_nil))))) pa_nil))) pa_nil)))) pss_nil)
    (pss_cons (ps_if (pt_cmpR op_eq (pv 4) (pv 3) (nomark _)) (pss_one (ps_ret (pe_callD d_row_of (hr.mono (by decide)) rfl (pa_cons (pe_op op_rep (pe_lst (pa_cons (pv 2) pa_nil)) (pv 3)) pa_nil)))) pss_nil)
    (pss_one (ps_ret (pe_callD d_row_of (hr.mono (by decide)) rfl (pa_cons (pe_op op_cat (pe_op op_rep (pe_lst (pa_cons (pv 2) pa_nil)) (pv 3)) (pe_lst (pa_cons (pe_callD d__up_to (hr.mono (by decide)) rfl (pa_cons (pv 2) (pa_cons (pe_op op_sub (pv 4) (pv 3)) pa_nil))) pa_nil))) pa_nil)))))))))), ?_⟩
  cases f with
  | sign s =>
    obtain ⟨a, rfl, ht⟩ := fmSign hf
    refine ⟨_, rfl, a, _, 0, _, rfl, rfl, ht, atI_nat (j := 0) rfl, rfl, _, rfl, ?_⟩
    refine iteT ?_
    exact ⟨_, rfl, k H _ (.refl _) (by rw [Fm.op]; exact hf)⟩
  | row ps =>
    obtain ⟨a, b, vs, rfl, ht, _, hv⟩ := fmRow hf
    refine ⟨_, rfl, a, _, 0, _, rfl, rfl, ht, atI_nat (j := 0) rfl, rfl, _, rfl, ?_⟩
    refine iteF ?_
    refine ⟨_, rfl, a, _, 0, _, rfl, rfl, ht, atI_nat (j := 0) rfl, rfl, _, rfl, ?_⟩
    refine iteT ?_
    refine ⟨_, rfl, a, _, 0, _, rfl, rfl, ht, atI_nat (j := 0) rfl, _, rfl, pa, _, rfl, .inl ⟨hp, fun l hn => ?_⟩⟩
    refine ⟨by show 2 ≤ sizeLine; decide, fun p hp => k _ (.ref p) ((Same.new hn).trans (.new hp)) ?_⟩
    rw [Fm.op, ops_map]
    exact fmRow2 (sT upd_same) ((Same.new hp).sqT (sT upd_same)) (dpsS ((Same.new hn).trans (.new hp)) hu)
  | pick ps =>
    obtain ⟨a, b, vs, rfl, ht, _, hv⟩ := fmPick hf
    refine ⟨_, rfl, a, _, 0, _, rfl, rfl, ht, atI_nat (j := 0) rfl, rfl, _, rfl, ?_⟩
    refine iteF ?_
    refine ⟨_, rfl, a, _, 0, _, rfl, rfl, ht, atI_nat (j := 0) rfl, rfl, _, rfl, ?_⟩
    refine iteT ?_
    refine ⟨_, rfl, a, _, 0, _, rfl, rfl, ht, atI_nat (j := 0) rfl, _, rfl, pa, _, rfl, .inl ⟨hp, fun l hn => ?_⟩⟩
    refine ⟨by show 2 ≤ sizeLine; decide, fun p hp => k _ (.ref p) ((Same.new hn).trans (.new hp)) ?_⟩
    rw [Fm.op, ops_map]
    exact fmPick2 (sT upd_same) ((Same.new hp).sqT (sT upd_same)) (dpsS ((Same.new hn).trans (.new hp)) hu)
  | times p l h =>
    obtain ⟨a, u, rfl, ht, _⟩ := fmTimes hf
    rw [Fm.bd, Bool.and_eq_true] at hb
    have hl := bd1_l hb.2
    obtain ⟨x, us0, e, hx, hn⟩ := dpCons (show DpAll K H us [p.op.dat] from hu)
    cases dpNil hn
    subst e
    have ek : (Fm.times p l h).op = op1 p.op l h := by rw [Fm.op]
    rw [ek] at k
    refine ⟨_, rfl, a, _, 0, _, rfl, rfl, ht, atI_nat (j := 0) rfl, rfl, _, rfl, ?_⟩
    refine iteF ?_
    refine ⟨_, rfl, a, _, 0, _, rfl, rfl, ht, atI_nat (j := 0) rfl, rfl, _, rfl, ?_⟩
    refine iteF ?_
    refine ⟨_, rfl, pa, _, 0, _, rfl, rfl, hp, atI_nat (j := 0) rfl, _, rfl, a, _, 2, _, rfl, rfl, ht, atI_nat (j := 2) rfl, _, rfl, a, _, 3, _, rfl, rfl, ht, atI_nat (j := 3) rfl, _, _, _, rfl, ?_⟩
    refine ⟨_, rfl, _, rfl, (by show 2 ≤ sizeLine; decide), fun p1 n1 => ?_⟩
    have s1 : Same H (upd H p1 (.tup [.int (l : Int), highV h])) := .new n1
    refine ⟨pairD l h, pcD, dpPair (sT upd_same), hpc _, sh_pair _ _, sh_pc, _, rfl, ?_⟩
    rw [pc_plc]
    have hx1 := dpS s1 hx
    by_cases hc : plc l h = true
    · rw [hc]
      refine iteT ?_
      rw [op1_plain hc] at k
      refine ⟨_, rfl, _, rfl, _, rfl, (by show 4 ≤ sizeLine; decide), fun p2 n2 => k _ _ (s1.trans (.new n2)) (fmTup4 (sT upd_same) (dpS (.new n2) hx1))⟩
    · rw [Bool.not_eq_true] at hc
      rw [hc]
      refine iteF ?_
      cases h with
      | none =>
        rw [op1_none hc] at k
        refine ⟨_, rfl, _, rfl, iteT ?_⟩
        have hz : ([x] : List V).length * ((l : Int) - 1).toNat ≤ sizeLine := szl (by simp; omega)
        refine ⟨_, rfl, (by show 1 ≤ sizeLine; decide), fun p2 n2 => ⟨_, rfl, _, _, rfl, rfl, p2, _, _, rfl, rfl, upd_same, by omega, by omega, hz, fun p3 n3 => ?_⟩⟩
        refine ⟨_, rfl, (by show 4 ≤ sizeLine; decide), fun p4 n4 => ⟨(by show 1 ≤ sizeLine; decide), fun p5 n5 => ?_⟩⟩
        have s2 := s1.trans (Same.new n2 (o := .lst [x]))
        have s3 := s2.trans (Same.new n3 (o := .lst (List.replicate ((l : Int) - 1).toNat [x]).flatten))
        have s4 := Same.new n4 (o := .tup [.str "times", x, .int 1, .non])
        have s5 := Same.new n5 (o := .lst [.ref p4])
        have hlen : (List.replicate ((l : Int) - 1).toNat [x]).flatten.length ≤ 12 := by rw [repLen]; omega
        refine ⟨p3, p5, _, _, rfl, rfl, s5 _ _ (s4 _ _ upd_same), upd_same, szl (by rw [List.length_singleton]; omega), fun p6 n6 => ?_⟩
        have s6 := Same.new n6 (o := .lst ((List.replicate ((l : Int) - 1).toNat [x]).flatten ++ [.ref p4]))
        have s46 := (s4.trans s5).trans s6
        have sA := s3.trans s46
        refine ⟨p6, _, List.replicate (l - 1) p.op ++ [.times p.op 1 none], rfl, sL upd_same, fmsApp ?_ ?_, fun H' v' s7 h7 => k H' v' (sA.trans s7) h7⟩
        · rw [show List.replicate (l - 1) p.op = List.replicate ((l : Int) - 1).toNat p.op by rw [show ((l : Int) - 1).toNat = l - 1 by omega]]
          exact fmsRep (dpS sA hx) _
        · exact .cons ((fmTup4 (h := none) (l := 1) ((s5.trans s6).sqT (sT upd_same)) (dpS sA hx))) .nil
      | some n =>
        rw [op1_some hc] at k
        simp [bd1] at hb
        refine ⟨_, rfl, _, rfl, iteF ?_⟩
        refine ⟨_, rfl, _, rfl, rfl, _, rfl, ?_⟩
        by_cases hnl : n = l
        · subst hnl
          rw [if_pos rfl] at k
          rw [decide_eq_true (show highV (some n) = V.int (n : Int) from rfl)]
          refine iteT ?_
          have hz : ([x] : List V).length * ((n : Int)).toNat ≤ sizeLine := szl (by simp; omega)
          refine ⟨_, rfl, (by show 1 ≤ sizeLine; decide), fun p2 n2 => ⟨_, rfl, p2, _, _, rfl, rfl, upd_same, by omega, by omega, hz, fun p3 n3 => ?_⟩⟩
          have s2 := s1.trans (Same.new n2 (o := .lst [x]))
          have s3 := s2.trans (Same.new n3 (o := .lst (List.replicate ((n : Int)).toNat [x]).flatten))
          refine ⟨p3, _, List.replicate n p.op, rfl, sL upd_same, ?_, fun H' v' s7 h7 => k H' v' (s3.trans s7) h7⟩
          exact fmsRep (dpS s3 hx) _
        · rw [if_neg hnl] at k
          rw [decide_eq_false (show ¬ highV (some n) = V.int (l : Int) from fun e => hnl (by have := V.int.inj e; omega))]
          refine iteF ?_
          have hz : ([x] : List V).length * ((l : Int)).toNat ≤ sizeLine := szl (by simp; omega)
          refine ⟨_, rfl, (by show 1 ≤ sizeLine; decide), fun p2 n2 => ⟨_, rfl, p2, _, _, rfl, rfl, upd_same, by omega, by omega, hz, fun p3 n3 => ?_⟩⟩
          have s2 := s1.trans (Same.new n2 (o := .lst [x]))
          have s3 := s2.trans (Same.new n3 (o := .lst (List.replicate ((l : Int)).toNat [x]).flatten))
          refine ⟨_, rfl, _, rfl, _, rfl, _, _, rfl, rfl, x, p.op, n - l - 1, ?_, dpS s3 hx, by omega, fun H4 u4 s4 h4 => ⟨(by show 1 ≤ sizeLine; decide), fun p5 n5 => ?_⟩⟩
          · have e : ((n : Int) - (l : Int)) = ((n - l - 1 : Nat) : Int) + 1 := by omega
            show [x, V.int ((n : Int) - (l : Int))] = _
            rw [e]
          have s5 := Same.new n5 (o := .lst [u4])
          have hlen : (List.replicate ((l : Int)).toNat [x]).flatten.length ≤ 12 := by rw [repLen]; omega
          refine ⟨p3, p5, _, _, rfl, rfl, s5 _ _ (s4 _ _ upd_same), upd_same, szl (by rw [List.length_singleton]; omega), fun p6 n6 => ?_⟩
          have s6 := Same.new n6 (o := .lst ((List.replicate ((l : Int)).toNat [x]).flatten ++ [u4]))
          have sA := s3.trans ((s4.trans s5).trans s6)
          refine ⟨p6, _, List.replicate l p.op ++ [upT p.op (n - l - 1)], rfl, sL upd_same, fmsApp (fmsRep (dpS sA hx) _) (.cons (dpS (s5.trans s6) h4) .nil), fun H' v' s7 h7 => k H' v' (sA.trans s7) h7⟩
end
end Sw
set_option Elab.async false
set_option maxRecDepth 100000
set_option maxHeartbeats 4000000
namespace Sw
open PySem L2 PySem.Spec PyProof.Rows
/-! ### the numbers of the parts lead to the parts -/
mutual
theorem laidF_kids : ∀ (f : Fm) (n j : Nat) (g : Fm) (ks : List Nat), (laidF f n)[j]? = some (g, ks) → ks.length = g.parts.length ∧ ∀ (i k : Nat), ks[i]? = some k → n + j < k ∧ ∃ (q : Fm) (kq : List Nat), (laidF f n)[k - n]? = some (q, kq) ∧ g.parts[i]? = some q
  | .sign s, n, j, g, ks, h => by
    have h0 : j = 0 := by
      cases j with
      | zero => rfl
      | succ j => simp [laidF] at h
    subst h0
    simp [laidF] at h
    obtain ⟨rfl, rfl⟩ := h
    exact ⟨rfl, fun i k hk => by simp at hk⟩
  | .row ps, n, j, g, ks, h => by
    rw [laidF] at h ⊢
    exact laidTop (.row ps) ps rfl n j g ks h
  | .pick ps, n, j, g, ks, h => by
    rw [laidF] at h ⊢
    exact laidTop (.pick ps) ps rfl n j g ks h
  | .times p l u, n, j, g, ks, h => by
    rw [laidF] at h ⊢
    cases j with
    | zero =>
      simp at h
      obtain ⟨rfl, rfl⟩ := h
      refine ⟨rfl, fun i k hk => ?_⟩
      cases i with
      | succ i => simp at hk
      | zero =>
        simp at hk
        subst hk
        refine ⟨by omega, p, starts p.parts (n + 1 + 1), ?_, rfl⟩
        have e : n + 1 - n = 1 := by omega
        rw [e, List.getElem?_cons_succ, laidF_eq]
        rfl
    | succ j =>
      rw [List.getElem?_cons_succ] at h
      obtain ⟨h1, h2⟩ := laidF_kids p (n + 1) j g ks h
      refine ⟨h1, fun i k hk => ?_⟩
      obtain ⟨h3, q, kq, h4, h5⟩ := h2 i k hk
      refine ⟨by omega, q, kq, ?_, h5⟩
      have e : k - n = k - (n + 1) + 1 := by omega
      rw [e, List.getElem?_cons_succ]
      exact h4
theorem laidTop : ∀ (f : Fm) (ps : List Fm), f.parts = ps → ∀ (n j : Nat) (g : Fm) (ks : List Nat), ((f, starts ps (n + 1)) :: laidFs ps (n + 1))[j]? = some (g, ks) →
    ks.length = g.parts.length ∧ ∀ (i k : Nat), ks[i]? = some k → n + j < k ∧ ∃ (q : Fm) (kq : List Nat), ((f, starts ps (n + 1)) :: laidFs ps (n + 1))[k - n]? = some (q, kq) ∧ g.parts[i]? = some q := by
  intro f ps e n j g ks h
  have ht := laidFs_kids ps (n + 1)
  cases j with
  | zero =>
    simp at h
    obtain ⟨rfl, rfl⟩ := h
    rw [e]
    refine ⟨ht.1, fun i k hk => ?_⟩
    obtain ⟨h1, q, kq, h2, h3⟩ := ht.2.1 i k hk
    refine ⟨by omega, q, kq, ?_, h3⟩
    have e2 : k - n = k - (n + 1) + 1 := by omega
    rw [e2, List.getElem?_cons_succ]
    exact h2
  | succ j =>
    rw [List.getElem?_cons_succ] at h
    obtain ⟨h1, h2⟩ := ht.2.2 j g ks h
    refine ⟨h1, fun i k hk => ?_⟩
    obtain ⟨h3, q, kq, h4, h5⟩ := h2 i k hk
    refine ⟨by omega, q, kq, ?_, h5⟩
    have e2 : k - n = k - (n + 1) + 1 := by omega
    rw [e2, List.getElem?_cons_succ]
    exact h4
theorem laidFs_kids : ∀ (ps : List Fm) (n : Nat), (starts ps n).length = ps.length ∧ (∀ (i k : Nat), (starts ps n)[i]? = some k → n ≤ k ∧ ∃ (q : Fm) (kq : List Nat), (laidFs ps n)[k - n]? = some (q, kq) ∧ ps[i]? = some q) ∧
    ∀ (j : Nat) (g : Fm) (ks : List Nat), (laidFs ps n)[j]? = some (g, ks) → ks.length = g.parts.length ∧ ∀ (i k : Nat), ks[i]? = some k → n + j < k ∧ ∃ (q : Fm) (kq : List Nat), (laidFs ps n)[k - n]? = some (q, kq) ∧ g.parts[i]? = some q
  | [], n => ⟨rfl, fun i k h => by simp [starts] at h, fun j g ks h => by simp [laidFs] at h⟩
  | p :: ps, n => by
    obtain ⟨a1, a2, a3⟩ := laidFs_kids ps (n + p.size)
    have hp := laidF_kids p n
    have hlen := laidF_length p n
    have hpos := p.size_pos
    refine ⟨by simp [starts, a1], fun i k h => ?_, fun j g ks h => ?_⟩
    · cases i with
      | zero =>
        simp [starts] at h
        subst h
        refine ⟨Nat.le_refl _, p, starts p.parts (n + 1), ?_, rfl⟩
        rw [Nat.sub_self, laidFs, laidF_eq]
        rfl
      | succ i =>
        simp [starts] at h
        obtain ⟨b1, q, kq, b2, b3⟩ := a2 i k h
        refine ⟨by omega, q, kq, ?_, by simpa using b3⟩
        rw [laidFs, List.getElem?_append_right (by omega), hlen]
        have e : k - n - p.size = k - (n + p.size) := by omega
        rw [e]
        exact b2
    · rw [laidFs] at h ⊢
      by_cases hj : j < p.size
      · rw [List.getElem?_append_left (by omega)] at h
        obtain ⟨b1, b2⟩ := hp j g ks h
        refine ⟨b1, fun i k hk => ?_⟩
        obtain ⟨b3, q, kq, b4, b5⟩ := b2 i k hk
        refine ⟨b3, q, kq, ?_, b5⟩
        rw [List.getElem?_append_left (List.getElem?_eq_some_iff.mp b4).1]
        exact b4
      · rw [List.getElem?_append_right (by omega), hlen] at h
        obtain ⟨b1, b2⟩ := a3 (j - p.size) g ks h
        refine ⟨b1, fun i k hk => ?_⟩
        obtain ⟨b3, q, kq, b4, b5⟩ := b2 i k hk
        refine ⟨by omega, q, kq, ?_, b5⟩
        rw [List.getElem?_append_right (by omega), hlen]
        have e : k - n - p.size = k - (n + p.size) := by omega
        rw [e]
        exact b4
end
/-- the kids of a laid form, from its own number on -/
theorem kids_of {f : Fm} {j : Nat} {g : Fm} {ks : List Nat} (h : (laidF f 0)[j]? = some (g, ks)) : ks.length = g.parts.length ∧ ∀ (i k : Nat), ks[i]? = some k → j < k ∧ ∃ (q : Fm) (kq : List Nat), (laidF f 0)[k]? = some (q, kq) ∧ g.parts[i]? = some q := by
  obtain ⟨h1, h2⟩ := laidF_kids f 0 j g ks h
  refine ⟨h1, fun i k hk => ?_⟩
  obtain ⟨h3, h4⟩ := h2 i k hk
  exact ⟨by omega, h4⟩
mutual
theorem laidF_le : ∀ (f : Fm) (n : Nat) (t : Fm × List Nat), t ∈ laidF f n → t.1.size ≤ f.size
  | .sign s, n, t, h => by simp [laidF] at h; subst h; exact Nat.le_refl _
  | .row ps, n, t, h => by
    rw [laidF] at h
    rcases List.mem_cons.mp h with rfl | h
    · exact Nat.le_refl _
    · have := laidFs_le ps (n + 1) t h
      simp [Fm.size]
      omega
  | .pick ps, n, t, h => by
    rw [laidF] at h
    rcases List.mem_cons.mp h with rfl | h
    · exact Nat.le_refl _
    · have := laidFs_le ps (n + 1) t h
      simp [Fm.size]
      omega
  | .times p l u, n, t, h => by
    rw [laidF] at h
    rcases List.mem_cons.mp h with rfl | h
    · exact Nat.le_refl _
    · have := laidF_le p (n + 1) t h
      simp [Fm.size]
      omega
theorem laidFs_le : ∀ (ps : List Fm) (n : Nat) (t : Fm × List Nat), t ∈ laidFs ps n → t.1.size ≤ Fm.sizes ps
  | [], n, t, h => by simp [laidFs] at h
  | p :: ps, n, t, h => by
    rw [laidFs] at h
    simp [Fm.sizes]
    rcases List.mem_append.mp h with h | h
    · have := laidF_le p n t h
      omega
    · have := laidFs_le ps (n + p.size) t h
      omega
end
theorem kids_len {f : Fm} {j : Nat} {g : Fm} {ks : List Nat} (h : (laidF f 0)[j]? = some (g, ks)) : ks.length < f.size := by
  have h1 := (kids_of h).1
  have h2 := laidF_le f 0 (g, ks) (List.mem_of_getElem? h)
  have h3 := len_sizes g.parts
  have h4 := g.size_eq
  have h5 : g.size ≤ f.size := h2
  omega
/-- what is reckoned of the parts -/
theorem kids_map {f : Fm} {j : Nat} {g : Fm} {ks : List Nat} {α : Type} (F : Fm → α) (d : α) (h : (laidF f 0)[j]? = some (g, ks)) : ks.map (fun k => ((laidF f 0)[k]?.map fun t => F t.1).getD d) = g.parts.map F := by
  obtain ⟨h1, h2⟩ := kids_of h
  refine List.ext_getElem? fun i => ?_
  rw [List.getElem?_map, List.getElem?_map]
  cases e : ks[i]? with
  | none =>
    have : g.parts[i]? = none := by
      rw [List.getElem?_eq_none_iff] at e ⊢
      omega
    rw [this]
    rfl
  | some k =>
    obtain ⟨_, q, kq, h4, h5⟩ := h2 i k e
    rw [h5]
    show some ((Option.map (fun t : Fm × List Nat => F t.1) (laidF f 0)[k]?).getD d) = some (F q)
    rw [h4]
    rfl
end Sw
set_option Elab.async false
set_option maxRecDepth 100000
set_option maxHeartbeats 8000000
namespace Sw
open PySem L2 PySem.Spec PyProof.Rows
open SwX (ManyAt)
/-! ### defs that may raise -/
section
variable {P : Program} {w : World} {K : PySem.W.Frag} {mg : Str → Option Value} {base : Heap}
structure DefOkX (P : Program) (w : World) (K : PySem.W.Frag) (mg : Str → Option Value) (base : Heap) (x : Str) (k : Nat) (ps : List Str) (sp : Sp) : Prop where
  ex : ∃ f fd, FnOk P w K mg base (L2.CX P w) k f fd ps sp ∧ mg x = some (.ref f) ∧ PySem.W.keepIn K (.ref f) = true ∧ Binds K fd ps []
theorem DefAt.okX {x : Str} {st : Stmt} {N ps : List Str} {k : Nat} {sp : Sp} (F : DefAt K mg x st ps) (S : FnScope N ps (defScope st)) (len : ∀ vs H Q E, sp vs H Q E → vs.length = ps.length)
    (hbody : ∀ (f : Addr) (cdv : Value) (A : Around) (outer : List Env) (s : Shared) (H : Hp) (vs : List V) (Q : VK) (E : XK), Room k (A.deeper (envOfC x (defScope st) s.heap.objs.size f cdv)) → sp vs H Q E →
      ∃ t, PSs (cxOf (L2.CX P w) P w K mg base N x (defScope st) f cdv A outer s H E) (defBody st) t ∧ t { nx := fun _ H' => Q .non H', rt := Q } (start N vs) H) : DefOkX P w K mg base x (k + 1) ps sp := by
  obtain ⟨f, fd, h1, h2, h3⟩ := F.ex
  exact ⟨f, fd, h1.okX S len (fun cdv A outer s H vs Q E hr hs => hbody f cdv A outer s H vs Q E hr hs), h2, h1.kp, h3⟩
end
section
variable {X : Cx} {x : Str} {k : Nat} {ps : List Str} {sp : Sp} {e : Expr} {es : List Expr} {t : TA} {p pos : Pos}
theorem pe_callX {W : WX} (F : DefOkX X.prog X.w X.K X.mg X.base x k ps sp) (hr : Room k X.A) (hg : Gl X x) (tk : Takes X W) (ha : PA X (e :: es) t) (hdb : (x == ("__debug__" : Str)) = false := by decide)
    (he : starEach (e :: es) X.env = (false, eval e X.env) :: starEach es X.env := by rfl) (hpl : (backTo pos (starEach es X.env)).any (·.1) = false := by rfl) : PE X (.Call (.Name x p) (e :: es) [] pos) (tCallS sp (WE W) t) := by
  obtain ⟨f, fd, a, b, c, d⟩ := F.ex
  exact pe_callS a hr hg b c d (fun σ => passAt tk σ) ha hdb he hpl
end
theorem freeB {H H' : Hp} {a : Addr} (s : Same H H') (h : H' a = none) : H a = none := by
  cases e : H a with
  | none => rfl
  | some o => rw [s _ _ e] at h; cases h
section
variable {P : Program} {w : World} {K : PySem.W.Frag} {mg : Str → Option Value} {base : Heap}
abbrev n_opened : List Str := ["form", "pieces", "told", "_", "many", "number", "piece", "parts", "part"]
theorem sc_opened : FnScope n_opened ["form"] (defScope s_opened) := ⟨rfl, rfl, rfl, by decide +kernel, rfl, by decide +kernel, by decide +kernel⟩
def mL (f : Fm) : List V := (laidF f 0).map fun t => V.int (t.1.osz : Int)
def oL (f : Fm) : List Fm := (laidF f 0).map fun t => t.1.op
def spOpen (K : PySem.W.Frag) (C : Addr) : Sp := fun vs H Q E => ∃ v f, vs = [v] ∧ FmAt K H v f ∧ f.bd = true ∧ f.size ≤ 1000000 ∧ (f.osz ≤ 300 → ∀ H' v', Same H H' → FmAt K H' v' f.op → Q v' H') ∧
  (300 < f.osz → ∀ H' d, Same H H' → H' d = none → E (.ref C) (some d) (upd H' d (.xd [(("most" : Str), .int 300)])))
theorem ok_opened {C fI : Addr} (F : DefAt K mg "opened" s_opened ["form"]) (T : ManyAt K mg P C fI) (d_laid : DefOk P w K mg base "laid" 2 ["form"] (spLaid K)) (d__many_opened : DefOk P w K mg base "_many_opened" 1 ["piece", "parts"] (spManyO K))
    (d__opened : DefOk P w K mg base "_opened" 2 ["piece", "parts"] (spOp1 K)) (b_len : mg "len" = none) (b_range : mg "range" = none) (b_reversed : mg "reversed" = none) (g__MOST_PIECES : ∃ t, mg "_MOST_PIECES" = some (.int 300 t)) :
    DefOkX P w K mg base "opened" 4 ["form"] (spOpen K C) := by
  obtain ⟨tm, g__MOST_PIECES⟩ := g__MOST_PIECES
  refine F.okX sc_opened (fun vs H Q E h => ?_) (fun fA cdv A outer s H vs Q E hr h => ?_)
  · obtain ⟨_, _, rfl, _⟩ := h
    rfl
  obtain ⟨v, f, rfl, hf, hb, hsz, k, kE⟩ := h
  refine ⟨_, (pss_cons (ps_set (i := 1) sc_opened.nd rfl (Or.inl rfl) (pe_callD d_laid (hr.mono (by decide)) rfl (pa_cons (pv 0) pa_nil)))
    (pss_cons (ps_set (i := 2) sc_opened.nd rfl (Or.inr rfl) (pe_lc (own := [("_", 3)]) (g := gName 3) rfl sc_opened.nd (pi_list (pv 1)) (blkOk_by (own := [("_", 3)]) (N := n_opened) (sc := defScope s_opened) (by decide +kernel)) (fun _ _ _ _ _ => (pg_name (i := 3) sc_opened.nd rfl (Or.inl rfl))) (fun _ _ _ _ _ => pts_nil) (fun _ _ _ _ _ => (pv 0))))
    (pss_cons (ps_set (i := 4) sc_opened.nd rfl (Or.inr rfl) (pe_lc (own := [("_", 3)]) (g := gName 3) rfl sc_opened.nd (pi_list (pv 1)) (blkOk_by (own := [("_", 3)]) (N := n_opened) (sc := defScope s_opened) (by decide +kernel)) (fun _ _ _ _ _ => (pg_name (i := 3) sc_opened.nd rfl (Or.inl rfl))) (fun _ _ _ _ _ => pts_nil) (fun _ _ _ _ _ => pe_int)))
    (pss_cons (ps_for PassesOwn.leaving rfl (pi_revR rfl b_reversed (prg_1 rfl b_range (pe_callB call_len_seq (by rfl) b_len PySem.boot_len (pa_cons (pv 1) pa_nil)))) (pg_name (i := 5) sc_opened.nd rfl (Or.inl rfl))
      (pss_cons (ps_asg (pe_ix ix_list (pv 1) (pv 5) (fun _ _ => rfl)) (pg_tup rfl (pgs_cons (pg_name (i := 6) sc_opened.nd rfl (Or.inl rfl)) (pgs_cons (pg_name (i := 7) sc_opened.nd rfl (Or.inl rfl)) pgs_nil))))
    (pss_cons (ps_asg (pe_callD d__many_opened (hr.mono (by decide)) rfl (pa_cons (pv 6) (pa_cons (pe_lc (own := [("part", 8)]) (g := gName 8) rfl sc_opened.nd (pi_list (pv 7)) (blkOk_by (own := [("part", 8)]) (N := n_opened) (sc := defScope s_opened) (by decide +kernel)) (fun _ _ _ _ _ => (pg_name (i := 8) sc_opened.nd rfl (Or.inl rfl))) (fun _ _ _ _ _ => pts_nil) (fun _ _ _ _ _ => (pe_ix (r := rIxL K) ix_list (pv 4) (pv 8) (fun _ _ => rfl)))) pa_nil))) (pg_sub (pv 4) (pv 5) set_list))
    (pss_cons (ps_if (pt_cmpR op_gt (pe_ix ix_list (pv 4) (pv 5) (fun _ _ => rfl)) (pe_glob (v := .int 300) rfl g__MOST_PIECES ⟨_, rfl⟩) (nomark _)) (pss_one (ps_raiseMany rfl T (hr.mono (by decide) : Room 1 _) (takes_of rfl rfl rfl rfl) (by exact (pa_cons (pe_glob (v := .int 300) rfl g__MOST_PIECES ⟨_, rfl⟩) pa_nil)))) pss_nil)
    (pss_one (ps_asg (pe_callD d__opened (hr.mono (by decide)) rfl (pa_cons (pv 6) (pa_cons (pe_lc (own := [("part", 8)]) (g := gName 8) rfl sc_opened.nd (pi_list (pv 7)) (blkOk_by (own := [("part", 8)]) (N := n_opened) (sc := defScope s_opened) (by decide +kernel)) (fun _ _ _ _ _ => (pg_name (i := 8) sc_opened.nd rfl (Or.inl rfl))) (fun _ _ _ _ _ => pts_nil) (fun _ _ _ _ _ => (pe_ix (r := rIxL K) ix_list (pv 2) (pv 8) (fun _ _ => rfl)))) pa_nil))) (pg_sub (pv 2) (pv 5) set_list)))))))
    (pss_one (ps_ret (pe_ix ix_list (pv 2) pe_int (fun _ _ => rfl)))))))), ?_⟩
  refine ⟨_, rfl, v, f, rfl, hf, hsz, fun H0 pa s0 nP ⟨rs, hP, hR⟩ => ?_⟩
  have hL : (rs.map fun r => V.ref r.1).length = f.size := by rw [List.length_map, hR.len, laidF_length]
  have hEl : (mL f).length = f.size := by rw [mL, List.length_map, laidF_length]
  refine ⟨_, rfl, pa, rfl, ⟨_, sL hP⟩, fun D hD => lc_list (K := K) (a := pa) (xs := rs.map fun r => V.ref r.1) (fun i H' => Same H0 H' ∧ H' D = some (.lst (List.replicate i v))) ⟨.new hD, upd_same⟩ (fun i H' _ ⟨g, _⟩ => sL (g _ _ hP)) ?_ ?_⟩
  · rintro i x H' hx ⟨g, hD'⟩
    have hi : i < f.size := by rw [← hL]; exact (List.getElem?_eq_some_iff.mp hx).1
    refine ⟨rfl, ?_⟩
    refine ⟨_, rfl, _, hD', szb (by simp; omega), g.mut hD, ?_⟩
    rw [upd_same, List.replicate_succ']
  rintro H1 ⟨g1, hD1⟩
  rw [hL] at hD1
  refine ⟨_, rfl, pa, rfl, ⟨_, sL (g1 _ _ hP)⟩, fun M hM => lc_list (K := K) (a := pa) (xs := rs.map fun r => V.ref r.1) (fun i H' => Same H1 H' ∧ H' M = some (.lst (List.replicate i (V.int 1)))) ⟨.new hM, upd_same⟩ (fun i H' _ ⟨g, _⟩ => sL (g _ _ (g1 _ _ hP))) ?_ ?_⟩
  · rintro i x H' hx ⟨g, hD'⟩
    have hi : i < f.size := by rw [← hL]; exact (List.getElem?_eq_some_iff.mp hx).1
    refine ⟨rfl, ?_⟩
    refine ⟨_, hD', szb (by simp; omega), g.mut hM, ?_⟩
    rw [upd_same, List.replicate_succ']
  rintro H2 ⟨g2, hM2⟩
  rw [hL] at hM2
  have hD2 := g2 _ _ hD1
  have gA : Same H0 H2 := g1.trans g2
  have hM0 : H0 M = none := freeB g1 hM
  have hDM : D ≠ M := fun e => by rw [e, hM] at hD1; cases hD1
  refine ⟨_, rfl, pa, _, rfl, .inl (sL (gA _ _ hP)), _, rfl, by decide, by decide, (by rw [hL]; omega), (by rw [hL]; omega), ?_⟩
  rw [hL]
  have hn : (((f.size : Int) - 0).toNat) = f.size := by omega
  rw [hn]
  refine for_rangeC (fun i σ H' => ∃ (o5 o6 o7 : Option V) (us : List V), σ = [some v, some (.ref pa), some (.ref D), none, some (.ref M), o5, o6, o7, none] ∧ Same H0 H' ∧ H' M = some (.lst (List.replicate (f.size - i) (V.int 1) ++ (mL f).drop (f.size - i))) ∧
    H' D = some (.lst (List.replicate (f.size - i) v ++ us)) ∧ FmsAt K H' us ((oL f).drop (f.size - i)) ∧ ∀ k t, f.size ≤ k + i → (laidF f 0)[k]? = some t → t.1.osz ≤ 300) ⟨none, none, none, [], rfl, gA, ?_, ?_, ?_, ?_⟩ ?_ ?_
  · rw [hM2, List.drop_eq_nil_of_le (by omega)]
    simp
  · rw [hD2]
    simp
  · rw [List.drop_eq_nil_of_le (by rw [oL, List.length_map, laidF_length]; omega)]
    exact .nil
  · intro k t h1 h2
    have := (List.getElem?_eq_some_iff.mp h2).1
    rw [laidF_length] at this
    omega
  · rintro i σ H3 hi ⟨o5, o6, o7, us, rfl, g3, hM3, hD3, hus, hsm⟩
    obtain ⟨j, hj, ej⟩ : ∃ j : Nat, j + i + 1 = f.size ∧ (0 + (f.size : Int) - 1 + (i : Nat) * (-1) : Int) = (j : Int) := ⟨f.size - i - 1, by omega, by omega⟩
    rw [ej]
    have hjT : j < (laidF f 0).length := by rw [laidF_length]; omega
    obtain ⟨t, ht⟩ : ∃ t, (laidF f 0)[j]? = some t := ⟨_, List.getElem?_eq_getElem hjT⟩
    obtain ⟨r, hr1⟩ : ∃ r, rs[j]? = some r := ⟨_, List.getElem?_eq_getElem (by rw [hR.len]; exact hjT)⟩
    obtain ⟨x1, x2, x3⟩ := (hR.same g3).at_ j r t hr1 ht
    obtain ⟨p, ks⟩ := t
    obtain ⟨hpo, hpb⟩ := laid_osz f 0 _ hb (List.mem_of_getElem? ht)
    refine ⟨_, rfl, _, rfl, pa, _, _, _, rfl, rfl, sL (g3 _ _ hP), atI_nat (j := j) (by rw [List.getElem?_map, hr1]; rfl), ?_⟩
    refine ⟨r.1, _, rfl, sT x1, rfl, _, _, rfl, _, _, rfl, rfl, ?_⟩
    refine ⟨_, rfl, ?_⟩
    have eS : f.size - i = j + 1 := by omega
    rw [eS] at hM3 hD3 hus
    have hkid := kids_of ht
    have hksz : ks.length ≤ f.size := Nat.le_of_lt (kids_len ht)
    have hallM : ∀ (i k : Nat), ks[i]? = some k → ∃ q, p.parts[i]? = some q ∧ (List.replicate (j + 1) (V.int 1) ++ (mL f).drop (j + 1))[k]? = some (.int (q.osz : Int)) := fun i k hk => by
      obtain ⟨h1, q, kq, h2, h3⟩ := hkid.2 i k hk
      refine ⟨q, h3, ?_⟩
      rw [List.getElem?_append_right (by simp; omega), List.length_replicate, List.getElem?_drop, show j + 1 + (k - (j + 1)) = k by omega, mL, List.getElem?_map, h2]
      rfl
    -- many[number] = _many_opened(piece, [..])
    refine ⟨_, rfl, r.2.2, rfl, ⟨_, sL x3⟩, fun D2 hD2n => lc_list (K := K) (a := r.2.2) (xs := kidsV ks) (fun m H' => Same H3 H' ∧ H' D2 = some (.lst (natI ((p.parts.take m).map Fm.osz)))) ⟨.new hD2n, upd_same⟩ (fun m H' _ ⟨g, _⟩ => sL (g _ _ x3)) ?_ ?_⟩
    · rintro m x H' hx ⟨g, hD'⟩
      rw [kidsV, List.getElem?_map] at hx
      obtain ⟨k, hk, rfl⟩ : ∃ k, ks[m]? = some k ∧ x = V.int (k : Int) := by
        cases e : ks[m]? with
        | none => rw [e] at hx; cases hx
        | some k => rw [e] at hx; exact ⟨k, rfl, (Option.some.inj hx).symm⟩
      obtain ⟨q, hq1, hq2⟩ := hallM m k hk
      refine ⟨rfl, ?_⟩
      refine ⟨_, rfl, _, rfl, M, _, _, _, rfl, rfl, sL (g _ _ hM3), atI_nat hq2, _, hD', ?_, g.mut hD2n, ?_⟩
      · have hm : m < ks.length := (List.getElem?_eq_some_iff.mp hk).1
        refine szb ?_
        rw [natI, List.length_map, List.length_map, List.length_take]
        omega
      · rw [upd_same, List.take_add_one, hq1]
        simp [natI]
    rintro H4 ⟨g4, hD4⟩
    have eL : (kidsV ks).length = p.parts.length := by rw [kidsV, List.length_map]; exact hkid.1
    rw [eL, List.take_length] at hD4
    refine ⟨r.2.1, p, D2, rfl, dpS g4 x2, hpb, sL hD4, fun H5 g5 => ?_⟩
    have g35 := g4.trans g5
    have hjM : ixN (List.replicate (j + 1) (V.int 1) ++ (mL f).drop (j + 1)).length (j : Int) = some j := by
      unfold ixN
      rw [if_pos (by omega), if_pos (by rw [List.length_append, List.length_replicate]; omega)]
      simp
    refine ⟨_, rfl, _, rfl, M, _, _, _, rfl, rfl, g35 _ _ hM3, hjM, ?_⟩
    have eset : (List.replicate (j + 1) (V.int 1) ++ (mL f).drop (j + 1)).set j (V.int (p.osz : Int)) = List.replicate j (V.int 1) ++ (mL f).drop j := by
      have e2 : (mL f)[j]? = some (.int (p.osz : Int)) := by rw [mL, List.getElem?_map, ht]; rfl
      refine List.ext_getElem? fun m => ?_
      rw [List.getElem?_set]
      by_cases hm : j = m
      · subst hm
        rw [if_pos rfl, if_pos (by rw [List.length_append, List.length_replicate]; omega), List.getElem?_append_right (by simp), List.length_replicate, Nat.sub_self, List.getElem?_drop, Nat.add_zero, e2]
      · rw [if_neg hm]
        by_cases hm2 : m < j
        · rw [List.getElem?_append_left (by simp; omega), List.getElem?_append_left (by simp; omega), List.getElem?_replicate, List.getElem?_replicate, if_pos (by omega), if_pos hm2]
        · rw [List.getElem?_append_right (by simp; omega), List.getElem?_append_right (by simp; omega), List.length_replicate, List.length_replicate, List.getElem?_drop, List.getElem?_drop]
          congr 1
          omega
    rw [eset]
    have hM5 : H5 M = some (.lst (List.replicate (j + 1) (V.int 1) ++ (mL f).drop (j + 1))) := g35 _ _ hM3
    have g6 : Same H0 (upd H5 M (.lst (List.replicate j (V.int 1) ++ (mL f).drop j))) := (g3.trans g35).mut hM0
    have hjN : (List.replicate j (V.int 1) ++ (mL f).drop j)[j]? = some (.int (p.osz : Int)) := by
      rw [List.getElem?_append_right (by simp), List.length_replicate, Nat.sub_self, List.getElem?_drop, Nat.add_zero, mL, List.getElem?_map, ht]
      rfl
    refine ⟨_, rfl, _, rfl, M, _, _, _, rfl, rfl, sL upd_same, atI_nat hjN, ?_⟩
    refine ⟨_, _, rfl, rfl, _, rfl, ite2 (fun hgt => ?_) (fun hle => ?_)⟩
    · have hgt' : (300 : Int) < (p.osz : Int) := of_decide_eq_true hgt
      have hpo' : p.osz ≤ f.osz := hpo
      have hbig : 300 < f.osz := by omega
      exact ⟨300, rfl, by decide, by decide +kernel, fun d hd => kE hbig _ d (s0.trans g6) hd⟩
    have hle' : p.osz ≤ 300 := by
      refine Nat.le_of_not_lt fun q => hle (decide_eq_true ?_)
      show (300 : Int) < (p.osz : Int)
      omega
    obtain ⟨y1, y2, y3⟩ := (hR.same g6).at_ j r _ hr1 ht
    have hD6 : upd H5 M (.lst (List.replicate j (V.int 1) ++ (mL f).drop j)) D = some (.lst (List.replicate (j + 1) v ++ us)) := by
      rw [upd_ne hDM]
      exact g35 _ _ hD3
    have hus6 : FmsAt K (upd H5 M (.lst (List.replicate j (V.int 1) ++ (mL f).drop j))) us ((oL f).drop (j + 1)) := fmsAll (keepTup hM5) _ _ (dpsS g35 hus)
    have hM6 : upd H5 M (.lst (List.replicate j (V.int 1) ++ (mL f).drop j)) M = some (.lst (List.replicate j (V.int 1) ++ (mL f).drop j)) := upd_same
    generalize upd H5 M (.lst (List.replicate j (V.int 1) ++ (mL f).drop j)) = H6 at g6 y1 y2 y3 hD6 hus6 hM6 ⊢
    have hallD : ∀ (i k : Nat), ks[i]? = some k → ∃ q u, p.parts[i]? = some q ∧ (List.replicate (j + 1) v ++ us)[k]? = some u ∧ FmAt K H6 u q.op := fun i k hk => by
      obtain ⟨h1, q, kq, h2, h3⟩ := hkid.2 i k hk
      have e1 : (Fm.dats ((oL f).drop (j + 1)))[k - (j + 1)]? = some q.op.dat := by
        rw [Fm.dats_map, List.getElem?_map, List.getElem?_drop, show j + 1 + (k - (j + 1)) = k by omega, oL, List.getElem?_map, h2]
        rfl
      obtain ⟨u, hu1, hu2⟩ := dpsAt hus6 e1
      refine ⟨q, u, h3, ?_, hu2⟩
      rw [List.getElem?_append_right (by simp; omega), List.length_replicate, hu1]
    refine ⟨_, rfl, _, rfl, r.2.2, rfl, ⟨_, sL y3⟩, fun D3 hD3n => lc_list (K := K) (a := r.2.2) (xs := kidsV ks) (fun m H' => ∃ ws, Same H6 H' ∧ H' D3 = some (.lst ws) ∧ FmsAt K H' ws ((p.parts.take m).map Fm.op)) ⟨[], .new hD3n, upd_same, .nil⟩ (fun m H' _ ⟨_, g, _⟩ => sL (g _ _ y3)) ?_ ?_⟩
    · rintro m x H' hx ⟨ws, g, hD', hws⟩
      rw [kidsV, List.getElem?_map] at hx
      obtain ⟨k, hk, rfl⟩ : ∃ k, ks[m]? = some k ∧ x = V.int (k : Int) := by
        cases e : ks[m]? with
        | none => rw [e] at hx; cases hx
        | some k => rw [e] at hx; exact ⟨k, rfl, (Option.some.inj hx).symm⟩
      obtain ⟨q, u, hq1, hq2, hq3⟩ := hallD m k hk
      refine ⟨rfl, ?_⟩
      have hwl := fmsLen hws
      rw [List.length_map, List.length_take] at hwl
      refine ⟨_, rfl, _, rfl, D, _, _, _, rfl, rfl, sL (g _ _ hD6), atI_nat hq2, _, hD', ?_, ws ++ [u], g.mut hD3n, upd_same, ?_⟩
      · have hm : m < ks.length := (List.getElem?_eq_some_iff.mp hk).1
        exact szb (by omega)
      · rw [List.take_add_one, hq1, List.map_append]
        exact fmsApp (fmsAll (keepTup hD') _ _ hws) (.cons (fmW hD' (dpS g hq3)) .nil)
    rintro H7 ⟨ws, g7, hD7, hws⟩
    rw [eL, List.take_length] at hws
    refine ⟨r.2.1, p, D3, ws, rfl, dpS g7 y2, hpb, sL hD7, hws, fun H8 v8 g8 h8 => ?_⟩
    have g68 := g7.trans g8
    have hjD : ixN (List.replicate (j + 1) v ++ us).length (j : Int) = some j := by
      unfold ixN
      rw [if_pos (by omega), if_pos (by rw [List.length_append, List.length_replicate]; omega)]
      simp
    refine ⟨_, rfl, _, rfl, D, _, _, _, rfl, rfl, g68 _ _ hD6, hjD, ?_⟩
    have eset2 : (List.replicate (j + 1) v ++ us).set j v8 = List.replicate j v ++ (v8 :: us) := by
      rw [List.replicate_succ', List.append_assoc, List.set_append_right _ _ (by simp), List.length_replicate, Nat.sub_self]
      rfl
    rw [eset2]
    have e1 : f.size - (i + 1) = j := by omega
    refine ⟨_, _, _, v8 :: us, rfl, (g6.trans g68).mut hD, ?_, ?_, ?_, ?_⟩
    · rw [e1, upd_ne (Ne.symm hDM)]
      exact g68 _ _ hM6
    · rw [e1]
      exact upd_same
    · rw [e1]
      have e2 : (oL f)[j]? = some p.op := by rw [oL, List.getElem?_map, ht]; rfl
      have e3 : (oL f).drop j = p.op :: (oL f).drop (j + 1) := by
        have hjo := (List.getElem?_eq_some_iff.mp e2)
        obtain ⟨hl, hv⟩ := hjo
        rw [List.drop_eq_getElem_cons hl, hv]
      rw [e3]
      exact .cons (fmW (g68 _ _ hD6) h8) (fmsAll (keepTup (g68 _ _ hD6)) _ _ (dpsS g68 hus6))
    · intro k t h1 h2
      by_cases hkj : k = j
      · subst hkj
        rw [ht] at h2
        cases h2
        exact hle'
      · exact hsm k t (by omega) h2
  · rintro σ H3 ⟨o5, o6, o7, us, rfl, g3, hM3, hD3, hus, hsm⟩
    rw [Nat.sub_self] at hD3 hus
    have h0 : (laidF f 0)[0]? = some (f, starts f.parts 1) := by rw [laidF_eq]; rfl
    have h300 : f.osz ≤ 300 := hsm 0 _ (by omega) h0
    obtain ⟨u0, hu1, hu2⟩ : ∃ u0, us[0]? = some u0 ∧ FmAt K H3 u0 f.op := by
      have e : oL f = f.op :: ((laidFs f.parts 1).map fun t => t.1.op) := by rw [oL, laidF_eq]; rfl
      rw [List.drop_zero, e] at hus
      obtain ⟨u0, ur, e2, q, _⟩ := dpCons hus
      rw [e2]
      exact ⟨u0, rfl, q⟩
    refine ⟨_, rfl, D, _, 0, _, rfl, rfl, sL hD3, atI_nat (j := 0) (by simpa using hu1), k h300 _ _ (s0.trans g3) hu2⟩
end
end Sw
set_option Elab.async false
set_option maxRecDepth 100000
set_option maxHeartbeats 8000000
namespace Sw
open PySem L2 PySem.Spec PyProof.Rows
mutual
def Fm.dp : Fm → Nat
  | .sign _ => 1
  | .row ps => 1 + Fm.dps ps
  | .pick ps => 1 + Fm.dps ps
  | .times p _ _ => 1 + p.dp
def Fm.dps : List Fm → Nat
  | [] => 0
  | p :: ps => max p.dp (Fm.dps ps)
end
theorem dps_mem : ∀ {ps : List Fm} {p : Fm}, p ∈ ps → p.dp ≤ Fm.dps ps
  | q :: ps, p, h => by
    rw [Fm.dps]
    rcases List.mem_cons.mp h with rfl | h
    · omega
    · have := dps_mem h
      omega
theorem dp_parts {f p : Fm} (h : p ∈ f.parts) : p.dp < f.dp := by
  cases f with
  | sign s => cases h
  | row ps => have := dps_mem (ps := ps) h; rw [Fm.dp]; omega
  | pick ps => have := dps_mem (ps := ps) h; rw [Fm.dp]; omega
  | times p l u => rw [List.mem_singleton.mp h, Fm.dp]; omega
theorem dp_pos (f : Fm) : 0 < f.dp := by cases f <;> simp [Fm.dp] <;> omega
theorem sizes_mem : ∀ {ps : List Fm} {p : Fm}, p ∈ ps → p.size ≤ Fm.sizes ps
  | q :: ps, p, h => by
    rw [Fm.sizes]
    rcases List.mem_cons.mp h with rfl | h
    · omega
    · have := sizes_mem h
      omega
theorem size_parts {f p : Fm} (h : p ∈ f.parts) : p.size < f.size := by
  have := sizes_mem h
  rw [Fm.size_eq f]
  omega
theorem parts_len (f : Fm) : f.parts.length < f.size := by
  have := len_sizes f.parts
  rw [Fm.size_eq f]
  omega
end Sw
set_option Elab.async false
set_option maxRecDepth 100000
set_option maxHeartbeats 8000000
namespace Sw
open PySem L2 PySem.Spec PyProof.Rows
theorem fmTail {a : V} {b c d : V} : cutV [a, b, c, d] (some (2 : Int)) none = [c, d] := rfl
theorem pcL {K : PySem.W.Frag} {H : Hp} {p1 p2 p3 p4 : Addr} (h4 : SqL K H p4 [.ref p1, .ref p2, .ref p3]) (h1 : SqT K H p1 [.int 0, .int 1]) (h2 : SqT K H p2 [.int 0, .non]) (h3 : SqT K H p3 [.int 1, .non]) :
    Dp K H (.ref p4) (.list pcD) :=
  .lst h4 (.cons (dpPair (l := 0) (h := some 1) h1) (.cons (dpPair (l := 0) (h := none) h2) (.cons (dpPair (l := 1) (h := none) h3) .nil)))
theorem catT {K : PySem.W.Frag} {H : Hp} {a b : Addr} {xs ys : List V} {Q : VK} (ha : SqT K H a xs) (hb : SqT K H b ys) (hl : xs.length + ys.length ≤ sizeLine) (k : ∀ (H' : Hp) (q : Addr), Same H H' → SqT K H' q (xs ++ ys) → Q (.ref q) H') : rCatA K (.ref a) (.ref b) H Q := by
  refine ⟨a, b, xs, ys, rfl, rfl, ha, hb, hl, fun e => ?_, fun _ e => ?_, fun _ _ p hp => k _ p (.new hp) (sT upd_same)⟩
  · subst e
    exact k H b (Same.refl _) hb
  · subst e
    exact k H a (Same.refl _) (by rw [List.append_nil]; exact ha)
theorem rowOf_many {fs : List Fm} (h : fs.length ≠ 1) : rowOf fs = .row fs := by
  match fs, h with
  | [], _ => rfl
  | [f], e => exact absurd rfl e
  | f :: g :: r, _ => rfl
theorem fmsAtV {K : PySem.W.Frag} {H : Hp} {us : List V} {ps : List Fm} {i : Nat} {x : V} (h : FmsAt K H us ps) (hx : us[i]? = some x) : ∃ p, ps[i]? = some p ∧ FmAt K H x p := by
  obtain ⟨d, hd, q⟩ := dpsAtV h hx
  rw [Fm.dats_map, List.getElem?_map] at hd
  cases e : ps[i]? with
  | none => rw [e] at hd; cases hd
  | some p => rw [e] at hd; cases hd; exact ⟨p, rfl, q⟩
theorem bds_mem : ∀ {ps : List Fm} {p : Fm}, Fm.bds ps = true → p ∈ ps → p.bd = true
  | q :: ps, p, h, m => by
    rw [Fm.bds, Bool.and_eq_true] at h
    rcases List.mem_cons.mp m with rfl | m
    · exact h.1
    · exact bds_mem h.2 m
section
variable {P : Program} {w : World} {K : PySem.W.Frag} {mg : Str → Option Value} {base : Heap}
abbrev n_law_e_opened : List Str := ["form", "one", "inner", "low", "high", "some", "tail", "k"]
theorem sc_law_e_opened : FnScope n_law_e_opened ["form"] (defScope s_law_e_opened) := ⟨rfl, rfl, rfl, by decide +kernel, rfl, by decide +kernel, by decide +kernel⟩
def spEo (K : PySem.W.Frag) (n : Nat) : Sp := fun vs H Q _ => ∃ v f, vs = [v] ∧ FmAt K H v f ∧ f.dp ≤ n ∧ f.bd = true ∧ f.size ≤ 100000 ∧ ∀ H' v', Same H H' → FmAt K H' v' f.op → Q v' H'
theorem ok_law_e_opened (F : DefAt K mg "_law_e_opened" s_law_e_opened ["form"]) (b_len : mg "len" = none) (b_range : mg "range" = none) (b_tuple : mg "tuple" = none) : ∀ n, DefOk P w K mg base "_law_e_opened" (n + 1) ["form"] (spEo K n)
  | 0 => by
    refine F.ok sc_law_e_opened (fun vs H Q E h => ?_) (fun f cdv A outer s H vs Q E hr h => ?_)
    · obtain ⟨_, _, rfl, _⟩ := h
      rfl
    · obtain ⟨_, f, _, _, q, _⟩ := h
      exact absurd (dp_pos f) (by omega)
  | n + 1 => by
    have d__law_e_opened := ok_law_e_opened F b_len b_range b_tuple n
    refine F.ok sc_law_e_opened (fun vs H Q E h => ?_) (fun fA cdv A outer s H vs Q E hr h => ?_)
    · obtain ⟨_, _, rfl, _⟩ := h
      rfl
    obtain ⟨v, f, rfl, hf, hdp, hb, hsz, k⟩ := h
    refine ⟨_, (pss_cons (ps_if (pt_cmpR op_eq (pe_ix ix_tup (pv 0) pe_int (fun _ _ => rfl)) pe_str (nomark _)) (pss_one (ps_ret (pv 0))) pss_nil)
    (pss_cons (ps_if (pt_cmpR op_ne (pe_ix ix_tup (pv 0) pe_int (fun _ _ => rfl)) pe_str (nomark _)) (pss_one (ps_ret (pe_tup (pa_cons (pe_ix ix_tup (pv 0) pe_int (fun _ _ => rfl)) (pa_cons (pe_callTy call_tuple_of (by rfl) b_tuple (by decide +kernel) (pa_cons (pe_lc (own := [("one", 1)]) (g := gName 1) rfl sc_law_e_opened.nd (pi_tup (pe_ix ix_tup (pv 0) pe_int (fun _ _ => rfl))) (blkOk_by (own := [("one", 1)]) (N := n_law_e_opened) (sc := defScope s_law_e_opened) (by decide +kernel)) (fun _ _ _ _ _ => (pg_name (i := 1) sc_law_e_opened.nd rfl (Or.inl rfl))) (fun _ _ _ _ _ => pts_nil) (fun _ _ _ _ _ => (pe_callD d__law_e_opened (hr.mono (by omega)) rfl (pa_cons (pv 1) pa_nil)))) pa_nil)) pa_nil))))) pss_nil)
    (pss_cons (ps_set (i := 2) sc_law_e_opened.nd rfl (Or.inl rfl) (pe_callD d__law_e_opened (hr.mono (by omega)) rfl (pa_cons (pe_ix ix_tup (pv 0) pe_int (fun _ _ => rfl)) pa_nil)))
    (pss_cons (ps_asg (pe_slice sl_tupA (pv 0) (po_some pe_int) po_none) (pg_tup rfl (pgs_cons (pg_name (i := 3) sc_law_e_opened.nd rfl (Or.inl rfl)) (pgs_cons (pg_name (i := 4) sc_law_e_opened.nd rfl (Or.inl rfl)) pgs_nil))))
    (pss_cons (ps_if (pt_cmpR (r := rInD K) (op_inD (units65 hr)) (pe_tup (pa_cons (pv 3) (pa_cons (pv 4) pa_nil))) (pe_lst (pa_cons (pe_tup (pa_cons pe_int (pa_cons pe_int pa_nil))) (pa_cons (pe_tup (pa_cons pe_int (pa_cons pe_non pa_nil))) (pa_cons (pe_tup (pa_cons pe_int (pa_cons pe_non pa_nil))) pa_nil)))) (by rfl)) (pss_one (ps_ret (pe_tup (pa_cons pe_str (pa_cons (pv 2) (pa_cons (pv 3) (pa_cons (pv 4) pa_nil))))))) pss_nil)
    (pss_cons (ps_if (pt_cmp (pc_isN (pv 4)) rfl) (pss_one (ps_ret (pe_tup (pa_cons pe_str (pa_cons (pe_op op_catA (pe_op op_mulA (pe_tup (pa_cons (pv 2) pa_nil)) (pe_op op_sub (pv 3) pe_int)) (pe_tup (pa_cons (pe_tup (pa_cons pe_str (pa_cons (pv 2) (pa_cons pe_int (pa_cons pe_non pa_nil))))) pa_nil))) pa_nil))))) pss_nil)
    (pss_cons (ps_set (i := 5) sc_law_e_opened.nd rfl (Or.inl rfl) (pe_op op_mulA (pe_tup (pa_cons (pv 2) pa_nil)) (pv 3)))
    (pss_cons (ps_if (pt_cmpR op_gt (pv 4) (pv 3) (nomark _)) (pss_cons (ps_set (i := 6) sc_law_e_opened.nd rfl (Or.inl rfl) (pe_tup (pa_cons pe_str (pa_cons (pv 2) (pa_cons pe_int (pa_cons pe_int pa_nil))))))
    (pss_cons (ps_for PassesOwn.never rfl (pi_range1 rfl b_range (pa_cons (pe_op op_sub (pe_op op_sub (pv 4) (pv 3)) pe_int) pa_nil)) (pg_name (i := 7) sc_law_e_opened.nd rfl (Or.inl rfl))
      (pss_one (ps_set (i := 6) sc_law_e_opened.nd rfl (Or.inl rfl) (pe_tup (pa_cons pe_str (pa_cons (pe_tup (pa_cons pe_str (pa_cons (pe_tup (pa_cons (pv 2) (pa_cons (pv 6) pa_nil))) pa_nil))) (pa_cons pe_int (pa_cons pe_int pa_nil))))))))
    (pss_one (ps_set (i := 5) sc_law_e_opened.nd rfl (Or.inl rfl) (pe_op op_catA (pv 5) (pe_tup (pa_cons (pv 6) pa_nil))))))) pss_nil)
    (pss_one (ps_ret (pe_ifExp (pt_cmpR op_eq (pe_callB call_len_seq (by rfl) b_len PySem.boot_len (pa_cons (pv 5) pa_nil)) pe_int (nomark _)) (pe_ix ix_tup (pv 5) pe_int (fun _ _ => rfl)) (pe_tup (pa_cons pe_str (pa_cons (pv 5) pa_nil)))))))))))))), ?_⟩
    cases f with
    | sign s =>
      obtain ⟨a, rfl, ht⟩ := fmSign hf
      refine ⟨_, rfl, a, _, 0, _, rfl, rfl, ht, atI_nat (j := 0) rfl, rfl, _, rfl, ?_⟩
      refine iteT ?_
      exact ⟨_, rfl, k H _ (.refl _) (by rw [Fm.op]; exact hf)⟩
    | row ps =>
      obtain ⟨a, b, us, rfl, ht, hbu, hu⟩ := fmRow hf
      rw [Fm.op, ops_map] at k
      rw [Fm.dp] at hdp
      rw [Fm.size] at hsz
      rw [Fm.bd] at hb
      have hul := fmsLen hu
      have hlen := len_sizes ps
      refine ⟨_, rfl, a, _, 0, _, rfl, rfl, ht, atI_nat (j := 0) rfl, rfl, _, rfl, ?_⟩
      refine iteF ?_
      refine ⟨_, rfl, a, _, 0, _, rfl, rfl, ht, atI_nat (j := 0) rfl, rfl, _, rfl, ?_⟩
      refine iteT ?_
      refine ⟨_, rfl, a, _, 0, _, rfl, rfl, ht, atI_nat (j := 0) rfl, ?_⟩
      refine ⟨_, rfl, a, _, 1, _, rfl, rfl, ht, atI_nat (j := 1) rfl, b, rfl, ⟨_, hbu⟩, fun D hD => ?_⟩
      refine lc_tup (K := K) (a := b) (xs := us) (fun i H' => ∃ ws, Same H H' ∧ H' D = some (.lst ws) ∧ FmsAt K H' ws ((ps.take i).map Fm.op)) ⟨[], .new hD, upd_same, .nil⟩ (fun i H' _ ⟨_, g, _⟩ => g.sqT hbu) ?_ ?_
      · rintro i x H1 hx ⟨ws, g, hD1, hws⟩
        obtain ⟨p, hp, hpx⟩ := fmsAtV hu hx
        have hpm := List.mem_of_getElem? hp
        have hi := (List.getElem?_eq_some_iff.mp hx).1
        have h1 := dps_mem hpm
        have h2 := sizes_mem hpm
        refine ⟨rfl, ?_⟩
        refine ⟨_, rfl, x, p, rfl, dpS g hpx, by omega, bds_mem hb hpm, by omega, fun H2 v2 g2 h2 => ?_⟩
        have hwl := fmsLen hws
        rw [List.length_map, List.length_take] at hwl
        refine ⟨ws, g2 _ _ hD1, szb (by omega), ws ++ [v2], (g.trans g2).mut hD, upd_same, ?_⟩
        rw [take_snoc hp, List.map_append]
        exact fmsApp (fmsAll (keepTup (g2 _ _ hD1)) _ _ (dpsS g2 hws)) (.cons (fmW (g2 _ _ hD1) h2) .nil)
      rintro H1 ⟨ws, g, hD1, hws⟩
      rw [hul, List.take_length] at hws
      refine ⟨D, _, rfl, .inl ⟨sL hD1, fun l hn => ⟨by show 2 ≤ sizeLine; decide, fun p hp => k _ _ (g.trans ((Same.new hn).trans (.new hp))) ?_⟩⟩⟩
      exact fmRow2 (sT upd_same) ((Same.new hp).sqT (sT upd_same)) (dpsS ((Same.new hn).trans (.new hp)) hws)
    | pick ps =>
      obtain ⟨a, b, us, rfl, ht, hbu, hu⟩ := fmPick hf
      rw [Fm.op, ops_map] at k
      rw [Fm.dp] at hdp
      rw [Fm.size] at hsz
      rw [Fm.bd] at hb
      have hul := fmsLen hu
      have hlen := len_sizes ps
      refine ⟨_, rfl, a, _, 0, _, rfl, rfl, ht, atI_nat (j := 0) rfl, rfl, _, rfl, ?_⟩
      refine iteF ?_
      refine ⟨_, rfl, a, _, 0, _, rfl, rfl, ht, atI_nat (j := 0) rfl, rfl, _, rfl, ?_⟩
      refine iteT ?_
      refine ⟨_, rfl, a, _, 0, _, rfl, rfl, ht, atI_nat (j := 0) rfl, ?_⟩
      refine ⟨_, rfl, a, _, 1, _, rfl, rfl, ht, atI_nat (j := 1) rfl, b, rfl, ⟨_, hbu⟩, fun D hD => ?_⟩
      refine lc_tup (K := K) (a := b) (xs := us) (fun i H' => ∃ ws, Same H H' ∧ H' D = some (.lst ws) ∧ FmsAt K H' ws ((ps.take i).map Fm.op)) ⟨[], .new hD, upd_same, .nil⟩ (fun i H' _ ⟨_, g, _⟩ => g.sqT hbu) ?_ ?_
      · rintro i x H1 hx ⟨ws, g, hD1, hws⟩
        obtain ⟨p, hp, hpx⟩ := fmsAtV hu hx
        have hpm := List.mem_of_getElem? hp
        have hi := (List.getElem?_eq_some_iff.mp hx).1
        have h1 := dps_mem hpm
        have h2 := sizes_mem hpm
        refine ⟨rfl, ?_⟩
        refine ⟨_, rfl, x, p, rfl, dpS g hpx, by omega, bds_mem hb hpm, by omega, fun H2 v2 g2 h2 => ?_⟩
        have hwl := fmsLen hws
        rw [List.length_map, List.length_take] at hwl
        refine ⟨ws, g2 _ _ hD1, szb (by omega), ws ++ [v2], (g.trans g2).mut hD, upd_same, ?_⟩
        rw [take_snoc hp, List.map_append]
        exact fmsApp (fmsAll (keepTup (g2 _ _ hD1)) _ _ (dpsS g2 hws)) (.cons (fmW (g2 _ _ hD1) h2) .nil)
      rintro H1 ⟨ws, g, hD1, hws⟩
      rw [hul, List.take_length] at hws
      refine ⟨D, _, rfl, .inl ⟨sL hD1, fun l hn => ⟨by show 2 ≤ sizeLine; decide, fun p hp => k _ _ (g.trans ((Same.new hn).trans (.new hp))) ?_⟩⟩⟩
      exact fmPick2 (sT upd_same) ((Same.new hp).sqT (sT upd_same)) (dpsS ((Same.new hn).trans (.new hp)) hws)
    | times p l h =>
      obtain ⟨a, u, rfl, ht, hu⟩ := fmTimes hf
      rw [Fm.bd, Bool.and_eq_true] at hb
      rw [Fm.dp] at hdp
      rw [Fm.size] at hsz
      have hl := bd1_l hb.2
      have ek : (Fm.times p l h).op = op1 p.op l h := by rw [Fm.op]
      rw [ek] at k
      refine ⟨_, rfl, a, _, 0, _, rfl, rfl, ht, atI_nat (j := 0) rfl, rfl, _, rfl, ?_⟩
      refine iteF ?_
      refine ⟨_, rfl, a, _, 0, _, rfl, rfl, ht, atI_nat (j := 0) rfl, rfl, _, rfl, ?_⟩
      refine iteF ?_
      refine ⟨_, rfl, a, _, 1, _, rfl, rfl, ht, atI_nat (j := 1) rfl, u, p, rfl, hu, by omega, hb.1, by omega, fun H1 x s1 hx => ?_⟩
      refine ⟨_, rfl, _, rfl, a, _, rfl, s1.sqT ht, fun e => absurd e.1 (show ¬ HT.sIx 4 0 (some 2) = 0 by decide), fun _ p0 n0 => ?_⟩
      have t0 := Same.new n0 (o := .tup (cutV [.str "times", u, .int (l : Int), highV h] (some (2 : Int)) none))
      have s2 := s1.trans t0
      refine ⟨p0, _, rfl, sT upd_same, rfl, _, _, rfl, _, _, rfl, rfl, ?_⟩
      have hx2 := dpS t0 hx
      have z2 : (2 : Nat) ≤ sizeLine := by decide
      refine ⟨_, rfl, _, rfl, z2, fun p1 n1 => ⟨z2, fun p2 n2 => ⟨z2, fun p3 n3 => ⟨z2, fun p4 n4 => ⟨(by show 3 ≤ sizeLine; decide), fun p5 n5 => ?_⟩⟩⟩⟩⟩
      have t1 := Same.new n1 (o := .tup [.int (l : Int), highV h])
      have t2 := Same.new n2 (o := .tup [.int 0, .int 1])
      have t3 := Same.new n3 (o := .tup [.int 0, .non])
      have t4 := Same.new n4 (o := .tup [.int 1, .non])
      have t5 := Same.new n5 (o := .lst [.ref p2, .ref p3, .ref p4])
      refine ⟨pairD l h, pcD, dpPair (((t2.trans t3).trans (t4.trans t5)).sqT (sT upd_same)), pcL (sL upd_same) (((t3.trans t4).trans t5).sqT (sT upd_same)) ((t4.trans t5).sqT (sT upd_same)) (t5.sqT (sT upd_same)), sh_pair _ _, sh_pcL, _, rfl, ?_⟩
      rw [pc_plc]
      have s7 := s2.trans (t1.trans ((t2.trans t3).trans (t4.trans t5)))
      have hx7 := dpS (t1.trans ((t2.trans t3).trans (t4.trans t5))) hx2
      by_cases hc : plc l h = true
      · rw [hc]
        refine iteT ?_
        rw [op1_plain hc] at k
        exact ⟨_, rfl, _, rfl, _, rfl, (by show 4 ≤ sizeLine; decide), fun q2 m2 => k _ _ (s7.trans (.new m2)) (fmTup4 (sT upd_same) (dpS (.new m2) hx7))⟩
      rw [Bool.not_eq_true] at hc
      rw [hc]
      refine iteF ?_
      cases h with
      | none =>
        rw [op1_none hc] at k
        have hl2 : 2 ≤ l := by
          refine Nat.le_of_not_lt fun q => ?_
          have : l = 0 ∨ l = 1 := by omega
          rcases this with rfl | rfl
          · cases hc
          · cases hc
        refine ⟨_, rfl, _, rfl, iteT ?_⟩
        refine ⟨_, rfl, (by show 1 ≤ sizeLine; decide), fun q2 m2 => ⟨_, rfl, _, _, rfl, rfl, q2, _, _, rfl, rfl, sT upd_same, by simp, by omega, by omega, by simp, fun H8 q3 s8 h3 => ?_⟩⟩
        refine ⟨_, rfl, (by show 4 ≤ sizeLine; decide), fun q4 m4 => ⟨(by show 1 ≤ sizeLine; decide), fun q5 m5 => ?_⟩⟩
        have u2 := Same.new m2 (o := .tup [x])
        have u4 := Same.new m4 (o := .tup [.str "times", x, .int 1, .non])
        have u5 := Same.new m5 (o := .tup [.ref q4])
        refine catT ((u4.trans u5).sqT h3) (sT upd_same) (szl (by rw [repLen, List.length_singleton]; omega)) (fun H9 q6 s9 h6 => ?_)
        have sA := s7.trans (u2.trans (s8.trans ((u4.trans u5).trans s9)))
        have hxA := dpS (u2.trans (s8.trans ((u4.trans u5).trans s9))) hx7
        refine ⟨by show 2 ≤ sizeLine; decide, fun q7 m7 => k _ _ (sA.trans (.new m7)) ?_⟩
        have u7 := Same.new m7 (o := .tup [.str "row", .ref q6])
        have ero : rowOf (List.replicate (l - 1) p.op ++ [.times p.op 1 none]) = .row (List.replicate (l - 1) p.op ++ [.times p.op 1 none]) := by
          obtain ⟨l', rfl⟩ : ∃ l', l = l' + 2 := ⟨l - 2, by omega⟩
          show rowOf (List.replicate (l' + 1) p.op ++ _) = _
          rw [List.replicate_succ]
          cases l' with
          | zero => rfl
          | succ m => rfl
        rw [ero]
        refine fmRow2 (sT upd_same) (u7.sqT h6) (fmsApp ?_ (.cons (fmTup4 (h := none) (l := 1) ((u5.trans (s9.trans u7)).sqT (sT upd_same)) (dpS u7 hxA)) .nil))
        rw [show ((l : Int) - 1).toNat = l - 1 by omega]
        exact fmsRep (dpS u7 hxA) _
      | some n =>
        rw [op1_some hc] at k
        have hb2 := hb.2
        simp [bd1] at hb2
        refine ⟨_, rfl, _, rfl, iteF ?_⟩
        refine ⟨_, rfl, (by show 1 ≤ sizeLine; decide), fun q2 m2 => ⟨_, rfl, q2, _, _, rfl, rfl, sT upd_same, by simp, by omega, by omega, by simp, fun H8 q3 s8 h3 => ?_⟩⟩
        have u2 := Same.new m2 (o := .tup [x])
        have sA := s7.trans (u2.trans s8)
        have hxA := dpS (u2.trans s8) hx7
        have hfl : FmsAt K H8 (List.replicate (l : Int).toNat [x]).flatten (List.replicate l p.op) := fmsRep hxA _
        refine ⟨_, rfl, _, rfl, _, _, rfl, rfl, _, rfl, ite2 (fun hlt => ?_) (fun hle => ?_)⟩
        · have hlt' : l < n := by have : (l : Int) < (n : Int) := of_decide_eq_true hlt; omega
          rw [if_neg (by omega)] at k
          refine ⟨_, rfl, (by show 4 ≤ sizeLine; decide), fun q4 m4 => ?_⟩
          have u4 := Same.new m4 (o := .tup [.str "times", x, .int 0, .int 1])
          refine ⟨_, rfl, _, rfl, _, _, rfl, rfl, _, _, rfl, rfl, _, rfl, by omega, by omega, ?_⟩
          have hz : ((n : Int) - (l : Int) - 1).toNat = n - l - 1 := by omega
          refine for_range (lo := 0) (n := ((n : Int) - (l : Int) - 1).toNat) (fun i σ H' => ∃ (t : V) (o7 : Option V), σ = [some (.ref a), none, some x, some (.int (l : Int)), some (highV (some n)), some (.ref q3), some t, o7] ∧ Same H8 H' ∧ FmAt K H' t (upT p.op i)) ⟨_, _, rfl, u4, fmTup4 (h := some 1) (l := 0) (sT upd_same) (dpS u4 hxA)⟩ ?_ ?_
          · rintro i σ H9 hi ⟨t, o7, rfl, s9, ht9⟩
            refine ⟨_, rfl, _, rfl, z2, fun r1 n1 => ⟨z2, fun r2 n2 => ⟨(by show 4 ≤ sizeLine; decide), fun r3 n3 => ?_⟩⟩⟩
            have w4 := (Same.new n1).trans ((Same.new n2).trans (Same.new n3 (o := .tup [.str "times", .ref r2, .int 0, .int 1])))
            refine ⟨_, _, rfl, s9.trans w4, fmTup4 (h := some 1) (l := 0) (sT upd_same) ?_⟩
            exact fmRow2 ((Same.new n3).sqT (sT upd_same)) (((Same.new n2).trans (Same.new n3)).sqT (sT upd_same)) (.cons (dpS (s9.trans w4) hxA) (.cons (dpS w4 ht9) .nil))
          rintro σ H9 ⟨t, o7, rfl, s9, ht9⟩
          rw [hz] at ht9
          refine ⟨_, rfl, _, rfl, (by show 1 ≤ sizeLine; decide), fun q5 m5 => ?_⟩
          have u5 := Same.new m5 (o := .tup [t])
          refine catT ((s9.trans u5).sqT h3) (sT upd_same) (szl (by rw [repLen, List.length_singleton]; omega)) (fun H10 q6 s10 h6 => ?_)
          have sB := sA.trans (s9.trans (u5.trans s10))
          have hfB : FmsAt K H10 ((List.replicate (l : Int).toNat [x]).flatten ++ [t]) (List.replicate l p.op ++ [upT p.op (n - l - 1)]) := fmsApp (dpsS (s9.trans (u5.trans s10)) hfl) (.cons (dpS (u5.trans s10) ht9) .nil)
          refine ⟨_, rfl, q6, _, rfl, .inr h6, rfl, _, rfl, ?_⟩
          have hlen := fmsLen hfB
          by_cases h1 : (List.replicate l p.op ++ [upT p.op (n - l - 1)]).length = 1
          · obtain ⟨y, ey⟩ := List.length_eq_one_iff.mp h1
            rw [decide_eq_true (show V.int ((((List.replicate (l : Int).toNat [x]).flatten ++ [t]).length : Nat) : Int) = V.int 1 by rw [hlen, h1]; rfl)]
            refine iteT ?_
            rw [ey] at k
            have hf1 := hfB
            rw [ey] at hf1
            obtain ⟨u0, ur, e2, hu0, _⟩ := dpCons (show DpAll K _ _ [y.dat] from hf1)
            exact ⟨_, rfl, q6, _, 0, _, rfl, rfl, h6, atI_nat (j := 0) (by rw [e2]; rfl), k _ _ sB hu0⟩
          · rw [decide_eq_false (show ¬ V.int ((((List.replicate (l : Int).toNat [x]).flatten ++ [t]).length : Nat) : Int) = V.int 1 from fun e => h1 (by have := V.int.inj e; omega))]
            refine iteF ?_
            refine ⟨_, rfl, by show 2 ≤ sizeLine; decide, fun q9 m9 => k _ _ (sB.trans (.new m9)) ?_⟩
            rw [rowOf_many h1]
            exact fmRow2 (sT upd_same) ((Same.new m9).sqT h6) (dpsS (.new m9) hfB)
        · have hnl : n = l := by
            refine Nat.le_antisymm (Nat.le_of_not_lt fun q => hle (decide_eq_true ?_)) hb2.1
            show (l : Int) < (n : Int)
            omega
          rw [if_pos hnl] at k
          refine ⟨_, rfl, q3, _, rfl, .inr h3, rfl, _, rfl, ?_⟩
          have hlen := fmsLen hfl
          by_cases h1 : (List.replicate l p.op).length = 1
          · obtain ⟨y, ey⟩ := List.length_eq_one_iff.mp h1
            rw [decide_eq_true (show V.int (((List.replicate (l : Int).toNat [x]).flatten.length : Nat) : Int) = V.int 1 by rw [hlen, h1]; rfl)]
            refine iteT ?_
            rw [ey] at k
            have hf1 := hfl
            rw [ey] at hf1
            obtain ⟨u0, ur, e2, hu0, _⟩ := dpCons (show DpAll K _ _ [y.dat] from hf1)
            exact ⟨_, rfl, q3, _, 0, _, rfl, rfl, h3, atI_nat (j := 0) (by rw [e2]; rfl), k _ _ sA hu0⟩
          · rw [decide_eq_false (show ¬ V.int (((List.replicate (l : Int).toNat [x]).flatten.length : Nat) : Int) = V.int 1 from fun e => h1 (by have := V.int.inj e; omega))]
            refine iteF ?_
            refine ⟨_, rfl, by show 2 ≤ sizeLine; decide, fun q9 m9 => k _ _ (sA.trans (.new m9)) ?_⟩
            rw [rowOf_many h1]
            exact fmRow2 (sT upd_same) ((Same.new m9).sqT h3) (dpsS (.new m9) hfl)
end
end Sw
set_option Elab.async false
set_option maxRecDepth 100000
set_option maxHeartbeats 8000000
namespace Sw
open PySem L2 PySem.Spec PyProof.Rows
def tlN (m : Nat) : Nat → Nat
  | 0 => 0
  | k + 1 => 1 + m + tlN m k + (if 0 < tlN m k then 1 else 0)
theorem tlN_eq (m : Nat) : ∀ k : Nat, tlN m (k + 1) = (k + 1) * (1 + m) + (k + 1) - 1
  | 0 => by simp [tlN]
  | k + 1 => by
    have ih := tlN_eq m k
    have hp : 0 < tlN m (k + 1) := by rw [tlN]; omega
    rw [tlN, if_pos hp, ih]
    have e : (k + 1 + 1) * (1 + m) = (k + 1) * (1 + m) + (1 + m) := by rw [Nat.succ_mul]
    rw [e]
    omega
section
variable {P : Program} {w : World} {K : PySem.W.Frag} {mg : Str → Option Value} {base : Heap}
abbrev n_law_e_size : List Str := ["form", "one", "inner", "low", "high", "tail", "k"]
theorem sc_law_e_size : FnScope n_law_e_size ["form"] (defScope s_law_e_size) := ⟨rfl, rfl, rfl, by decide +kernel, rfl, by decide +kernel, by decide +kernel⟩
def spEs (K : PySem.W.Frag) (n : Nat) : Sp := fun vs H Q _ => ∃ v f, vs = [v] ∧ FmAt K H v f ∧ f.dp ≤ n ∧ f.bd = true ∧ f.size ≤ 100000 ∧ ∀ H', Same H H' → Q (.int (f.osz : Int)) H'
theorem ok_law_e_size (F : DefAt K mg "_law_e_size" s_law_e_size ["form"]) (b_int : mg "int" = none) (b_range : mg "range" = none) (b_sum : mg "sum" = none) : ∀ n, DefOk P w K mg base "_law_e_size" (n + 1) ["form"] (spEs K n)
  | 0 => by
    refine F.ok sc_law_e_size (fun vs H Q E h => ?_) (fun f cdv A outer s H vs Q E hr h => ?_)
    · obtain ⟨_, _, rfl, _⟩ := h
      rfl
    · obtain ⟨_, f, _, _, q, _⟩ := h
      exact absurd (dp_pos f) (by omega)
  | n + 1 => by
    have d__law_e_size := ok_law_e_size F b_int b_range b_sum n
    refine F.ok sc_law_e_size (fun vs H Q E h => ?_) (fun fA cdv A outer s H vs Q E hr h => ?_)
    · obtain ⟨_, _, rfl, _⟩ := h
      rfl
    obtain ⟨v, f, rfl, hf, hdp, hb, hsz, k⟩ := h
    refine ⟨_, (pss_cons (ps_if (pt_cmpR op_eq (pe_ix ix_tup (pv 0) pe_int (fun _ _ => rfl)) pe_str (nomark _)) (pss_one (ps_ret pe_int)) pss_nil)
    (pss_cons (ps_if (pt_cmpR op_ne (pe_ix ix_tup (pv 0) pe_int (fun _ _ => rfl)) pe_str (nomark _)) (pss_one (ps_ret (pe_op op_add pe_int (pe_callB (cr_sum rfl) (by rfl) b_sum (by decide +kernel) (pa_cons (pe_lc (own := [("one", 1)]) (g := gName 1) rfl sc_law_e_size.nd (pi_tup (pe_ix ix_tup (pv 0) pe_int (fun _ _ => rfl))) (blkOk_by (own := [("one", 1)]) (N := n_law_e_size) (sc := defScope s_law_e_size) (by decide +kernel)) (fun _ _ _ _ _ => (pg_name (i := 1) sc_law_e_size.nd rfl (Or.inl rfl))) (fun _ _ _ _ _ => pts_nil) (fun _ _ _ _ _ => (pe_callD d__law_e_size (hr.mono (by omega)) rfl (pa_cons (pv 1) pa_nil)))) pa_nil))))) pss_nil)
    (pss_cons (ps_set (i := 2) sc_law_e_size.nd rfl (Or.inl rfl) (pe_callD d__law_e_size (hr.mono (by omega)) rfl (pa_cons (pe_ix ix_tup (pv 0) pe_int (fun _ _ => rfl)) pa_nil)))
    (pss_cons (ps_asg (pe_slice sl_tupA (pv 0) (po_some pe_int) po_none) (pg_tup rfl (pgs_cons (pg_name (i := 3) sc_law_e_size.nd rfl (Or.inl rfl)) (pgs_cons (pg_name (i := 4) sc_law_e_size.nd rfl (Or.inl rfl)) pgs_nil))))
    (pss_cons (ps_if (pt_cmpR (r := rInD K) (op_inD (units65 hr)) (pe_tup (pa_cons (pv 3) (pa_cons (pv 4) pa_nil))) (pe_lst (pa_cons (pe_tup (pa_cons pe_int (pa_cons pe_int pa_nil))) (pa_cons (pe_tup (pa_cons pe_int (pa_cons pe_non pa_nil))) (pa_cons (pe_tup (pa_cons pe_int (pa_cons pe_non pa_nil))) pa_nil)))) (by rfl)) (pss_one (ps_ret (pe_op op_add pe_int (pv 2)))) pss_nil)
    (pss_cons (ps_if (pt_cmp (pc_isN (pv 4)) rfl) (pss_one (ps_ret (pe_op op_add (pe_op op_add (pe_op op_add pe_int (pe_op op_mul (pe_op op_sub (pv 3) pe_int) (pv 2))) pe_int) (pv 2)))) pss_nil)
    (pss_cons (ps_set (i := 5) sc_law_e_size.nd rfl (Or.inl rfl) pe_int)
    (pss_cons (ps_for PassesOwn.never rfl (pi_range1 rfl b_range (pa_cons (pe_op op_sub (pv 4) (pv 3)) pa_nil)) (pg_name (i := 6) sc_law_e_size.nd rfl (Or.inl rfl))
      (pss_one (ps_set (i := 5) sc_law_e_size.nd rfl (Or.inl rfl) (pe_op op_add (pe_op op_add (pe_op op_add pe_int (pv 2)) (pv 5)) (pe_callTy call_int1 (by rfl) b_int (by decide +kernel) (pa_cons (pe_cmpR op_gt (pv 5) pe_int (nomark _)) pa_nil))))))
    (pss_one (ps_ret (pe_op op_add (pe_op op_add (pe_op op_mul (pv 3) (pv 2)) (pv 5)) (pe_callTy call_int1 (by rfl) b_int (by decide +kernel) (pa_cons (pe_cmpR op_gt (pe_op op_add (pv 3) (pe_callTy call_int1 (by rfl) b_int (by decide +kernel) (pa_cons (pe_cmpR op_gt (pv 4) (pv 3) (nomark _)) pa_nil))) pe_int (nomark _)) pa_nil))))))))))))), ?_⟩
    have kk : ∀ z : Int, z = (f.osz : Int) → ∀ H', Same H H' → Q (.int z) H' := fun z e H' s => by rw [e]; exact k H' s
    cases f with
    | sign s =>
      obtain ⟨a, rfl, ht⟩ := fmSign hf
      refine ⟨_, rfl, a, _, 0, _, rfl, rfl, ht, atI_nat (j := 0) rfl, rfl, _, rfl, ?_⟩
      refine iteT ?_
      exact kk 1 (by rw [Fm.osz]; rfl) _ (.refl _)
    | times p l h =>
      obtain ⟨a, u, rfl, ht, hu⟩ := fmTimes hf
      rw [Fm.bd, Bool.and_eq_true] at hb
      rw [Fm.dp] at hdp
      rw [Fm.size] at hsz
      have hl := bd1_l hb.2
      refine ⟨_, rfl, a, _, 0, _, rfl, rfl, ht, atI_nat (j := 0) rfl, rfl, _, rfl, ?_⟩
      refine iteF ?_
      refine ⟨_, rfl, a, _, 0, _, rfl, rfl, ht, atI_nat (j := 0) rfl, rfl, _, rfl, ?_⟩
      refine iteF ?_
      refine ⟨_, rfl, a, _, 1, _, rfl, rfl, ht, atI_nat (j := 1) rfl, u, p, rfl, hu, by omega, hb.1, by omega, fun H1 s1 => ?_⟩
      refine ⟨_, rfl, _, rfl, a, _, rfl, s1.sqT ht, fun e => absurd e.1 (show ¬ HT.sIx 4 0 (some 2) = 0 by decide), fun _ p0 n0 => ?_⟩
      have t0 := Same.new n0 (o := .tup (cutV [.str "times", u, .int (l : Int), highV h] (some (2 : Int)) none))
      have s2 := s1.trans t0
      refine ⟨p0, _, rfl, sT upd_same, rfl, _, _, rfl, _, _, rfl, rfl, ?_⟩
      have z2 : (2 : Nat) ≤ sizeLine := by decide
      refine ⟨_, rfl, _, rfl, z2, fun p1 n1 => ⟨z2, fun p2 n2 => ⟨z2, fun p3 n3 => ⟨z2, fun p4 n4 => ⟨(by show 3 ≤ sizeLine; decide), fun p5 n5 => ?_⟩⟩⟩⟩⟩
      have t1 := Same.new n1 (o := .tup [.int (l : Int), highV h])
      have t2 := Same.new n2 (o := .tup [.int 0, .int 1])
      have t3 := Same.new n3 (o := .tup [.int 0, .non])
      have t4 := Same.new n4 (o := .tup [.int 1, .non])
      have t5 := Same.new n5 (o := .lst [.ref p2, .ref p3, .ref p4])
      refine ⟨pairD l h, pcD, dpPair (((t2.trans t3).trans (t4.trans t5)).sqT (sT upd_same)), pcL (sL upd_same) (((t3.trans t4).trans t5).sqT (sT upd_same)) ((t4.trans t5).sqT (sT upd_same)) (t5.sqT (sT upd_same)), sh_pair _ _, sh_pcL, _, rfl, ?_⟩
      rw [pc_plc]
      have s7 := s2.trans (t1.trans ((t2.trans t3).trans (t4.trans t5)))
      have hcm : ∀ y z : Int, -1 ≤ y → y ≤ 12 → CMul y z := fun y z q1 q2 => .inl ⟨by omega, by omega⟩
      by_cases hc : plc l h = true
      · rw [hc]
        refine iteT ?_
        exact ⟨_, rfl, _, _, rfl, rfl, kk _ (by rw [Fm.osz]; unfold sz1; rw [if_pos hc]; simp) _ s7⟩
      rw [Bool.not_eq_true] at hc
      rw [hc]
      refine iteF ?_
      cases h with
      | none =>
        have hl1 : 1 ≤ l := by
          refine Nat.le_of_not_lt fun q => ?_
          have : l = 0 := by omega
          subst this
          cases hc
        refine ⟨_, rfl, _, rfl, iteT ?_⟩
        have e : (1 : Int) + ((l : Int) - 1) * (p.osz : Int) + 1 + (p.osz : Int) = ((Fm.times p l none).osz : Int) := by
          rw [Fm.osz, sz1_none hc, Int.sub_mul]
          simp
          omega
        exact ⟨_, rfl, _, _, rfl, rfl, _, rfl, _, _, rfl, rfl, hcm _ _ (by omega) (by omega), _, _, rfl, rfl, _, _, rfl, rfl, _, rfl, _, _, rfl, rfl, kk _ e _ s7⟩
      | some n =>
        have hb2 := hb.2
        simp [bd1] at hb2
        refine ⟨_, rfl, _, rfl, iteF ?_⟩
        refine ⟨_, rfl, _, rfl, _, _, rfl, rfl, _, rfl, by omega, by omega, ?_⟩
        have hz : ((n : Int) - (l : Int)).toNat = n - l := by omega
        refine for_range (lo := 0) (n := ((n : Int) - (l : Int)).toNat) (fun i σ H' => ∃ (o6 : Option V), σ = [some (.ref a), none, some (.int (p.osz : Int)), some (.int (l : Int)), some (highV (some n)), some (.int (tlN p.osz i : Int)), o6] ∧ Same H H') ⟨_, rfl, s7⟩ ?_ ?_
        · rintro i σ H9 hi ⟨o6, rfl, s9⟩
          refine ⟨_, rfl, _, _, rfl, rfl, _, rfl, _, _, rfl, rfl, _, rfl, _, _, rfl, rfl, .inr ⟨_, rfl, _, _, rfl, rfl, ?_⟩⟩
          refine ⟨some (.int (0 + (i : Int))), ?_, s9⟩
          have e : (1 : Int) + (p.osz : Int) + (tlN p.osz i : Int) + (if decide ((0 : Int) < (tlN p.osz i : Int)) = true then 1 else 0) = (tlN p.osz (i + 1) : Int) := by
            rw [tlN]
            by_cases q : 0 < tlN p.osz i
            · rw [if_pos q, if_pos (decide_eq_true (by omega))]
              simp
            · rw [if_neg q, if_neg (by rw [decide_eq_true_eq]; omega)]
              simp
          rw [← e]
          rfl
        rintro σ H9 ⟨o6, rfl, s9⟩
        rw [hz]
        refine ⟨_, rfl, _, rfl, _, _, rfl, rfl, hcm _ _ (by omega) (by omega), _, rfl, _, _, rfl, rfl, _, rfl, _, rfl, _, rfl, _, _, rfl, rfl, .inr ⟨_, rfl, _, _, rfl, rfl, _, _, rfl, rfl, .inr ⟨_, rfl, _, _, rfl, rfl, kk _ ?_ _ s9⟩⟩⟩
        rw [Fm.osz, sz1_some hc]
        have hln : (l : Int) ≤ (n : Int) := by omega
        by_cases hlt : l < n
        · obtain ⟨d, hd⟩ : ∃ d, n - l = d + 1 := ⟨n - l - 1, by omega⟩
          have hmin : min (n - l) 1 = 1 := by omega
          rw [if_pos hlt, hmin, hd, tlN_eq, if_pos (show decide ((l : Int) < (n : Int)) = true from decide_eq_true (by omega))]
          by_cases q : l + 1 > 1
          · rw [if_pos q, if_pos (decide_eq_true (by omega))]
            simp
          · rw [if_neg q, if_neg (by rw [decide_eq_true_eq]; omega)]
            simp
        · have hd : n - l = 0 := by omega
          rw [if_neg hlt, hd, if_neg (show ¬ decide ((l : Int) < (n : Int)) = true by rw [decide_eq_true_eq]; omega)]
          by_cases q : l + min 0 1 > 1
          · rw [if_pos q, if_pos (decide_eq_true (by omega))]
            simp [tlN]
          · rw [if_neg q, if_neg (by rw [decide_eq_true_eq]; omega)]
            simp [tlN]
    | row ps =>
      obtain ⟨a, b, us, rfl, ht, hbu, hu⟩ := fmRow hf
      rw [Fm.osz, oszs_map] at kk
      rw [Fm.dp] at hdp
      rw [Fm.size] at hsz
      rw [Fm.bd] at hb
      have hul := fmsLen hu
      have hlen := len_sizes ps
      refine ⟨_, rfl, a, _, 0, _, rfl, rfl, ht, atI_nat (j := 0) rfl, rfl, _, rfl, ?_⟩
      refine iteF ?_
      refine ⟨_, rfl, a, _, 0, _, rfl, rfl, ht, atI_nat (j := 0) rfl, rfl, _, rfl, ?_⟩
      refine iteT ?_
      refine ⟨_, rfl, a, _, 1, _, rfl, rfl, ht, atI_nat (j := 1) rfl, b, rfl, ⟨_, hbu⟩, fun D hD => ?_⟩
      refine lc_tup (K := K) (a := b) (xs := us) (fun i H' => Same H H' ∧ H' D = some (.lst (natI ((ps.take i).map Fm.osz)))) ⟨.new hD, upd_same⟩ (fun i H' _ ⟨g, _⟩ => g.sqT hbu) ?_ ?_
      · rintro i x H1 hx ⟨g, hD1⟩
        obtain ⟨p, hp, hpx⟩ := fmsAtV hu hx
        have hpm := List.mem_of_getElem? hp
        have hi := (List.getElem?_eq_some_iff.mp hx).1
        have h1 := dps_mem hpm
        have h2 := sizes_mem hpm
        refine ⟨rfl, ?_⟩
        refine ⟨_, rfl, x, p, rfl, dpS g hpx, by omega, bds_mem hb hpm, by omega, fun H2 g2 => ?_⟩
        refine ⟨_, g2 _ _ hD1, szb (by rw [natI, List.length_map, List.length_map, List.length_take]; omega), (g.trans g2).mut hD, ?_⟩
        rw [upd_same, take_snoc hp]
        simp [natI]
      rintro H1 ⟨g, hD1⟩
      rw [hul, List.take_length, natI_eq] at hD1
      refine ⟨D, _, rfl, sL hD1, _, _, rfl, rfl, kk _ ?_ _ g⟩
      rw [sum_cast]
      simp
    | pick ps =>
      obtain ⟨a, b, us, rfl, ht, hbu, hu⟩ := fmPick hf
      rw [Fm.osz, oszs_map] at kk
      rw [Fm.dp] at hdp
      rw [Fm.size] at hsz
      rw [Fm.bd] at hb
      have hul := fmsLen hu
      have hlen := len_sizes ps
      refine ⟨_, rfl, a, _, 0, _, rfl, rfl, ht, atI_nat (j := 0) rfl, rfl, _, rfl, ?_⟩
      refine iteF ?_
      refine ⟨_, rfl, a, _, 0, _, rfl, rfl, ht, atI_nat (j := 0) rfl, rfl, _, rfl, ?_⟩
      refine iteT ?_
      refine ⟨_, rfl, a, _, 1, _, rfl, rfl, ht, atI_nat (j := 1) rfl, b, rfl, ⟨_, hbu⟩, fun D hD => ?_⟩
      refine lc_tup (K := K) (a := b) (xs := us) (fun i H' => Same H H' ∧ H' D = some (.lst (natI ((ps.take i).map Fm.osz)))) ⟨.new hD, upd_same⟩ (fun i H' _ ⟨g, _⟩ => g.sqT hbu) ?_ ?_
      · rintro i x H1 hx ⟨g, hD1⟩
        obtain ⟨p, hp, hpx⟩ := fmsAtV hu hx
        have hpm := List.mem_of_getElem? hp
        have hi := (List.getElem?_eq_some_iff.mp hx).1
        have h1 := dps_mem hpm
        have h2 := sizes_mem hpm
        refine ⟨rfl, ?_⟩
        refine ⟨_, rfl, x, p, rfl, dpS g hpx, by omega, bds_mem hb hpm, by omega, fun H2 g2 => ?_⟩
        refine ⟨_, g2 _ _ hD1, szb (by rw [natI, List.length_map, List.length_map, List.length_take]; omega), (g.trans g2).mut hD, ?_⟩
        rw [upd_same, take_snoc hp]
        simp [natI]
      rintro H1 ⟨g, hD1⟩
      rw [hul, List.take_length, natI_eq] at hD1
      refine ⟨D, _, rfl, sL hD1, _, _, rfl, rfl, kk _ ?_ _ g⟩
      rw [sum_cast]
      simp
end
end Sw
set_option Elab.async false
set_option maxRecDepth 100000
set_option maxHeartbeats 8000000
namespace Sw
open PySem L2 PySem.Spec PyProof.Rows
mutual
theorem noLf : ∀ f : Fm, noL f.dat = true
  | .sign s => rfl
  | .row ps => by rw [Fm.dat]; unfold noL noLs noLs noL; rw [noLfs ps]; rfl
  | .pick ps => by rw [Fm.dat]; unfold noL noLs noLs noL; rw [noLfs ps]; rfl
  | .times p l h => by
    rw [Fm.dat]
    unfold noL
    simp only [noLs, noL]
    rw [noLf p]
    cases h <;> rfl
theorem noLfs : ∀ ps : List Fm, noLs (Fm.dats ps) = true
  | [] => rfl
  | p :: ps => by rw [Fm.dats]; unfold noLs; rw [noLf p, noLfs ps]; rfl
end
theorem PenAt.fm {K : PySem.W.Frag} {H H' : Hp} {pen sp : Addr} {v : V} {f : Fm} (h : PenAt H pen sp) (b : But pen H H') (hf : FmAt K H v f) : FmAt K H' v f := h.dp b (noLf f) hf
theorem PenAt.fms {K : PySem.W.Frag} {H H' : Hp} {pen sp : Addr} {vs : List V} {fs : List Fm} (h : PenAt H pen sp) (b : But pen H H') (hf : FmsAt K H vs fs) : FmsAt K H' vs fs := h.dps b (noLfs fs) hf
/-! ### the forms that are drawn -/
mutual
def Fm.sgs : Fm → Bool
  | .sign s => signS s
  | .row ps => Fm.sgss ps
  | .pick ps => Fm.sgss ps
  | .times p _ _ => p.sgs
def Fm.sgss : List Fm → Bool
  | [] => true
  | p :: ps => p.sgs && Fm.sgss ps
end
def fS : Nat → Nat
  | 0 => 1
  | n + 1 => 1 + 3 * fS n
structure Fo (n : Nat) (f : Fm) : Prop where
  dp : f.dp ≤ n + 1
  bd : f.bd = true
  sz : f.size ≤ fS n
  sg : f.sgs = true
theorem fS_pos (n : Nat) : 0 < fS n := by cases n <;> simp [fS] <;> omega
theorem Fo.sign {n : Nat} {s : Str} (h : signS s = true) : Fo n (.sign s) := ⟨by rw [Fm.dp]; omega, rfl, by have := fS_pos n; rw [Fm.size]; omega, by rw [Fm.sgs]; exact h⟩
theorem fo_all {n : Nat} : ∀ {ps : List Fm}, (∀ p, p ∈ ps → Fo n p) → Fm.dps ps ≤ n + 1 ∧ Fm.bds ps = true ∧ Fm.sizes ps ≤ ps.length * fS n ∧ Fm.sgss ps = true
  | [], _ => ⟨by simp [Fm.dps], rfl, by simp [Fm.sizes], rfl⟩
  | p :: ps, h => by
    obtain ⟨a, b, c, d⟩ := fo_all (ps := ps) fun q m => h q (.tail _ m)
    have hp := h p (.head _)
    refine ⟨by rw [Fm.dps]; have := hp.dp; omega, by rw [Fm.bds, hp.bd, b]; rfl, ?_, by rw [Fm.sgss, hp.sg, d]; rfl⟩
    rw [Fm.sizes, List.length_cons, Nat.succ_mul]
    have := hp.sz
    omega
theorem Fo.row {n : Nat} {ps : List Fm} (h : ∀ p, p ∈ ps → Fo n p) (hl : ps.length ≤ 3) : Fo (n + 1) (.row ps) := by
  obtain ⟨a, b, c, d⟩ := fo_all h
  have := Nat.mul_le_mul_right (fS n) hl
  exact ⟨by rw [Fm.dp]; omega, by rw [Fm.bd]; exact b, by rw [Fm.size, fS]; omega, by rw [Fm.sgs]; exact d⟩
theorem Fo.pick {n : Nat} {ps : List Fm} (h : ∀ p, p ∈ ps → Fo n p) (hl : ps.length ≤ 3) : Fo (n + 1) (.pick ps) := by
  obtain ⟨a, b, c, d⟩ := fo_all h
  have := Nat.mul_le_mul_right (fS n) hl
  exact ⟨by rw [Fm.dp]; omega, by rw [Fm.bd]; exact b, by rw [Fm.size, fS]; omega, by rw [Fm.sgs]; exact d⟩
theorem Fo.times {n : Nat} {p : Fm} {l : Nat} {h : Option Nat} (q : Fo n p) (b : bd1 l h = true) : Fo (n + 1) (.times p l h) := by
  have := q.dp
  have := q.sz
  exact ⟨by rw [Fm.dp]; omega, by rw [Fm.bd, q.bd, b]; rfl, by rw [Fm.size, fS]; omega, by rw [Fm.sgs]; exact q.sg⟩
theorem bnds {K : PySem.W.Frag} {H : Hp} {q1 q2 q3 q4 q5 q6 q7 q8 q9 q10 q11 : Addr} (e1 : SqT K H q1 [.int 0, .int 1]) (e2 : SqT K H q2 [.int 0, .non]) (e3 : SqT K H q3 [.int 1, .non]) (e4 : SqT K H q4 [.int 0, .int 2]) (e5 : SqT K H q5 [.int 1, .int 2]) (e6 : SqT K H q6 [.int 2, .int 2]) (e7 : SqT K H q7 [.int 1, .int 3]) (e8 : SqT K H q8 [.int 2, .int 3]) (e9 : SqT K H q9 [.int 2, .non]) (e10 : SqT K H q10 [.int 1, .int 1]) (e11 : SqT K H q11 [.int 0, .int 3]) :
    ∀ m : Nat, m < 11 → ∃ (q : Addr) (l : Nat) (h : Option Nat), ([.ref q1, .ref q2, .ref q3, .ref q4, .ref q5, .ref q6, .ref q7, .ref q8, .ref q9, .ref q10, .ref q11] : List V)[m]? = some (.ref q) ∧ SqT K H q [.int (l : Int), highV h] ∧ bd1 l h = true := by
  intro m hm
  match m, hm with
  | 0, _ => exact ⟨q1, 0, (some 1), rfl, e1, by decide⟩
  | 1, _ => exact ⟨q2, 0, none, rfl, e2, by decide⟩
  | 2, _ => exact ⟨q3, 1, none, rfl, e3, by decide⟩
  | 3, _ => exact ⟨q4, 0, (some 2), rfl, e4, by decide⟩
  | 4, _ => exact ⟨q5, 1, (some 2), rfl, e5, by decide⟩
  | 5, _ => exact ⟨q6, 2, (some 2), rfl, e6, by decide⟩
  | 6, _ => exact ⟨q7, 1, (some 3), rfl, e7, by decide⟩
  | 7, _ => exact ⟨q8, 2, (some 3), rfl, e8, by decide⟩
  | 8, _ => exact ⟨q9, 2, none, rfl, e9, by decide⟩
  | 9, _ => exact ⟨q10, 1, (some 1), rfl, e10, by decide⟩
  | 10, _ => exact ⟨q11, 0, (some 3), rfl, e11, by decide⟩
section
variable {P : Program} {w : World} {K : PySem.W.Frag} {mg : Str → Option Value} {base : Heap}
abbrev n_law_e_form : List Str := ["pen", "signs", "deep", "around", "way", "inner", "bounds", "many", "k"]
theorem sc_law_e_form : FnScope n_law_e_form ["pen", "signs", "deep", "around"] (defScope s_law_e_form) := ⟨rfl, rfl, rfl, by decide +kernel, rfl, by decide +kernel, by decide +kernel⟩
def SgL (ss : List Str) : Prop := 0 < ss.length ∧ ss.length ≤ 3 ∧ ∀ t, t ∈ ss → signS t = true
def spEf (K : PySem.W.Frag) (n : Nat) : Sp := fun vs H Q _ => ∃ (pen sp sg : Addr) (ss : List Str) (ar : Nat), vs = [.ref pen, .ref sg, .int (n : Int), .int (ar : Int)] ∧ PenAt H pen sp ∧ H sg = some (.lst (ss.map V.str)) ∧ SgL ss ∧
  ∀ H' v f, But pen H H' → PenAt H' pen sp → FmAt K H' v f → Fo n f → Q v H'
theorem ok_law_e_form (F : DefAt K mg "_law_e_form" s_law_e_form ["pen", "signs", "deep", "around"]) (d__law_e_take : DefOk P w K mg base "_law_e_take" 1 ["pen", "many"] spTake) (b_len : mg "len" = none) (b_range : mg "range" = none) (b_tuple : mg "tuple" = none) :
    ∀ n, DefOk P w K mg base "_law_e_form" (n + 2) ["pen", "signs", "deep", "around"] (spEf K n) := by
  have step : ∀ (n : Nat) (sp' : Sp), (n = 0 ∨ sp' = spEf K (n - 1)) → DefOk P w K mg base "_law_e_form" (n + 1) ["pen", "signs", "deep", "around"] sp' → DefOk P w K mg base "_law_e_form" (n + 2) ["pen", "signs", "deep", "around"] (spEf K n) := by
    intro n sp' hn d__law_e_form
    refine F.ok sc_law_e_form (fun vs H Q E h => ?_) (fun fA cdv A outer s H vs Q E hr h => ?_)
    · obtain ⟨_, _, _, _, _, rfl, _⟩ := h
      rfl
    obtain ⟨pen, sp, sg, ss, ar, rfl, hp, hss, hsg, k⟩ := h
    refine ⟨_, (pss_cons (ps_set (i := 4) sc_law_e_form.nd rfl (Or.inl rfl) (pe_callD d__law_e_take (hr.mono (by omega)) rfl (pa_cons (pv 0) (pa_cons pe_int pa_nil))))
    (pss_cons (ps_if (PW.pt (pw_or (pt_cmpR op_eq (pv 2) pe_int (nomark _)) (pw_or1 (pt_cmpR op_lt (pv 4) pe_int (nomark _))))) (pss_one (ps_ret (pe_tup (pa_cons pe_str (pa_cons (pe_ix ix_list (pv 1) (pe_callD d__law_e_take (hr.mono (by omega)) rfl (pa_cons (pv 0) (pa_cons (pe_callB call_len_seq (by rfl) b_len PySem.boot_len (pa_cons (pv 1) pa_nil)) pa_nil))) (fun _ _ => rfl)) pa_nil))))) pss_nil)
    (pss_cons (ps_if (PW.pt (pw_and (pt_cmpR op_lt (pv 4) pe_int (nomark _)) (pw_and1 (pt_cmpR op_gt (pv 3) pe_int (nomark _))))) (pss_cons (ps_set (i := 5) sc_law_e_form.nd rfl (Or.inl rfl) (pe_callD d__law_e_form (hr.mono (by omega)) rfl (pa_cons (pv 0) (pa_cons (pv 1) (pa_cons (pe_op op_sub (pv 2) pe_int) (pa_cons (pe_op op_sub (pv 3) pe_int) pa_nil))))))
    (pss_cons (ps_set (i := 6) sc_law_e_form.nd rfl (Or.inl rfl) (pe_lst (pa_cons (pe_tup (pa_cons pe_int (pa_cons pe_int pa_nil))) (pa_cons (pe_tup (pa_cons pe_int (pa_cons pe_non pa_nil))) (pa_cons (pe_tup (pa_cons pe_int (pa_cons pe_non pa_nil))) (pa_cons (pe_tup (pa_cons pe_int (pa_cons pe_int pa_nil))) (pa_cons (pe_tup (pa_cons pe_int (pa_cons pe_int pa_nil))) (pa_cons (pe_tup (pa_cons pe_int (pa_cons pe_int pa_nil))) (pa_cons (pe_tup (pa_cons pe_int (pa_cons pe_int pa_nil))) (pa_cons (pe_tup (pa_cons pe_int (pa_cons pe_int pa_nil))) (pa_cons (pe_tup (pa_cons pe_int (pa_cons pe_non pa_nil))) (pa_cons (pe_tup (pa_cons pe_int (pa_cons pe_int pa_nil))) (pa_cons (pe_tup (pa_cons pe_int (pa_cons pe_int pa_nil))) pa_nil)))))))))))))
    (pss_one (ps_ret (pe_op op_catA (pe_tup (pa_cons pe_str (pa_cons (pv 5) pa_nil))) (pe_ix ix_list (pv 6) (pe_callD d__law_e_take (hr.mono (by omega)) rfl (pa_cons (pv 0) (pa_cons pe_int pa_nil))) (fun _ _ => rfl))))))) pss_nil)
    (pss_cons (ps_if (pt_cmpR op_lt (pv 4) pe_int (nomark _)) (pss_cons (ps_set (i := 7) sc_law_e_form.nd rfl (Or.inl rfl) (pe_callD d__law_e_take (hr.mono (by omega)) rfl (pa_cons (pv 0) (pa_cons pe_int pa_nil))))
    (pss_one (ps_ret (pe_tup (pa_cons pe_str (pa_cons (pe_callTy call_tuple_of (by rfl) b_tuple (by decide +kernel) (pa_cons (pe_lc (own := [("k", 8)]) (g := gName 8) rfl sc_law_e_form.nd (pi_range1 rfl b_range (pa_cons (pv 7) pa_nil)) (blkOk_by (own := [("k", 8)]) (N := n_law_e_form) (sc := defScope s_law_e_form) (by decide +kernel)) (fun _ _ _ _ _ => (pg_name (i := 8) sc_law_e_form.nd rfl (Or.inl rfl))) (fun _ _ _ _ _ => pts_nil) (fun _ _ _ _ _ => (pe_callD d__law_e_form (hr.mono (by omega)) rfl (pa_cons (pv 0) (pa_cons (pv 1) (pa_cons (pe_op op_sub (pv 2) pe_int) (pa_cons (pv 3) pa_nil))))))) pa_nil)) pa_nil)))))) pss_nil)
    (pss_cons (ps_set (i := 7) sc_law_e_form.nd rfl (Or.inl rfl) (pe_op op_add pe_int (pe_callD d__law_e_take (hr.mono (by omega)) rfl (pa_cons (pv 0) (pa_cons pe_int pa_nil)))))
    (pss_one (ps_ret (pe_tup (pa_cons pe_str (pa_cons (pe_callTy call_tuple_of (by rfl) b_tuple (by decide +kernel) (pa_cons (pe_lc (own := [("k", 8)]) (g := gName 8) rfl sc_law_e_form.nd (pi_range1 rfl b_range (pa_cons (pv 7) pa_nil)) (blkOk_by (own := [("k", 8)]) (N := n_law_e_form) (sc := defScope s_law_e_form) (by decide +kernel)) (fun _ _ _ _ _ => (pg_name (i := 8) sc_law_e_form.nd rfl (Or.inl rfl))) (fun _ _ _ _ _ => pts_nil) (fun _ _ _ _ _ => (pe_callD d__law_e_form (hr.mono (by omega)) rfl (pa_cons (pv 0) (pa_cons (pv 1) (pa_cons (pe_op op_sub (pv 2) pe_int) (pa_cons (pv 3) pa_nil))))))) pa_nil)) pa_nil)))))))))), ?_⟩
    have z2 : (2 : Nat) ≤ sizeLine := by decide
    refine ⟨_, rfl, pen, sp, 9, rfl, by decide, by decide, hp, fun H1 way hw b1 p1 => ?_⟩
    have hss1 := hp.strs b1 hss
    refine ⟨_, rfl, rfl, _, rfl, ?_⟩
    by_cases h0 : n = 0
    · rw [decide_eq_true (show V.int (n : Int) = V.int 0 by rw [h0]; rfl)]
      refine iteT (iteT ?_)
      refine ⟨_, rfl, _, rfl, _, rfl, sg, _, rfl, .inl (sL hss1), pen, sp, (ss.map V.str).length, rfl, by rw [List.length_map]; exact hsg.1, by rw [List.length_map]; have := hsg.2.1; omega, p1, fun H2 c hc b2 p2 => ?_⟩
      rw [List.length_map] at hc
      obtain ⟨t, ht⟩ : ∃ t, ss[c]? = some t := ⟨_, List.getElem?_eq_getElem hc⟩
      refine ⟨sg, _, _, _, rfl, rfl, sL (p1.strs b2 hss1), atI_nat (j := c) (v := .str t) (by rw [List.getElem?_map, ht]; rfl), z2, fun q hq => ?_⟩
      exact k _ _ (.sign t) ((b1.trans b2).trans (.of (.new hq))) (p2.same (.new hq)) (.tup (sT upd_same) (.cons (.str _) (.cons (.str _) .nil))) (.sign (hsg.2.2 t (List.mem_of_getElem? ht)))
    rw [decide_eq_false (show ¬ V.int (n : Int) = V.int 0 from fun e => h0 (by have := V.int.inj e; omega))]
    refine iteF ?_
    refine ⟨_, rfl, _, _, rfl, rfl, _, rfl, ite2 (fun hw2 => ?_) (fun hw2 => ?_)⟩
    · refine ⟨_, rfl, _, rfl, _, rfl, sg, _, rfl, .inl (sL hss1), pen, sp, (ss.map V.str).length, rfl, by rw [List.length_map]; exact hsg.1, by rw [List.length_map]; have := hsg.2.1; omega, p1, fun H2 c hc b2 p2 => ?_⟩
      rw [List.length_map] at hc
      obtain ⟨t, ht⟩ : ∃ t, ss[c]? = some t := ⟨_, List.getElem?_eq_getElem hc⟩
      refine ⟨sg, _, _, _, rfl, rfl, sL (p1.strs b2 hss1), atI_nat (j := c) (v := .str t) (by rw [List.getElem?_map, ht]; rfl), z2, fun q hq => ?_⟩
      exact k _ _ (.sign t) ((b1.trans b2).trans (.of (.new hq))) (p2.same (.new hq)) (.tup (sT upd_same) (.cons (.str _) (.cons (.str _) .nil))) (.sign (hsg.2.2 t (List.mem_of_getElem? ht)))
    have hsp := hn.resolve_left h0
    obtain ⟨n, rfl⟩ : ∃ m, n = m + 1 := ⟨n - 1, by omega⟩
    rw [show n + 1 - 1 = n from rfl] at hsp
    refine ⟨_, rfl, _, _, rfl, rfl, _, rfl, ite2 (fun h5 => ?_) (fun h5 => iteF ?_)⟩
    · refine ⟨_, rfl, _, _, rfl, rfl, _, rfl, ite2 (fun ha => ?_) (fun ha => ?_)⟩
      · refine ⟨_, rfl, _, rfl, _, rfl, _, _, rfl, rfl, _, rfl, _, _, rfl, rfl, ?_⟩
        have ha' : (0 : Int) < (ar : Int) := of_decide_eq_true ha
        subst hsp
        show spEf K n [.ref pen, .ref sg, .int (((n + 1 : Nat) : Int) - 1), .int ((ar : Int) - 1)] _ _ (fun _ _ _ => False)
        rw [show ((n + 1 : Nat) : Int) - 1 = (n : Int) by omega, show (ar : Int) - 1 = ((ar - 1 : Nat) : Int) by omega]
        refine ⟨pen, sp, sg, ss, ar - 1, rfl, p1, hss1, hsg, fun H2 x f b2 p2 hx hf => ?_⟩
        refine ⟨z2, fun q1 m1 => ⟨z2, fun q2 m2 => ⟨z2, fun q3 m3 => ⟨z2, fun q4 m4 => ⟨z2, fun q5 m5 => ⟨z2, fun q6 m6 => ⟨z2, fun q7 m7 => ⟨z2, fun q8 m8 => ⟨z2, fun q9 m9 => ⟨z2, fun q10 m10 => ⟨z2, fun q11 m11 => ⟨(by show 11 ≤ sizeLine; decide), fun bl mb => ?_⟩⟩⟩⟩⟩⟩⟩⟩⟩⟩⟩⟩
        have t1 := Same.new m1 (o := (.tup [.int 0, .int 1]))
        have t2 := Same.new m2 (o := (.tup [.int 0, .non]))
        have t3 := Same.new m3 (o := (.tup [.int 1, .non]))
        have t4 := Same.new m4 (o := (.tup [.int 0, .int 2]))
        have t5 := Same.new m5 (o := (.tup [.int 1, .int 2]))
        have t6 := Same.new m6 (o := (.tup [.int 2, .int 2]))
        have t7 := Same.new m7 (o := (.tup [.int 1, .int 3]))
        have t8 := Same.new m8 (o := (.tup [.int 2, .int 3]))
        have t9 := Same.new m9 (o := (.tup [.int 2, .non]))
        have t10 := Same.new m10 (o := (.tup [.int 1, .int 1]))
        have t11 := Same.new m11 (o := (.tup [.int 0, .int 3]))
        have tb := Same.new mb (o := .lst [.ref q1, .ref q2, .ref q3, .ref q4, .ref q5, .ref q6, .ref q7, .ref q8, .ref q9, .ref q10, .ref q11])
        have u11 := tb
        have u10 := t11.trans u11
        have u9 := t10.trans u10
        have u8 := t9.trans u9
        have u7 := t8.trans u8
        have u6 := t7.trans u7
        have u5 := t6.trans u6
        have u4 := t5.trans u5
        have u3 := t4.trans u4
        have u2 := t3.trans u3
        have u1 := t2.trans u2
        have u0 := t1.trans u1
        have hat := bnds (K := K) (u1.sqT (sT upd_same)) (u2.sqT (sT upd_same)) (u3.sqT (sT upd_same)) (u4.sqT (sT upd_same)) (u5.sqT (sT upd_same)) (u6.sqT (sT upd_same)) (u7.sqT (sT upd_same)) (u8.sqT (sT upd_same)) (u9.sqT (sT upd_same)) (u10.sqT (sT upd_same)) (u11.sqT (sT upd_same))
        refine ⟨_, rfl, z2, fun qa ma => ?_⟩
        have ta := Same.new ma (o := .tup [.str "times", x])
        have v0 := u0.trans ta
        refine ⟨_, rfl, _, rfl, pen, sp, 11, rfl, by decide, by decide, p2.same v0, fun H5 c hc b5 p5 => ?_⟩
        obtain ⟨qc, l, h, e1, e2, e3⟩ := hat c hc
        have hbl5 := (p2.same v0).refs (as := [q1, q2, q3, q4, q5, q6, q7, q8, q9, q10, q11]) b5 (ta _ _ upd_same)
        refine ⟨bl, _, _, _, rfl, rfl, sL hbl5, atI_nat (j := c) e1, ?_⟩
        refine catT ((p2.same v0).sqT b5 (sT upd_same)) ((p2.same v0).sqT b5 (ta.sqT e2)) (by show 4 ≤ sizeLine; decide) (fun H6 q6 s6 h6 => ?_)
        refine k _ _ (.times f l h) ((((b1.trans b2).trans (.of v0)).trans b5).trans (.of s6)) (p5.same s6) (fmTup4 h6 ?_) (.times hf e3)
        exact dpS s6 ((p2.same v0).fm b5 (dpS v0 hx))
      refine ⟨_, rfl, _, _, rfl, rfl, _, rfl, ite2 (fun h7 => ?_) (fun h7 => ?_)⟩
      · refine ⟨_, rfl, pen, sp, 4, rfl, by decide, by decide, p1, fun H2 y hy b2 p2 => ?_⟩
        have hss2 := p1.strs b2 hss1
        refine ⟨_, rfl, _, rfl, by omega, by omega, fun D hD => ?_⟩
        refine lc_range (lo := 0) (n := ((y : Nat) : Int).toNat) (fun i H' => ∃ (ws : List V) (fs : List Fm), But pen H2 H' ∧ PenAt H' pen sp ∧ H' D = some (.lst ws) ∧ FmsAt K H' ws fs ∧ ws.length = i ∧ ∀ p, p ∈ fs → Fo n p) ⟨[], [], .of (.new hD), p2.same (.new hD), upd_same, .nil, rfl, fun _ h => by cases h⟩ ?_ ?_
        · rintro i H3 hi ⟨ws, fs, b3, p3, hD3, hws, hwl, hfo⟩
          refine ⟨rfl, ?_⟩
          have hss3 : H3 sg = some (.lst (ss.map V.str)) := p2.strs b3 hss2
          refine ⟨_, rfl, _, rfl, _, rfl, _, _, rfl, rfl, _, rfl, ?_⟩
          subst hsp
          have en : ((n + 1 : Nat) : Int) - 1 = (n : Int) := by omega
          show spEf K n [.ref pen, .ref sg, .int (((n + 1 : Nat) : Int) - 1), .int (ar : Int)] _ _ (fun _ _ _ => False)
          rw [en]
          refine ⟨pen, sp, sg, ss, ar, rfl, p3, hss3, hsg, fun H4 v f b4 p4 hv hf => ?_⟩
          have nD : D ≠ pen := by
            obtain ⟨_, _, _, x1, _⟩ := p2
            rintro rfl
            rw [x1] at hD
            cases hD
          have hD4 := b4 _ _ hD3 nD
          refine ⟨ws, hD4, szb (by omega), ws ++ [v], fs ++ [f], butW (b3.trans b4) hD, p4.w p2 hD, upd_same, fmsApp (fmsAll (keepTup hD4) _ _ (p3.fms b4 hws)) (.cons (fmW hD4 hv) .nil), by rw [List.length_append, hwl]; rfl, fun p hp => ?_⟩
          rcases List.mem_append.mp hp with hp | hp
          · exact hfo p hp
          · rw [List.mem_singleton.mp hp]; exact hf
        rintro H3 ⟨ws, fs, b3, p3, hD3, hws, hwl, hfo⟩
        refine ⟨D, _, rfl, .inl ⟨sL hD3, fun l hn => ⟨z2, fun q hq => ?_⟩⟩⟩
        have e3 := (Same.new hn (o := .tup ws)).trans (Same.new hq (o := .tup [.str "row", .ref l]))
        have hfl := fmsLen hws
        exact k _ _ (.row fs) (((b1.trans b2).trans b3).trans (.of e3)) (p3.same e3) (fmRow2 (sT upd_same) ((Same.new hq).sqT (sT upd_same)) (dpsS e3 hws)) (.row hfo (by omega))
      refine ⟨_, rfl, pen, sp, 3, rfl, by decide, by decide, p1, fun H2 y hy b2 p2 => ⟨_, _, rfl, rfl, ?_⟩⟩
      have hss2 := p1.strs b2 hss1
      refine ⟨_, rfl, _, rfl, by omega, by omega, fun D hD => ?_⟩
      refine lc_range (lo := 0) (n := ((1 : Int) + (y : Int)).toNat) (fun i H' => ∃ (ws : List V) (fs : List Fm), But pen H2 H' ∧ PenAt H' pen sp ∧ H' D = some (.lst ws) ∧ FmsAt K H' ws fs ∧ ws.length = i ∧ ∀ p, p ∈ fs → Fo n p) ⟨[], [], .of (.new hD), p2.same (.new hD), upd_same, .nil, rfl, fun _ h => by cases h⟩ ?_ ?_
      · rintro i H3 hi ⟨ws, fs, b3, p3, hD3, hws, hwl, hfo⟩
        refine ⟨rfl, ?_⟩
        have hss3 : H3 sg = some (.lst (ss.map V.str)) := p2.strs b3 hss2
        refine ⟨_, rfl, _, rfl, _, rfl, _, _, rfl, rfl, _, rfl, ?_⟩
        subst hsp
        have en : ((n + 1 : Nat) : Int) - 1 = (n : Int) := by omega
        show spEf K n [.ref pen, .ref sg, .int (((n + 1 : Nat) : Int) - 1), .int (ar : Int)] _ _ (fun _ _ _ => False)
        rw [en]
        refine ⟨pen, sp, sg, ss, ar, rfl, p3, hss3, hsg, fun H4 v f b4 p4 hv hf => ?_⟩
        have nD : D ≠ pen := by
          obtain ⟨_, _, _, x1, _⟩ := p2
          rintro rfl
          rw [x1] at hD
          cases hD
        have hD4 := b4 _ _ hD3 nD
        refine ⟨ws, hD4, szb (by omega), ws ++ [v], fs ++ [f], butW (b3.trans b4) hD, p4.w p2 hD, upd_same, fmsApp (fmsAll (keepTup hD4) _ _ (p3.fms b4 hws)) (.cons (fmW hD4 hv) .nil), by rw [List.length_append, hwl]; rfl, fun p hp => ?_⟩
        rcases List.mem_append.mp hp with hp | hp
        · exact hfo p hp
        · rw [List.mem_singleton.mp hp]; exact hf
      rintro H3 ⟨ws, fs, b3, p3, hD3, hws, hwl, hfo⟩
      refine ⟨D, _, rfl, .inl ⟨sL hD3, fun l hn => ⟨z2, fun q hq => ?_⟩⟩⟩
      have e3 := (Same.new hn (o := .tup ws)).trans (Same.new hq (o := .tup [.str "pick", .ref l]))
      have hfl := fmsLen hws
      exact k _ _ (.pick fs) (((b1.trans b2).trans b3).trans (.of e3)) (p3.same e3) (fmPick2 (sT upd_same) ((Same.new hq).sqT (sT upd_same)) (dpsS e3 hws)) (.pick hfo (by omega))
    refine ⟨_, rfl, _, _, rfl, rfl, _, rfl, ite2 (fun h7 => ?_) (fun h7 => ?_)⟩
    · refine ⟨_, rfl, pen, sp, 4, rfl, by decide, by decide, p1, fun H2 y hy b2 p2 => ?_⟩
      have hss2 := p1.strs b2 hss1
      refine ⟨_, rfl, _, rfl, by omega, by omega, fun D hD => ?_⟩
      refine lc_range (lo := 0) (n := ((y : Nat) : Int).toNat) (fun i H' => ∃ (ws : List V) (fs : List Fm), But pen H2 H' ∧ PenAt H' pen sp ∧ H' D = some (.lst ws) ∧ FmsAt K H' ws fs ∧ ws.length = i ∧ ∀ p, p ∈ fs → Fo n p) ⟨[], [], .of (.new hD), p2.same (.new hD), upd_same, .nil, rfl, fun _ h => by cases h⟩ ?_ ?_
      · rintro i H3 hi ⟨ws, fs, b3, p3, hD3, hws, hwl, hfo⟩
        refine ⟨rfl, ?_⟩
        have hss3 : H3 sg = some (.lst (ss.map V.str)) := p2.strs b3 hss2
        refine ⟨_, rfl, _, rfl, _, rfl, _, _, rfl, rfl, _, rfl, ?_⟩
        subst hsp
        have en : ((n + 1 : Nat) : Int) - 1 = (n : Int) := by omega
        show spEf K n [.ref pen, .ref sg, .int (((n + 1 : Nat) : Int) - 1), .int (ar : Int)] _ _ (fun _ _ _ => False)
        rw [en]
        refine ⟨pen, sp, sg, ss, ar, rfl, p3, hss3, hsg, fun H4 v f b4 p4 hv hf => ?_⟩
        have nD : D ≠ pen := by
          obtain ⟨_, _, _, x1, _⟩ := p2
          rintro rfl
          rw [x1] at hD
          cases hD
        have hD4 := b4 _ _ hD3 nD
        refine ⟨ws, hD4, szb (by omega), ws ++ [v], fs ++ [f], butW (b3.trans b4) hD, p4.w p2 hD, upd_same, fmsApp (fmsAll (keepTup hD4) _ _ (p3.fms b4 hws)) (.cons (fmW hD4 hv) .nil), by rw [List.length_append, hwl]; rfl, fun p hp => ?_⟩
        rcases List.mem_append.mp hp with hp | hp
        · exact hfo p hp
        · rw [List.mem_singleton.mp hp]; exact hf
      rintro H3 ⟨ws, fs, b3, p3, hD3, hws, hwl, hfo⟩
      refine ⟨D, _, rfl, .inl ⟨sL hD3, fun l hn => ⟨z2, fun q hq => ?_⟩⟩⟩
      have e3 := (Same.new hn (o := .tup ws)).trans (Same.new hq (o := .tup [.str "row", .ref l]))
      have hfl := fmsLen hws
      exact k _ _ (.row fs) (((b1.trans b2).trans b3).trans (.of e3)) (p3.same e3) (fmRow2 (sT upd_same) ((Same.new hq).sqT (sT upd_same)) (dpsS e3 hws)) (.row hfo (by omega))
    refine ⟨_, rfl, pen, sp, 3, rfl, by decide, by decide, p1, fun H2 y hy b2 p2 => ⟨_, _, rfl, rfl, ?_⟩⟩
    have hss2 := p1.strs b2 hss1
    refine ⟨_, rfl, _, rfl, by omega, by omega, fun D hD => ?_⟩
    refine lc_range (lo := 0) (n := ((1 : Int) + (y : Int)).toNat) (fun i H' => ∃ (ws : List V) (fs : List Fm), But pen H2 H' ∧ PenAt H' pen sp ∧ H' D = some (.lst ws) ∧ FmsAt K H' ws fs ∧ ws.length = i ∧ ∀ p, p ∈ fs → Fo n p) ⟨[], [], .of (.new hD), p2.same (.new hD), upd_same, .nil, rfl, fun _ h => by cases h⟩ ?_ ?_
    · rintro i H3 hi ⟨ws, fs, b3, p3, hD3, hws, hwl, hfo⟩
      refine ⟨rfl, ?_⟩
      have hss3 : H3 sg = some (.lst (ss.map V.str)) := p2.strs b3 hss2
      refine ⟨_, rfl, _, rfl, _, rfl, _, _, rfl, rfl, _, rfl, ?_⟩
      subst hsp
      have en : ((n + 1 : Nat) : Int) - 1 = (n : Int) := by omega
      show spEf K n [.ref pen, .ref sg, .int (((n + 1 : Nat) : Int) - 1), .int (ar : Int)] _ _ (fun _ _ _ => False)
      rw [en]
      refine ⟨pen, sp, sg, ss, ar, rfl, p3, hss3, hsg, fun H4 v f b4 p4 hv hf => ?_⟩
      have nD : D ≠ pen := by
        obtain ⟨_, _, _, x1, _⟩ := p2
        rintro rfl
        rw [x1] at hD
        cases hD
      have hD4 := b4 _ _ hD3 nD
      refine ⟨ws, hD4, szb (by omega), ws ++ [v], fs ++ [f], butW (b3.trans b4) hD, p4.w p2 hD, upd_same, fmsApp (fmsAll (keepTup hD4) _ _ (p3.fms b4 hws)) (.cons (fmW hD4 hv) .nil), by rw [List.length_append, hwl]; rfl, fun p hp => ?_⟩
      rcases List.mem_append.mp hp with hp | hp
      · exact hfo p hp
      · rw [List.mem_singleton.mp hp]; exact hf
    rintro H3 ⟨ws, fs, b3, p3, hD3, hws, hwl, hfo⟩
    refine ⟨D, _, rfl, .inl ⟨sL hD3, fun l hn => ⟨z2, fun q hq => ?_⟩⟩⟩
    have e3 := (Same.new hn (o := .tup ws)).trans (Same.new hq (o := .tup [.str "pick", .ref l]))
    have hfl := fmsLen hws
    exact k _ _ (.pick fs) (((b1.trans b2).trans b3).trans (.of e3)) (p3.same e3) (fmPick2 (sT upd_same) ((Same.new hq).sqT (sT upd_same)) (dpsS e3 hws)) (.pick hfo (by omega))
  have none0 : DefOk P w K mg base "_law_e_form" 1 ["pen", "signs", "deep", "around"] (fun _ _ _ _ => False) := by
    refine F.ok sc_law_e_form (fun _ _ _ _ h => h.elim) (fun _ _ _ _ _ _ _ _ _ _ h => h.elim)
  intro n
  induction n with
  | zero => exact step 0 _ (.inl rfl) none0
  | succ n ih => exact step (n + 1) _ (.inr rfl) ih
end
end Sw
set_option Elab.async false
set_option maxRecDepth 100000
set_option maxHeartbeats 8000000
namespace Sw
open PySem L2 PySem.Spec PyProof.Rows
/-! ### repr of deep data -/
def rReprE (K : PySem.W.Frag) : List V → Hp → VK → Prop := fun xs H Q => ∃ v d, xs = [v] ∧ Dp K H v d ∧ d.showable = true ∧ d.hasDict = false ∧ d.depth ≤ 605 ∧ d.shown.length ≤ sizeLine ∧ Q (.str d.shown) H
section
variable {X : Cx}
theorem cr_reprE (hg : X.A.guards = some []) (hu : X.A.units + 610 < cLine) : CallR X (.builtin "repr") (rReprE X.K) := by
  intro pins s σ H xs us Q I r h
  obtain ⟨v, d, rfl, hd, hsh, hnd, hdp, hsz, q⟩ := h
  obtain ⟨u, rfl, ru⟩ := vals1 r
  obtain ⟨l1, l2, l3, l4⟩ := shown_leaf
  have hsm : ∀ as : List Addr, d.hasDict = true → sysModules ∉ as := fun as z => by rw [hnd] at z; cases z
  have far : ∀ a : Addr, u = .ref a → wpAny (model X.prog X.w) X.A (call (.builtin "repr") [u]) (EP X pins σ Q) X.xe s := fun a e => by
    obtain ⟨as, hr⟩ := Dp.reads I d v u hd ru
    subst e
    refine repr_of_reads' (h₀ := s.heap) hr hsh (hsm as) hg (by omega) (fun b o e => e) (fun h' t tk keep => ?_) hsz
    exact ⟨.str d.shown, H, I.kept (t' := tk) keep, ⟨_, rfl⟩, q⟩
  cases hd with
  | non =>
    obtain rfl : u = Value.none := ru
    rw [l1] at q
    exact PySem.P.repr_of_none ⟨.str _, H, I.tok _, ⟨_, rfl⟩, q⟩
  | bl b =>
    obtain rfl : u = Value.bool b := ru
    rw [l2] at q
    exact PySem.P.repr_of_bool ⟨.str _, H, I.tok _, ⟨_, rfl⟩, q⟩
  | int i =>
    obtain ⟨t, rfl⟩ : ∃ t, u = Value.int i t := ru
    rw [l3] at q
    exact PySem.P.repr_of_int (by simpa [PyData.showable] using hsh) ⟨.str _, H, I.tok _, ⟨_, rfl⟩, q⟩
  | str x =>
    obtain ⟨t, rfl⟩ : ∃ t, u = Value.str x t := ru
    rw [l4] at q hsz
    exact PySem.P.repr_of_str ⟨.str _, H, I.tok _, ⟨_, rfl⟩, q⟩ hsz
  | lst h1 h2 => exact far _ ru
  | tup h1 h2 => exact far _ ru
end
/-! ### measures of data -/
mutual
def ndD : PyData → Nat
  | .tuple l => 1 + nds l
  | .list l => 1 + nds l
  | _ => 1
def nds : List PyData → Nat
  | [] => 0
  | d :: l => ndD d + nds l
end
mutual
def ekB : PyData → Bool
  | .int i => (decide (-1 ≤ i) && decide (i ≤ 201)) || decide (i = 100000000000000000000)
  | .str t => decide (t.length ≤ 9) && PyData.strOk t
  | .tuple l => decide (l.length ≤ 250) && eks l
  | .list l => decide (l.length ≤ 250) && eks l
  | .dict _ => false
  | _ => true
def eks : List PyData → Bool
  | [] => true
  | d :: l => ekB d && eks l
end
theorem ek_int {i : Int} (h : ((decide (-1 ≤ i) && decide (i ≤ 201)) || decide (i = 100000000000000000000)) = true) : i.natAbs.log2 < 1920 ∧ (PyData.shown (.int i)).length ≤ 25 := by
  rw [shown_leaf.2.2.1]
  rw [Bool.or_eq_true, Bool.and_eq_true] at h
  rcases h with ⟨h1, h2⟩ | h
  · have h1 := of_decide_eq_true h1
    have h2 := of_decide_eq_true h2
    have : ∀ n : Fin 203, (((n.val : Nat) : Int) - 1).natAbs.log2 < 1920 ∧ (Str.ofString (toString (((n.val : Nat) : Int) - 1))).length ≤ 25 := by decide +kernel
    have q := this ⟨(i + 1).toNat, by omega⟩
    have e : (((i + 1).toNat : Nat) : Int) - 1 = i := by omega
    dsimp only at q
    rw [e] at q
    exact q
  · rw [of_decide_eq_true h]
    exact ⟨by decide +kernel, by decide +kernel⟩
mutual
theorem ek_all : ∀ d : PyData, ekB d = true → d.showable = true ∧ d.leavesShort 25 = true ∧ d.canLay0 = true ∧ d.bulk + 1 ≤ 10 * ndD d
  | .none, _ => by simp [PyData.showable, PyData.leavesShort, PyData.canLay0, PyData.bulk, ndD]
  | .bool _, _ => by simp [PyData.showable, PyData.leavesShort, PyData.canLay0, PyData.bulk, ndD]
  | .int i, h => by
    rw [ekB] at h
    obtain ⟨h1, h2⟩ := ek_int h
    simp [PyData.showable, PyData.leavesShort, PyData.canLay0, PyData.bulk, ndD, h1, h2]
  | .str t, h => by
    rw [ekB, Bool.and_eq_true] at h
    have h1 := of_decide_eq_true h.1
    have h2 := h.2
    have h3 : t.cps.size ≤ 9 := h1
    refine ⟨by simp [PyData.showable], ?_, by rw [PyData.canLay0]; exact h2, by simp only [PyData.bulk, ndD]; omega⟩
    rw [PyData.leavesShort]
    unfold PyData.strOk at h2
    rw [← Array.all_toList] at h2
    refine List.all_eq_true.mpr fun c hc => decide_eq_true ?_
    have := of_decide_eq_true (List.all_eq_true.mp h2 c hc)
    have e : (16 : Nat) ^ 8 = 4294967296 := by decide
    omega
  | .tuple l, h => by
    rw [ekB, Bool.and_eq_true] at h
    have hl := of_decide_eq_true h.1
    obtain ⟨h1, h2, h3, h5⟩ := eks_all l h.2
    exact ⟨by rw [PyData.showable]; exact h1, by rw [PyData.leavesShort]; exact h2, by rw [PyData.canLay0]; exact h3, by simp only [PyData.bulk, ndD]; omega⟩
  | .list l, h => by
    rw [ekB, Bool.and_eq_true] at h
    have hl := of_decide_eq_true h.1
    obtain ⟨h1, h2, h3, h5⟩ := eks_all l h.2
    exact ⟨by rw [PyData.showable]; exact h1, by rw [PyData.leavesShort]; exact h2, by rw [PyData.canLay0]; exact h3, by simp only [PyData.bulk, ndD]; omega⟩
  | .dict _, h => by rw [ekB] at h; cases h
theorem eks_all : ∀ l : List PyData, eks l = true → PyData.showableAll l = true ∧ PyData.leavesShortAll 25 l = true ∧ PyData.canLayAll0 l = true ∧ PyData.bulkAll l ≤ 10 * nds l
  | [], _ => by simp [PyData.showableAll, PyData.leavesShortAll, PyData.canLayAll0, PyData.bulkAll]
  | d :: l, h => by
    rw [eks, Bool.and_eq_true] at h
    obtain ⟨a1, a2, a3, a5⟩ := ek_all d h.1
    obtain ⟨b1, b2, b3, b5⟩ := eks_all l h.2
    exact ⟨by rw [PyData.showableAll, a1, b1]; rfl, by rw [PyData.leavesShortAll, a2, b2]; rfl, by rw [PyData.canLayAll0, a3, b3]; rfl, by rw [PyData.bulkAll, nds]; omega⟩
end
structure OkR (d : PyData) : Prop where
  sh : d.showable = true
  nd : d.hasDict = false
  dep : d.depth ≤ 605
  len : d.shown.length ≤ sizeLine
theorem okR {d : PyData} (h : ekB d = true) (hn : ndD d ≤ 20000) (hd : d.depth ≤ 605) : OkR d := by
  obtain ⟨h1, h2, h3, h5⟩ := ek_all d h
  refine ⟨h1, PyData.hasDict_of_canLay d h3, hd, ?_⟩
  have hb := PyData.shown_le_bulk 25 (by omega) d h2
  have e27 : (25 + 2) * d.bulk ≤ (25 + 2) * 200000 := Nat.mul_le_mul_left _ (by omega)
  rw [sizeLine_eq]
  omega
/-! ### forms -/
mutual
theorem nd_fm : ∀ f : Fm, ndD f.dat ≤ 4 * f.size
  | .sign s => by rw [Fm.dat, Fm.size]; simp [ndD, nds]
  | .row ps => by have := nd_fms ps; rw [Fm.dat, Fm.size]; simp only [ndD, nds]; omega
  | .pick ps => by have := nd_fms ps; rw [Fm.dat, Fm.size]; simp only [ndD, nds]; omega
  | .times p l h => by
    have := nd_fm p
    rw [Fm.dat, Fm.size]
    cases h <;> (simp only [ndD, nds, highD]; omega)
theorem nd_fms : ∀ ps : List Fm, nds (Fm.dats ps) ≤ 4 * Fm.sizes ps
  | [] => by simp [Fm.dats, nds]
  | p :: ps => by have := nd_fm p; have := nd_fms ps; rw [Fm.dats, nds, Fm.sizes]; omega
end
mutual
theorem dp_fm : ∀ f : Fm, f.dat.depth ≤ 2 * f.dp
  | .sign s => by rw [Fm.dat, Fm.dp]; simp [PyData.depth, PyData.depthAll]
  | .row ps => by have := dp_fms ps; rw [Fm.dat, Fm.dp]; simp only [PyData.depth, PyData.depthAll]; omega
  | .pick ps => by have := dp_fms ps; rw [Fm.dat, Fm.dp]; simp only [PyData.depth, PyData.depthAll]; omega
  | .times p l h => by
    have := dp_fm p
    rw [Fm.dat, Fm.dp]
    cases h <;> (simp only [PyData.depth, PyData.depthAll, highD]; omega)
theorem dp_fms : ∀ ps : List Fm, PyData.depthAll (Fm.dats ps) ≤ 2 * Fm.dps ps
  | [] => by simp [Fm.dats, PyData.depthAll]
  | p :: ps => by have := dp_fm p; have := dp_fms ps; rw [Fm.dats, PyData.depthAll, Fm.dps]; omega
end
mutual
theorem dp_size : ∀ f : Fm, f.dp ≤ f.size
  | .sign s => by rw [Fm.dp, Fm.size]; omega
  | .row ps => by have := dps_sizes ps; rw [Fm.dp, Fm.size]; omega
  | .pick ps => by have := dps_sizes ps; rw [Fm.dp, Fm.size]; omega
  | .times p l h => by have := dp_size p; rw [Fm.dp, Fm.size]; omega
theorem dps_sizes : ∀ ps : List Fm, Fm.dps ps ≤ Fm.sizes ps
  | [] => by simp [Fm.dps]
  | p :: ps => by have := dp_size p; have := dps_sizes ps; rw [Fm.dps, Fm.sizes]; omega
end
/-! no row or pick has too many parts, the counts are small, the signs are signs -/
mutual
def Fm.ek : Fm → Bool
  | .sign s => signS s
  | .row ps => decide (ps.length ≤ 250) && Fm.eks ps
  | .pick ps => decide (ps.length ≤ 250) && Fm.eks ps
  | .times p l h => p.ek && bd1 l h
def Fm.eks : List Fm → Bool
  | [] => true
  | p :: ps => p.ek && Fm.eks ps
end
theorem sg_len {t : Str} (h : signS t = true) : PyData.strOk t = true ∧ t.length ≤ 6 := by
  unfold signS at h
  rw [Bool.and_eq_true, Bool.and_eq_true] at h
  obtain ⟨⟨h1, h2⟩, h3⟩ := h
  refine ⟨?_, of_decide_eq_true h2⟩
  unfold PyData.strOk
  rw [← Array.all_toList]
  refine List.all_eq_true.mpr fun c hc => ?_
  have := List.all_eq_true.mp h3 c hc
  unfold letter at this
  rw [Bool.and_eq_true] at this
  have := of_decide_eq_true this.2
  exact decide_eq_true (by omega)
theorem ek_word : ekB (.str "sign") = true ∧ ekB (.str "row") = true ∧ ekB (.str "pick") = true ∧ ekB (.str "times") = true ∧ ekB (.str "told") = true := by decide +kernel
theorem ek_nat {n : Nat} (h : n ≤ 200) : ekB (.int (n : Int)) = true := by
  rw [ekB, decide_eq_true (show (-1 : Int) ≤ (n : Int) by omega), decide_eq_true (show (n : Int) ≤ 201 by omega)]
  rfl
theorem dats_len : ∀ ps : List Fm, (Fm.dats ps).length = ps.length
  | [] => rfl
  | p :: ps => by rw [Fm.dats, List.length_cons, List.length_cons, dats_len ps]
mutual
theorem ek_fm : ∀ f : Fm, f.ek = true → ekB f.dat = true
  | .sign s, h => by
    rw [Fm.ek] at h
    obtain ⟨h1, h2⟩ := sg_len h
    rw [Fm.dat]
    simp only [ekB, eks]
    have := ek_word.1
    rw [ekB] at this
    rw [this, h1, decide_eq_true (show s.length ≤ 9 by omega)]
    rfl
  | .row ps, h => by
    rw [Fm.ek, Bool.and_eq_true] at h
    have := ek_fms ps h.2
    rw [Fm.dat]
    simp only [ekB, eks]
    have w := ek_word.2.1
    rw [ekB] at w
    rw [w, this, dats_len, h.1]
    rfl
  | .pick ps, h => by
    rw [Fm.ek, Bool.and_eq_true] at h
    have := ek_fms ps h.2
    rw [Fm.dat]
    simp only [ekB, eks]
    have w := ek_word.2.2.1
    rw [ekB] at w
    rw [w, this, dats_len, h.1]
    rfl
  | .times p l u, h => by
    rw [Fm.ek, Bool.and_eq_true] at h
    have := ek_fm p h.1
    have hl := bd1_l h.2
    have w := ek_word.2.2.2.1
    have wl := ek_nat (n := l) (by omega)
    have wh : ekB (highD u) = true := by
      cases u with
      | none => rfl
      | some n =>
        have h2 := h.2
        simp [bd1] at h2
        exact ek_nat (n := n) (by omega)
    rw [Fm.dat]
    rw [show ekB (.tuple [.str "times", p.dat, .int (l : Int), highD u]) = (decide (4 ≤ 250) && (ekB (.str "times") && (ekB p.dat && (ekB (.int (l : Int)) && (ekB (highD u) && true))))) by simp only [ekB, Sw.eks]; rfl]
    rw [w, this, wl, wh]
    rfl
theorem ek_fms : ∀ ps : List Fm, Fm.eks ps = true → Sw.eks (Fm.dats ps) = true
  | [], _ => rfl
  | p :: ps, h => by
    rw [Fm.eks, Bool.and_eq_true] at h
    rw [Fm.dats, Sw.eks, ek_fm p h.1, ek_fms ps h.2]
    rfl
end
end Sw
set_option Elab.async false
set_option maxRecDepth 100000
set_option maxHeartbeats 8000000
namespace Sw
open PySem L2 PySem.Spec PyProof.Rows
/-! ### how large what is opened is -/
theorem sizes_app : ∀ a b : List Fm, Fm.sizes (a ++ b) = Fm.sizes a + Fm.sizes b
  | [], b => by simp [Fm.sizes]
  | p :: a, b => by rw [List.cons_append, Fm.sizes, Fm.sizes, sizes_app a b]; omega
theorem sizes_rep (p : Fm) : ∀ n : Nat, Fm.sizes (List.replicate n p) = n * p.size
  | 0 => by simp [Fm.sizes]
  | n + 1 => by rw [List.replicate_succ, Fm.sizes, sizes_rep p n, Nat.succ_mul]; omega
theorem rowOf_size {fs : List Fm} : (rowOf fs).size = Fm.sizes fs + (if fs.length = 1 then 0 else 1) := by
  by_cases h : fs.length = 1
  · obtain ⟨f, rfl⟩ := List.length_eq_one_iff.mp h
    simp [rowOf, Fm.sizes]
  · rw [rowOf_many h, if_neg h, Fm.size]
    omega
theorem upT_size (f : Fm) : ∀ n : Nat, (upT f n).size = (n + 1) * (1 + f.size) + n
  | 0 => by rw [upT, Fm.size]; omega
  | n + 1 => by
    rw [upT, Fm.size, Fm.size, Fm.sizes, Fm.sizes, Fm.sizes, upT_size f n]
    have e : (n + 1 + 1) * (1 + f.size) = (n + 1) * (1 + f.size) + (1 + f.size) := by rw [Nat.succ_mul]
    rw [e]
    omega
theorem op1_size {p : Fm} {l : Nat} {h : Option Nat} (b : bd1 l h = true) : (op1 p l h).size = sz1 p.size l h := by
  by_cases hc : plc l h = true
  · rw [op1_plain hc, Fm.size]
    unfold sz1
    rw [if_pos hc]
  rw [Bool.not_eq_true] at hc
  cases h with
  | none =>
    have hl2 : 2 ≤ l := by
      refine Nat.le_of_not_lt fun q => ?_
      have : l = 0 ∨ l = 1 := by omega
      rcases this with rfl | rfl
      · cases hc
      · cases hc
    rw [op1_none hc, sz1_none hc, rowOf_size, sizes_app, sizes_rep, Fm.sizes, Fm.sizes, Fm.size, if_neg (by rw [List.length_append, List.length_replicate, List.length_singleton]; omega)]
    obtain ⟨l', rfl⟩ : ∃ l', l = l' + 1 := ⟨l - 1, by omega⟩
    rw [Nat.succ_mul]
    simp only [Nat.add_sub_cancel]
    omega
  | some n =>
    simp [bd1] at b
    rw [op1_some hc, sz1_some hc]
    by_cases hn : n = l
    · subst hn
      rw [if_pos rfl, rowOf_size, sizes_rep, List.length_replicate, if_neg (Nat.lt_irrefl _)]
      by_cases h1 : n = 1
      · rw [if_pos h1, if_neg (by omega)]
      · rw [if_neg h1, if_pos (by omega)]
    · rw [if_neg hn, rowOf_size, sizes_app, sizes_rep, Fm.sizes, Fm.sizes, upT_size, List.length_append, List.length_replicate, List.length_singleton]
      obtain ⟨d, hd⟩ : ∃ d, n - l = d + 1 := ⟨n - l - 1, by omega⟩
      rw [hd, show min (d + 1) 1 = 1 by omega, if_pos (show l < n by omega)]
      simp only [Nat.add_sub_cancel]
      have hp : 1 ≤ (d + 1) * (1 + p.size) := Nat.mul_pos (by omega) (by omega)
      by_cases h1 : l = 0
      · rw [if_pos (show l + 1 = 1 by omega), if_neg (show ¬ l + 1 > 1 by omega)]
        omega
      · rw [if_neg (show ¬ l + 1 = 1 by omega), if_pos (show l + 1 > 1 by omega)]
        omega
mutual
theorem op_size : ∀ f : Fm, f.bd = true → f.op.size = f.osz
  | .sign s, _ => by rw [Fm.op, Fm.size, Fm.osz]
  | .row ps, b => by rw [Fm.bd] at b; rw [Fm.op, Fm.size, Fm.osz, ops_size ps b]
  | .pick ps, b => by rw [Fm.bd] at b; rw [Fm.op, Fm.size, Fm.osz, ops_size ps b]
  | .times p l h, b => by
    rw [Fm.bd, Bool.and_eq_true] at b
    rw [Fm.op, Fm.osz, op1_size b.2, op_size p b.1]
theorem ops_size : ∀ ps : List Fm, Fm.bds ps = true → Fm.sizes (Fm.ops ps) = Fm.oszs ps
  | [], _ => rfl
  | p :: ps, b => by
    rw [Fm.bds, Bool.and_eq_true] at b
    rw [Fm.ops, Fm.sizes, Fm.oszs, op_size p b.1, ops_size ps b.2]
end
theorem eks_app : ∀ {a b : List Fm}, Fm.eks a = true → Fm.eks b = true → Fm.eks (a ++ b) = true
  | [], b, _, h => h
  | p :: a, b, h, g => by
    rw [Fm.eks, Bool.and_eq_true] at h
    rw [List.cons_append, Fm.eks, h.1, eks_app h.2 g]
    rfl
theorem eks_rep {p : Fm} (h : p.ek = true) : ∀ n : Nat, Fm.eks (List.replicate n p) = true
  | 0 => rfl
  | n + 1 => by rw [List.replicate_succ, Fm.eks, h, eks_rep h n]; rfl
theorem rowOf_ek {fs : List Fm} (h : Fm.eks fs = true) (hl : fs.length ≤ 250) : (rowOf fs).ek = true := by
  by_cases h1 : fs.length = 1
  · obtain ⟨f, rfl⟩ := List.length_eq_one_iff.mp h1
    rw [Fm.eks, Bool.and_eq_true] at h
    exact h.1
  · rw [rowOf_many h1, Fm.ek, h, decide_eq_true hl]
    rfl
theorem upT_ek {f : Fm} (h : f.ek = true) : ∀ n : Nat, (upT f n).ek = true
  | 0 => by rw [upT, Fm.ek, h]; rfl
  | n + 1 => by
    rw [upT, Fm.ek, Fm.ek, Fm.eks, Fm.eks, Fm.eks, h, upT_ek h n]
    rfl
theorem op1_ek {p : Fm} {l : Nat} {h : Option Nat} (e : p.ek = true) (b : bd1 l h = true) : (op1 p l h).ek = true := by
  have hl := bd1_l b
  by_cases hc : plc l h = true
  · rw [op1_plain hc, Fm.ek, e, b]
    rfl
  rw [Bool.not_eq_true] at hc
  cases h with
  | none =>
    rw [op1_none hc]
    refine rowOf_ek (eks_app (eks_rep e _) ?_) (by rw [List.length_append, List.length_replicate, List.length_singleton]; omega)
    rw [Fm.eks, Fm.eks, Fm.ek, e]
    rfl
  | some n =>
    rw [op1_some hc]
    by_cases hn : n = l
    · rw [if_pos hn]
      exact rowOf_ek (eks_rep e _) (by rw [List.length_replicate]; omega)
    · rw [if_neg hn]
      refine rowOf_ek (eks_app (eks_rep e _) ?_) (by rw [List.length_append, List.length_replicate, List.length_singleton]; omega)
      rw [Fm.eks, Fm.eks, upT_ek e]
      rfl
mutual
theorem op_ek : ∀ f : Fm, f.ek = true → f.op.ek = true
  | .sign s, h => by rw [Fm.op]; exact h
  | .row ps, h => by
    rw [Fm.ek, Bool.and_eq_true] at h
    rw [Fm.op, Fm.ek, ops_ek ps h.2, ops_map, List.length_map, h.1]
    rfl
  | .pick ps, h => by
    rw [Fm.ek, Bool.and_eq_true] at h
    rw [Fm.op, Fm.ek, ops_ek ps h.2, ops_map, List.length_map, h.1]
    rfl
  | .times p l u, h => by
    rw [Fm.ek, Bool.and_eq_true] at h
    rw [Fm.op]
    exact op1_ek (op_ek p h.1) h.2
theorem ops_ek : ∀ ps : List Fm, Fm.eks ps = true → Fm.eks (Fm.ops ps) = true
  | [], _ => rfl
  | p :: ps, h => by
    rw [Fm.eks, Bool.and_eq_true] at h
    rw [Fm.ops, Fm.eks, op_ek p h.1, ops_ek ps h.2]
    rfl
end
mutual
theorem ek_of : ∀ f : Fm, f.bd = true → f.sgs = true → f.size ≤ 250 → f.ek = true
  | .sign s, _, h, _ => by rw [Fm.sgs] at h; rw [Fm.ek]; exact h
  | .row ps, b, h, z => by
    rw [Fm.bd] at b; rw [Fm.sgs] at h; rw [Fm.size] at z
    have := len_sizes ps
    rw [Fm.ek, eks_of ps b h (by omega), decide_eq_true (by omega)]
    rfl
  | .pick ps, b, h, z => by
    rw [Fm.bd] at b; rw [Fm.sgs] at h; rw [Fm.size] at z
    have := len_sizes ps
    rw [Fm.ek, eks_of ps b h (by omega), decide_eq_true (by omega)]
    rfl
  | .times p l u, b, h, z => by
    rw [Fm.bd, Bool.and_eq_true] at b; rw [Fm.sgs] at h; rw [Fm.size] at z
    rw [Fm.ek, ek_of p b.1 h (by omega), b.2]
    rfl
theorem eks_of : ∀ ps : List Fm, Fm.bds ps = true → Fm.sgss ps = true → Fm.sizes ps ≤ 250 → Fm.eks ps = true
  | [], _, _, _ => rfl
  | p :: ps, b, h, z => by
    rw [Fm.bds, Bool.and_eq_true] at b; rw [Fm.sgss, Bool.and_eq_true] at h; rw [Fm.sizes] at z
    rw [Fm.eks, ek_of p b.1 h.1 (by omega), eks_of ps b.2 h.2 (by omega)]
    rfl
end
/-- the repr of a form can be told -/
theorem okF {f : Fm} (h : f.ek = true) (z : f.size ≤ 300) : OkR f.dat := by
  have h1 := nd_fm f
  have h2 := dp_fm f
  have h3 := dp_size f
  exact okR (ek_fm f h) (by omega) (by omega)
theorem okTold {f : Fm} (h : f.ek = true) (z : f.size ≤ 300) : OkR (.tuple [.str "told", f.dat]) := by
  have h1 := nd_fm f
  have h2 := dp_fm f
  have h3 := dp_size f
  refine okR ?_ ?_ ?_
  · rw [show ekB (.tuple [.str "told", f.dat]) = (decide (2 ≤ 250) && (ekB (.str "told") && (ekB f.dat && true))) by simp only [ekB, Sw.eks]; rfl]
    rw [ek_word.2.2.2.2, ek_fm f h]
    rfl
  · simp only [ndD, nds]
    omega
  · simp only [PyData.depth, PyData.depthAll]
    omega
theorem okMany : OkR (.tuple [.str "many", .int 300]) := by
  refine ⟨by decide +kernel, by decide +kernel, by decide +kernel, ?_⟩
  have : (PyData.shown (.tuple [.str "many", .int 300])).length ≤ 100 := by decide +kernel
  rw [sizeLine_eq]
  omega
end Sw
set_option Elab.async false
set_option maxRecDepth 100000
set_option maxHeartbeats 8000000
namespace Sw
open PySem L2 PySem.Spec PyProof.Rows
open SwX (ManyAt)
/-- the classes that the law asks for -/
structure WayCls (K : PySem.W.Frag) (mg : Str → Option Value) (C W c1 c2 c3 c4 c5 c6 : Addr) : Prop where
  gW : mg "WayError" = some (.ref W)
  g1 : mg "NoName" = some (.ref c1)
  g2 : mg "NotOnce" = some (.ref c2)
  g3 : mg "NoRow" = some (.ref c3)
  g4 : mg "NoSign" = some (.ref c4)
  g5 : mg "NoText" = some (.ref c5)
  g6 : mg "TooWide" = some (.ref c6)
  gV : mg "ValueError" = none
  te : PySem.W.exmOne K (.ref C) (.ref W) = some true
  no : PySem.W.kitAny K (.ref C) [.ref c1, .ref c2, .ref c3, .ref c4, .ref c5, .ref c6] = some false
  va : PySem.W.kitOne K (.ref C) (.type "ValueError") = some true
  se : PySem.W.kitOne K (.ref C) (.ref C) = some true
  xk : XcK K C
  xf : XfC K C
section
variable {P : Program} {w : World} {K : PySem.W.Frag} {mg : Str → Option Value} {base : Heap}
abbrev n_law_e_told_opened : List Str := ["form", "found", "e", "some"]
theorem sc_law_e_told_opened : FnScope n_law_e_told_opened ["form"] (defScope s_law_e_told_opened) := ⟨rfl, rfl, rfl, by decide +kernel, rfl, by decide +kernel, by decide +kernel⟩
def spTold (K : PySem.W.Frag) : Sp := fun vs H Q _ => ∃ v f, vs = [v] ∧ FmAt K H v f ∧ f.bd = true ∧ f.size ≤ 1000000 ∧
  (f.osz ≤ 300 → ∀ H' p, Same H H' → Dp K H' (.ref p) (.tuple [.str "told", f.op.dat]) → Q (.ref p) H') ∧
  (300 < f.osz → ∀ H' p, Same H H' → Dp K H' (.ref p) (.tuple [.str "many", .int 300]) → Q (.ref p) H')
theorem ok_law_e_told_opened {C fI W c1 c2 c3 c4 c5 c6 : Addr} (F : DefAt K mg "_law_e_told_opened" s_law_e_told_opened ["form"]) (T : ManyAt K mg P C fI) (Y : WayCls K mg C W c1 c2 c3 c4 c5 c6) (d_opened : DefOkX P w K mg base "opened" 4 ["form"] (spOpen K C))
    (b_isinstance : mg "isinstance" = none) : DefOk P w K mg base "_law_e_told_opened" 6 ["form"] (spTold K) := by
  refine F.ok sc_law_e_told_opened (fun vs H Q E h => ?_) (fun fA cdv A outer s H vs Q E hr h => ?_)
  · obtain ⟨_, _, rfl, _⟩ := h
    rfl
  obtain ⟨v, f, rfl, hf, hb, hsz, k, kM⟩ := h
  refine ⟨_, (pss_cons (ps_set (i := 1) sc_law_e_told_opened.nd rfl (Or.inl rfl) (pe_tup (pa_cons pe_str (pa_cons pe_non pa_nil))))
    (pss_cons (ps_try_as (i := 2) (tb := fun Wx => tAsg (tTup (tCons (tC (.str "told")) (tCons (tCallS (spOpen K C) (WE Wx) (tCons (tVar 0) tNil)) tNil))) (gName 1)) (Wout := fun _ _ _ _ => False) rfl rfl sc_law_e_told_opened.nd rfl rfl ⟨rfl, by decide, Or.inl Y.gW⟩ takes0
      (fun Wx pn xe tk _ => pss_one (ps_set (i := 1) sc_law_e_told_opened.nd rfl (Or.inl rfl) (pe_tup (pa_cons pe_str (pa_cons (by exact (pe_callX d_opened (hr.mono (by decide) : Room 4 _) rfl tk (pa_cons (pv 0) pa_nil))) pa_nil)))))
      (fun a oe cls d pn hz hfl => pss_cons (ps_set (i := 3) sc_law_e_told_opened.nd rfl (Or.inl rfl) (pe_lst (pa_cons (pe_callB (call_isXT Y.xk hz hfl) (by rfl) b_isinstance (by decide +kernel) (pa_cons (pv 2) (pa_cons (pe_tup (pa_cons (pe_glob (v := .ref c1) rfl Y.g1 rfl) (pa_cons (pe_glob (v := .ref c2) rfl Y.g2 rfl) (pa_cons (pe_glob (v := .ref c3) rfl Y.g3 rfl) (pa_cons (pe_glob (v := .ref c4) rfl Y.g4 rfl) (pa_cons (pe_glob (v := .ref c5) rfl Y.g5 rfl) (pa_cons (pe_glob (v := .ref c6) rfl Y.g6 rfl) pa_nil))))))) pa_nil)))
        (pa_cons (pe_not (pe_callB (call_isX Y.xk hz hfl) (by rfl) b_isinstance (by decide +kernel) (pa_cons (pv 2) (pa_cons (pe_bltn (v := .ty "ValueError") (by rfl) Y.gV (by decide +kernel) rfl) pa_nil)))) pa_nil))))
        (pss_one (ps_if (PW.pt (pw_and (pt_val (pe_callB (call_isX Y.xk hz hfl) (by rfl) b_isinstance (by decide +kernel) (pa_cons (pv 2) (pa_cons (pe_glob (v := .ref C) rfl T.gC rfl) pa_nil)))) (pw_and1 (pt_cmpR (r := rNotInD K) (op_notInD (by have q := units65 hr; exact q)) pe_bl (pv 3) (by rfl))))) (pss_one (ps_set (i := 1) sc_law_e_told_opened.nd rfl (Or.inl rfl) (pe_tup (pa_cons pe_str (pa_cons (pe_xf Y.xf T.nm hz hfl (pv 2)) pa_nil))))) pss_nil))))
    (pss_one (ps_ret (pv 1))))), ?_⟩
  refine ⟨by show 2 ≤ sizeLine; decide, fun p0 n0 => ?_⟩
  have s0 := Same.new n0 (o := .tup [.str "odd", .non])
  refine ⟨_, rfl, v, f, rfl, dpS s0 hf, hb, hsz, fun h300 H1 v1 s1 h1 => ?_, fun h300 H1 d s1 nd => ?_⟩
  · refine ⟨by show 2 ≤ sizeLine; decide, fun p2 n2 => ⟨_, rfl, k h300 _ _ (s0.trans (s1.trans (.new n2))) ?_⟩⟩
    exact .tup (sT upd_same) (.cons (.str _) (.cons (dpS (.new n2) h1) .nil))
  · have s2 := Same.new nd (o := .xd [(("most" : Str), .int 300)])
    refine ⟨true, Y.te, fun _ a na => ?_, fun e => Bool.noConfusion e⟩
    refine ⟨_, rfl, by show 6 ≤ sizeLine; decide, fun p2 n2 => ?_⟩
    have s3 := Same.new n2 (o := .tup [.ref c1, .ref c2, .ref c3, .ref c4, .ref c5, .ref c6])
    refine ⟨rfl, d, _, p2, _, _, false, rfl, s3 _ _ upd_same, rfl, upd_same, .cons (.own _) (.cons (.own _) (.cons (.own _) (.cons (.own _) (.cons (.own _) (.cons (.own _) .nil))))), Y.no, ?_⟩
    refine ⟨_, rfl, rfl, d, _, _, _, true, rfl, s3 _ _ upd_same, rfl, .ty _, Y.va, ?_⟩
    refine ⟨_, rfl, by show 2 ≤ sizeLine; decide, fun p3 n3 => ?_⟩
    have s4 := Same.new n3 (o := .lst [.bl false, .bl false])
    refine ⟨_, rfl, rfl, d, _, _, _, true, rfl, s4 _ _ (s3 _ _ upd_same), rfl, .own _, Y.se, _, rfl, ?_⟩
    refine iteT ?_
    refine ⟨_, rfl, .bool true, [.bool false, .bool false], .bl _, .lst (sL upd_same) (.cons (.bl _) (.cons (.bl _) .nil)), rfl, rfl, _, rfl, ?_⟩
    refine iteT ?_
    refine ⟨_, rfl, rfl, rfl, d, _, _, rfl, s4 _ _ (s3 _ _ upd_same), rfl, by show 2 ≤ sizeLine; decide, fun p4 n4 => ?_⟩
    refine ⟨_, rfl, kM h300 _ _ (s0.trans (s1.trans (s2.trans (s3.trans (s4.trans (.new n4)))))) ?_⟩
    exact .tup (sT upd_same) (.cons (.str _) (.cons (.int _) .nil))
end
end Sw
set_option Elab.async false
set_option maxRecDepth 100000
set_option maxHeartbeats 8000000
namespace Sw
open PySem L2 PySem.Spec PyProof.Rows
structure Fg (n : Nat) (f : Fm) : Prop where
  bd : f.bd = true
  sg : f.sgs = true
  sz : f.size ≤ n
theorem Fg.mono {n m : Nat} {f : Fm} (h : Fg n f) (e : n ≤ m) : Fg m f := ⟨h.bd, h.sg, Nat.le_trans h.sz e⟩
theorem Fg.times {n : Nat} {f : Fm} {l : Nat} {h : Option Nat} (q : Fg n f) (b : bd1 l h = true) : Fg (n + 1) (.times f l h) :=
  ⟨by rw [Fm.bd, q.bd, b]; rfl, by rw [Fm.sgs]; exact q.sg, by have := q.sz; rw [Fm.size]; omega⟩
theorem Fg.sign {s : Str} (h : signS s = true) : Fg 1 (.sign s) := ⟨rfl, by rw [Fm.sgs]; exact h, by rw [Fm.size]; exact Nat.le_refl _⟩
theorem Fg.row2 {n m : Nat} {f g : Fm} (a : Fg n f) (b : Fg m g) : Fg (n + m + 1) (.row [f, g]) :=
  ⟨by rw [Fm.bd, Fm.bds, Fm.bds, Fm.bds, a.bd, b.bd]; rfl, by rw [Fm.sgs, Fm.sgss, Fm.sgss, Fm.sgss, a.sg, b.sg]; rfl, by have := a.sz; have := b.sz; rw [Fm.size, Fm.sizes, Fm.sizes, Fm.sizes]; omega⟩
theorem Fg.pick2 {n m : Nat} {f g : Fm} (a : Fg n f) (b : Fg m g) : Fg (n + m + 1) (.pick [f, g]) :=
  ⟨by rw [Fm.bd, Fm.bds, Fm.bds, Fm.bds, a.bd, b.bd]; rfl, by rw [Fm.sgs, Fm.sgss, Fm.sgss, Fm.sgss, a.sg, b.sg]; rfl, by have := a.sz; have := b.sz; rw [Fm.size, Fm.sizes, Fm.sizes, Fm.sizes]; omega⟩
theorem fmSign2 {K : PySem.W.Frag} {H : Hp} {p : Addr} {t : Str} (h : SqT K H p [.str "sign", .str t]) : FmAt K H (.ref p) (.sign t) := .tup h (.cons (.str _) (.cons (.str _) .nil))
theorem bnds7 {K : PySem.W.Frag} {H : Hp} {q1 q2 q3 q4 q5 q6 q7 : Addr} (e1 : SqT K H q1 [.int 0, .int 3]) (e2 : SqT K H q2 [.int 1, .int 4]) (e3 : SqT K H q3 [.int 3, .non]) (e4 : SqT K H q4 [.int 2, .int 5]) (e5 : SqT K H q5 [.int 0, .int 12]) (e6 : SqT K H q6 [.int 1, .int 12]) (e7 : SqT K H q7 [.int 1, .int 1]) :
    ∀ m : Nat, m < 7 → ∃ (q : Addr) (l : Nat) (h : Option Nat), ([.ref q1, .ref q2, .ref q3, .ref q4, .ref q5, .ref q6, .ref q7] : List V)[m]? = some (.ref q) ∧ SqT K H q [.int (l : Int), highV h] ∧ bd1 l h = true := by
  intro m hm
  match m, hm with
  | 0, _ => exact ⟨q1, 0, (some 3), rfl, e1, by decide⟩
  | 1, _ => exact ⟨q2, 1, (some 4), rfl, e2, by decide⟩
  | 2, _ => exact ⟨q3, 3, none, rfl, e3, by decide⟩
  | 3, _ => exact ⟨q4, 2, (some 5), rfl, e4, by decide⟩
  | 4, _ => exact ⟨q5, 0, (some 12), rfl, e5, by decide⟩
  | 5, _ => exact ⟨q6, 1, (some 12), rfl, e6, by decide⟩
  | 6, _ => exact ⟨q7, 1, (some 1), rfl, e7, by decide⟩
theorem PenAt.ne {H : Hp} {pen sp D : Addr} (h : PenAt H pen sp) (hD : H D = none) : D ≠ pen := by
  obtain ⟨_, _, _, x1, _⟩ := h
  rintro rfl
  rw [x1] at hD
  cases hD
theorem pick01 {K : PySem.W.Frag} {H : Hp} {x y : V} {ga gb : Fm} {n way : Nat} (fx : FmAt K H x ga) (fy : FmAt K H y gb) (a : Fg n ga) (b : Fg n gb) (hw : way < 2) : ∃ (z : V) (g : Fm), ([x, y] : List V)[way]? = some z ∧ FmAt K H z g ∧ Fg n g := by
  match way, hw with
  | 0, _ => exact ⟨x, ga, rfl, fx, a⟩
  | 1, _ => exact ⟨y, gb, rfl, fy, b⟩
theorem high4 {low : Nat} (h : low < 13) : ∀ c : Nat, c < 4 → ∃ u : Option Nat, ([.non, .int (if (low : Int) > 1 then (low : Int) else 1), .int 12, .int (if (if (low : Int) > 1 then (low : Int) else 1) + 1 < 12 then (if (low : Int) > 1 then (low : Int) else 1) + 1 else 12)] : List V)[c]? = some (highV u) ∧ bd1 low u = true := by
  intro c hc
  have e : (if (low : Int) > 1 then (low : Int) else 1) = ((max 1 low : Nat) : Int) := by split <;> omega
  rw [e]
  have e2 : (if ((max 1 low : Nat) : Int) + 1 < 12 then ((max 1 low : Nat) : Int) + 1 else 12) = ((min 12 (max 1 low + 1) : Nat) : Int) := by split <;> omega
  rw [e2]
  match c, hc with
  | 0, _ => exact ⟨none, rfl, by simp [bd1]; omega⟩
  | 1, _ => exact ⟨some (max 1 low), rfl, by simp [bd1]; omega⟩
  | 2, _ => exact ⟨some 12, rfl, by simp [bd1]; omega⟩
  | 3, _ => exact ⟨some (min 12 (max 1 low + 1)), rfl, by simp [bd1]; omega⟩
section
variable {P : Program} {w : World} {K : PySem.W.Frag} {mg : Str → Option Value} {base : Heap}
abbrev n_law_e_great : List Str := ["pen", "signs", "form", "turn", "low", "high", "way"]
theorem sc_law_e_great : FnScope n_law_e_great ["pen", "signs"] (defScope s_law_e_great) := ⟨rfl, rfl, rfl, by decide +kernel, rfl, by decide +kernel, by decide +kernel⟩
def spGreat (K : PySem.W.Frag) : Sp := fun vs H Q _ => ∃ (pen sp sg : Addr) (ss : List Str), vs = [.ref pen, .ref sg] ∧ PenAt H pen sp ∧ H sg = some (.lst (ss.map V.str)) ∧ SgL ss ∧
  ∀ H' v f, But pen H H' → PenAt H' pen sp → FmAt K H' v f → Fg 19 f → Q v H'
theorem ok_law_e_great (F : DefAt K mg "_law_e_great" s_law_e_great ["pen", "signs"]) (d__law_e_take : DefOk P w K mg base "_law_e_take" 1 ["pen", "many"] spTake) (d__law_e_form : DefOk P w K mg base "_law_e_form" 4 ["pen", "signs", "deep", "around"] (spEf K 2))
    (b_max : mg "max" = none) (b_min : mg "min" = none) (b_range : mg "range" = none) : DefOk P w K mg base "_law_e_great" 5 ["pen", "signs"] (spGreat K) := by
  refine F.ok sc_law_e_great (fun vs H Q E h => ?_) (fun fA cdv A outer s H vs Q E hr h => ?_)
  · obtain ⟨_, _, _, _, rfl, _⟩ := h
    rfl
  obtain ⟨pen, sp, sg, ss, rfl, hp, hss, hsg, k⟩ := h
  refine ⟨_, (pss_cons (ps_set (i := 2) sc_law_e_great.nd rfl (Or.inl rfl) (pe_callD d__law_e_form (hr.mono (by decide)) rfl (pa_cons (pv 0) (pa_cons (pv 1) (pa_cons pe_int (pa_cons pe_int pa_nil))))))
    (pss_cons (ps_for PassesOwn.never rfl (pi_range1 rfl b_range (pa_cons (pe_callD d__law_e_take (hr.mono (by decide)) rfl (pa_cons (pv 0) (pa_cons pe_int pa_nil))) pa_nil)) (pg_name (i := 3) sc_law_e_great.nd rfl (Or.inl rfl))
      (pss_cons (ps_set (i := 4) sc_law_e_great.nd rfl (Or.inl rfl) (pe_callD d__law_e_take (hr.mono (by decide)) rfl (pa_cons (pv 0) (pa_cons pe_int pa_nil))))
    (pss_cons (ps_set (i := 5) sc_law_e_great.nd rfl (Or.inl rfl) (pe_ix ix_list (pe_lst (pa_cons pe_non (pa_cons (pe_callB (call_max2 rfl) (by rfl) b_max (by decide +kernel) (pa_cons pe_int (pa_cons (pv 4) pa_nil))) (pa_cons pe_int (pa_cons (pe_callB (call_min2 rfl) (by rfl) b_min (by decide +kernel) (pa_cons pe_int (pa_cons (pe_op op_add (pe_callB (call_max2 rfl) (by rfl) b_max (by decide +kernel) (pa_cons pe_int (pa_cons (pv 4) pa_nil))) pe_int) pa_nil))) pa_nil))))) (pe_callD d__law_e_take (hr.mono (by decide)) rfl (pa_cons (pv 0) (pa_cons pe_int pa_nil))) (fun _ _ => rfl)))
    (pss_cons (ps_if (pt_cmpR op_eq (pe_callD d__law_e_take (hr.mono (by decide)) rfl (pa_cons (pv 0) (pa_cons pe_int pa_nil))) pe_int (nomark _)) (pss_one (ps_asg (pe_ix ix_list (pe_lst (pa_cons (pe_tup (pa_cons pe_int (pa_cons pe_int pa_nil))) (pa_cons (pe_tup (pa_cons pe_int (pa_cons pe_int pa_nil))) (pa_cons (pe_tup (pa_cons pe_int (pa_cons pe_non pa_nil))) (pa_cons (pe_tup (pa_cons pe_int (pa_cons pe_int pa_nil))) (pa_cons (pe_tup (pa_cons pe_int (pa_cons pe_int pa_nil))) (pa_cons (pe_tup (pa_cons pe_int (pa_cons pe_int pa_nil))) (pa_cons (pe_tup (pa_cons pe_int (pa_cons pe_int pa_nil))) pa_nil)))))))) (pe_callD d__law_e_take (hr.mono (by decide)) rfl (pa_cons (pv 0) (pa_cons pe_int pa_nil))) (fun _ _ => rfl)) (pg_tup rfl (pgs_cons (pg_name (i := 4) sc_law_e_great.nd rfl (Or.inl rfl)) (pgs_cons (pg_name (i := 5) sc_law_e_great.nd rfl (Or.inl rfl)) pgs_nil))))) pss_nil)
    (pss_cons (ps_set (i := 2) sc_law_e_great.nd rfl (Or.inl rfl) (pe_tup (pa_cons pe_str (pa_cons (pv 2) (pa_cons (pv 4) (pa_cons (pv 5) pa_nil))))))
    (pss_cons (ps_set (i := 6) sc_law_e_great.nd rfl (Or.inl rfl) (pe_callD d__law_e_take (hr.mono (by decide)) rfl (pa_cons (pv 0) (pa_cons pe_int pa_nil))))
    (pss_one (ps_if (pt_cmpR op_lt (pv 6) pe_int (nomark _)) (pss_one (ps_set (i := 2) sc_law_e_great.nd rfl (Or.inl rfl) (pe_ix ix_list (pe_lst (pa_cons (pe_tup (pa_cons pe_str (pa_cons (pe_tup (pa_cons (pv 2) (pa_cons (pe_tup (pa_cons pe_str (pa_cons (pe_ix ix_list (pv 1) pe_int (fun _ _ => rfl)) pa_nil))) pa_nil))) pa_nil))) (pa_cons (pe_tup (pa_cons pe_str (pa_cons (pe_tup (pa_cons (pe_tup (pa_cons pe_str (pa_cons (pe_ix ix_list (pv 1) (pe_un un_neg pe_int) (fun _ _ => rfl)) pa_nil))) (pa_cons (pv 2) pa_nil))) pa_nil))) pa_nil))) (pv 6) (fun _ _ => rfl)))) pss_nil))))))))
    (pss_one (ps_ret (pv 2))))), ?_⟩
  have z2 : (2 : Nat) ≤ sizeLine := by decide
  refine ⟨_, rfl, _, rfl, pen, sp, sg, ss, 1, rfl, hp, hss, hsg, fun H1 v f b1 p1 hv hf => ?_⟩
  refine ⟨_, rfl, pen, sp, 3, rfl, by decide, by decide, p1, fun H2 m hm b2 p2 => ⟨_, rfl, by omega, by omega, ?_⟩⟩
  have b12 := b1.trans b2
  refine for_range (lo := 0) (n := ((m : Int)).toNat) (fun i σ H' => ∃ (u : V) (g : Fm) (o3 o4 o5 o6 : Option V), σ = [some (.ref pen), some (.ref sg), some u, o3, o4, o5, o6] ∧ But pen H H' ∧ PenAt H' pen sp ∧ FmAt K H' u g ∧ Fg (13 + 3 * i) g) ⟨_, _, none, none, none, none, rfl, b12, p2, p1.fm b2 hv, hf.bd, hf.sg, hf.sz⟩ ?_ ?_
  · rintro i σ H3 hi ⟨u, g, o3, o4, o5, o6, rfl, b3, p3, hu, hg⟩
    have hss3 := hp.strs b3 hss
    refine ⟨_, rfl, pen, sp, 13, rfl, by decide, by decide, p3, fun H4 low hlow b4 p4 => ?_⟩
    refine ⟨_, rfl, _, _, rfl, _, rfl, _, _, rfl, _, _, rfl, rfl, _, _, rfl, (by show 4 ≤ sizeLine; decide), fun q0 m0 => ?_⟩
    refine ⟨_, rfl, pen, sp, 4, rfl, by decide, by decide, p4.same (.new m0), fun H5 c hc b5 p5 => ?_⟩
    obtain ⟨h, eh, hb4⟩ := high4 hlow c hc
    refine ⟨q0, _, _, _, rfl, rfl, sL (b5 _ _ upd_same (p4.ne m0)), atI_nat (j := c) eh, ?_⟩
    refine ⟨_, rfl, pen, sp, 2, rfl, by decide, by decide, p5, fun H6 y hy b6 p6 => ?_⟩
    have b06 := (((b3.trans b4).trans (.of (.new m0))).trans b5).trans b6
    have hu6 := p5.fm b6 ((p4.same (.new m0)).fm b5 (dpS (.new m0) (p3.fm b4 hu)))
    refine ⟨rfl, _, rfl, ite2 (fun hy0 => ?_) (fun _ => ?_)⟩
    · refine ⟨z2, fun q1 m1 => ⟨z2, fun q2 m2 => ⟨z2, fun q3 m3 => ⟨z2, fun q4 m4 => ⟨z2, fun q5 m5 => ⟨z2, fun q6 m6 => ⟨z2, fun q7 m7 => ⟨(by show 7 ≤ sizeLine; decide), fun bl mb => ?_⟩⟩⟩⟩⟩⟩⟩⟩
      have t1 := Same.new m1 (o := (.tup [.int 0, .int 3]))
      have t2 := Same.new m2 (o := (.tup [.int 1, .int 4]))
      have t3 := Same.new m3 (o := (.tup [.int 3, .non]))
      have t4 := Same.new m4 (o := (.tup [.int 2, .int 5]))
      have t5 := Same.new m5 (o := (.tup [.int 0, .int 12]))
      have t6 := Same.new m6 (o := (.tup [.int 1, .int 12]))
      have t7 := Same.new m7 (o := (.tup [.int 1, .int 1]))
      have u7 := Same.new mb (o := .lst [.ref q1, .ref q2, .ref q3, .ref q4, .ref q5, .ref q6, .ref q7])
      have u6 := t7.trans u7
      have u5 := t6.trans u6
      have u4 := t5.trans u5
      have u3 := t4.trans u4
      have u2 := t3.trans u3
      have u1 := t2.trans u2
      have u0 := t1.trans u1
      have hat := bnds7 (K := K) (u1.sqT (sT upd_same)) (u2.sqT (sT upd_same)) (u3.sqT (sT upd_same)) (u4.sqT (sT upd_same)) (u5.sqT (sT upd_same)) (u6.sqT (sT upd_same)) (u7.sqT (sT upd_same))
      refine ⟨_, rfl, pen, sp, 7, rfl, by decide, by decide, p6.same u0, fun H7 c2 hc2 b7' p7 => ?_⟩
      obtain ⟨qc, l, h, e1, e2, hbd⟩ := hat c2 hc2
      have hbl := (p6.same u0).refs (as := [q1, q2, q3, q4, q5, q6, q7]) b7' upd_same
      refine ⟨bl, _, _, _, rfl, rfl, sL hbl, atI_nat (j := c2) e1, ?_⟩
      refine ⟨qc, _, rfl, (p6.same u0).sqT b7' e2, rfl, _, _, rfl, _, _, rfl, rfl, ?_⟩
      have b7 := (b06.trans (.of u0)).trans b7'
      have hu7 := (p6.same u0).fm b7' (dpS u0 hu6)
      refine ⟨_, rfl, _, rfl, _, rfl, (by show 4 ≤ sizeLine; decide), fun r1 n1 => ?_⟩
      have w1 := Same.new n1 (o := .tup [.str "times", u, .int (l : Int), highV h])
      refine ⟨_, rfl, pen, sp, 4, rfl, by decide, by decide, p7.same w1, fun H8 way hway b8 p8 => ?_⟩
      have b08 := (b7.trans (.of w1)).trans b8
      have hss8 := hp.strs b08 hss
      have hr8 : FmAt K H8 (.ref r1) (.times g l h) := (p7.same w1).fm b8 (fmTup4 (sT upd_same) (dpS w1 hu7))
      have hgt := hg.times hbd
      refine ⟨_, rfl, _, _, rfl, rfl, _, rfl, ite2 (fun hw => ?_) (fun hw => ?_)⟩
      · have hw2 : way < 2 := by have : (way : Int) < 2 := of_decide_eq_true hw; omega
        obtain ⟨a0, ha0⟩ : ∃ a0, ss[0]? = some a0 := ⟨_, List.getElem?_eq_getElem hsg.1⟩
        obtain ⟨sr, a9, es⟩ : ∃ sr a9, ss = sr ++ [a9] := ⟨_, _, (List.dropLast_concat_getLast (fun e => by have := hsg.1; rw [e] at this; cases this)).symm⟩
        have hl9 : atI (ss.map V.str) (-1) = some (.str a9) := by rw [es, List.map_append]; exact atI_last _ _
        have g0 := hsg.2.2 a0 (List.mem_of_getElem? ha0)
        have g9 := hsg.2.2 a9 (by rw [es]; simp)
        refine ⟨_, rfl, _, rfl, sg, _, 0, _, rfl, rfl, sL hss8, atI_nat (j := 0) (v := .str a0) (by rw [List.getElem?_map, ha0]; rfl), z2, fun q1 m1 => ⟨z2, fun q2 m2 => ⟨z2, fun q3 m3 => ?_⟩⟩⟩
        have t1 := Same.new m1 (o := .tup [.str "sign", .str a0])
        have t2 := Same.new m2 (o := .tup [.ref r1, .ref q1])
        have t3 := Same.new m3 (o := .tup [.str "row", .ref q2])
        have t13 := (t1.trans t2).trans t3
        refine ⟨_, rfl, _, rfl, sg, _, _, _, rfl, rfl, sL (t13 _ _ hss8), hl9, z2, fun q4 m4 => ⟨_, rfl, z2, fun q5 m5 => ⟨z2, fun q6 m6 => ⟨z2, fun q7 m7 => ?_⟩⟩⟩⟩
        have t4 := Same.new m4 (o := .tup [.str "sign", .str a9])
        have t5 := Same.new m5 (o := .tup [.ref q4, .ref r1])
        have t6 := Same.new m6 (o := .tup [.str "pick", .ref q5])
        have t7 := Same.new m7 (o := .lst [.ref q3, .ref q6])
        have t47 := (t4.trans t5).trans (t6.trans t7)
        have t17 := t13.trans t47
        have hR := dpS t17 hr8
        have f3 := fmRow2 (((t47).sqT (sT upd_same))) ((t3.trans t47).sqT (sT upd_same)) (fs := [.times g l h, .sign a0]) (.cons hR (.cons (fmSign2 (((t2.trans t3).trans t47).sqT (sT upd_same))) .nil))
        have f6 := fmPick2 (t7.sqT (sT upd_same)) ((t6.trans t7).sqT (sT upd_same)) (fs := [.sign a9, .times g l h]) (.cons (fmSign2 ((t5.trans (t6.trans t7)).sqT (sT upd_same))) (.cons hR .nil))
        obtain ⟨x, g', ex, fx, hgx⟩ := pick01 (way := way) f3 f6 ((Fg.row2 hgt (.sign g0)).mono (show _ ≤ 13 + 3 * (i + 1) by omega)) ((Fg.pick2 (.sign g9) hgt).mono (by omega)) hw2
        refine ⟨_, rfl, q7, _, _, _, rfl, rfl, sL upd_same, atI_nat (j := way) ex, ?_⟩
        exact ⟨_, g', _, _, _, _, rfl, b08.trans (.of t17), p8.same t17, fx, hgx⟩
      · exact ⟨_, _, _, _, _, _, rfl, b08, p8, hr8, hgt.mono (by omega)⟩
    · have b7 := b06
      have p7 := p6
      have hu7 := hu6
      have hbd := hb4
      obtain ⟨l, el⟩ : ∃ l, l = low := ⟨_, rfl⟩
      subst el
      refine ⟨_, rfl, _, rfl, _, rfl, (by show 4 ≤ sizeLine; decide), fun r1 n1 => ?_⟩
      have w1 := Same.new n1 (o := .tup [.str "times", u, .int (l : Int), highV h])
      refine ⟨_, rfl, pen, sp, 4, rfl, by decide, by decide, p7.same w1, fun H8 way hway b8 p8 => ?_⟩
      have b08 := (b7.trans (.of w1)).trans b8
      have hss8 := hp.strs b08 hss
      have hr8 : FmAt K H8 (.ref r1) (.times g l h) := (p7.same w1).fm b8 (fmTup4 (sT upd_same) (dpS w1 hu7))
      have hgt := hg.times hbd
      refine ⟨_, rfl, _, _, rfl, rfl, _, rfl, ite2 (fun hw => ?_) (fun hw => ?_)⟩
      · have hw2 : way < 2 := by have : (way : Int) < 2 := of_decide_eq_true hw; omega
        obtain ⟨a0, ha0⟩ : ∃ a0, ss[0]? = some a0 := ⟨_, List.getElem?_eq_getElem hsg.1⟩
        obtain ⟨sr, a9, es⟩ : ∃ sr a9, ss = sr ++ [a9] := ⟨_, _, (List.dropLast_concat_getLast (fun e => by have := hsg.1; rw [e] at this; cases this)).symm⟩
        have hl9 : atI (ss.map V.str) (-1) = some (.str a9) := by rw [es, List.map_append]; exact atI_last _ _
        have g0 := hsg.2.2 a0 (List.mem_of_getElem? ha0)
        have g9 := hsg.2.2 a9 (by rw [es]; simp)
        refine ⟨_, rfl, _, rfl, sg, _, 0, _, rfl, rfl, sL hss8, atI_nat (j := 0) (v := .str a0) (by rw [List.getElem?_map, ha0]; rfl), z2, fun q1 m1 => ⟨z2, fun q2 m2 => ⟨z2, fun q3 m3 => ?_⟩⟩⟩
        have t1 := Same.new m1 (o := .tup [.str "sign", .str a0])
        have t2 := Same.new m2 (o := .tup [.ref r1, .ref q1])
        have t3 := Same.new m3 (o := .tup [.str "row", .ref q2])
        have t13 := (t1.trans t2).trans t3
        refine ⟨_, rfl, _, rfl, sg, _, _, _, rfl, rfl, sL (t13 _ _ hss8), hl9, z2, fun q4 m4 => ⟨_, rfl, z2, fun q5 m5 => ⟨z2, fun q6 m6 => ⟨z2, fun q7 m7 => ?_⟩⟩⟩⟩
        have t4 := Same.new m4 (o := .tup [.str "sign", .str a9])
        have t5 := Same.new m5 (o := .tup [.ref q4, .ref r1])
        have t6 := Same.new m6 (o := .tup [.str "pick", .ref q5])
        have t7 := Same.new m7 (o := .lst [.ref q3, .ref q6])
        have t47 := (t4.trans t5).trans (t6.trans t7)
        have t17 := t13.trans t47
        have hR := dpS t17 hr8
        have f3 := fmRow2 (((t47).sqT (sT upd_same))) ((t3.trans t47).sqT (sT upd_same)) (fs := [.times g l h, .sign a0]) (.cons hR (.cons (fmSign2 (((t2.trans t3).trans t47).sqT (sT upd_same))) .nil))
        have f6 := fmPick2 (t7.sqT (sT upd_same)) ((t6.trans t7).sqT (sT upd_same)) (fs := [.sign a9, .times g l h]) (.cons (fmSign2 ((t5.trans (t6.trans t7)).sqT (sT upd_same))) (.cons hR .nil))
        obtain ⟨x, g', ex, fx, hgx⟩ := pick01 (way := way) f3 f6 ((Fg.row2 hgt (.sign g0)).mono (show _ ≤ 13 + 3 * (i + 1) by omega)) ((Fg.pick2 (.sign g9) hgt).mono (by omega)) hw2
        refine ⟨_, rfl, q7, _, _, _, rfl, rfl, sL upd_same, atI_nat (j := way) ex, ?_⟩
        exact ⟨_, g', _, _, _, _, rfl, b08.trans (.of t17), p8.same t17, fx, hgx⟩
      · exact ⟨_, _, _, _, _, _, rfl, b08, p8, hr8, hgt.mono (by omega)⟩
  · rintro σ H3 ⟨u, g, o3, o4, o5, o6, rfl, b3, p3, hu, hg⟩
    refine ⟨_, rfl, k _ _ g b3 p3 hu (hg.mono (by omega))⟩
end
end Sw
set_option Elab.async false
set_option maxRecDepth 100000
set_option maxHeartbeats 8000000
namespace Sw
open PySem L2 PySem.Spec PyProof.Rows
theorem neSelf (a : V) : (!decide (a = a)) = false := by simp
section
variable {P : Program} {w : World} {K : PySem.W.Frag} {mg : Str → Option Value} {base : Heap}
abbrev n_law_e_opened_right : List Str := ["form", "due", "kept", "again"]
theorem sc_law_e_opened_right : FnScope n_law_e_opened_right ["form"] (defScope s_law_e_opened_right) := ⟨rfl, rfl, rfl, by decide +kernel, rfl, by decide +kernel, by decide +kernel⟩
def spRight (K : PySem.W.Frag) : Sp := fun vs H Q _ => ∃ v f, vs = [v] ∧ FmAt K H v f ∧ Fg 24 f ∧ ∀ H', Same H H' → Q (.bl true) H'
theorem ok_law_e_opened_right (F : DefAt K mg "_law_e_opened_right" s_law_e_opened_right ["form"]) (d__law_e_size : DefOk P w K mg base "_law_e_size" 25 ["form"] (spEs K 24)) (d__law_e_opened : DefOk P w K mg base "_law_e_opened" 25 ["form"] (spEo K 24))
    (d__law_e_told_opened : DefOk P w K mg base "_law_e_told_opened" 6 ["form"] (spTold K)) (b_repr : mg "repr" = none) (b_range : mg "range" = none) : DefG P w K mg base "_law_e_opened_right" 31 ["form"] (spRight K) := by
  refine F.okG sc_law_e_opened_right (fun vs H Q E h => ?_) (fun fA cdv A outer s H vs Q E hg hr h => ?_)
  · obtain ⟨_, _, rfl, _⟩ := h
    rfl
  obtain ⟨v, f, rfl, hf, hgf, k⟩ := h
  have hu := hr.un
  have hu6 : (A.deeper (envOfC "_law_e_opened_right" (defScope s_law_e_opened_right) s.heap.objs.size fA cdv)).units + 610 < cLine := by omega
  refine ⟨_, (pss_cons (ps_set (i := 1) sc_law_e_opened_right.nd rfl (Or.inl rfl) (pe_tup (pa_cons pe_str (pa_cons pe_int pa_nil))))
    (pss_cons (ps_if (pt_cmpR op_le (pe_callD d__law_e_size (hr.mono (by decide)) rfl (pa_cons (pv 0) pa_nil)) pe_int (nomark _)) (pss_one (ps_set (i := 1) sc_law_e_opened_right.nd rfl (Or.inl rfl) (pe_tup (pa_cons pe_str (pa_cons (pe_callD d__law_e_opened (hr.mono (by decide)) rfl (pa_cons (pv 0) pa_nil)) pa_nil))))) pss_nil)
    (pss_cons (ps_set (i := 2) sc_law_e_opened_right.nd rfl (Or.inl rfl) (pe_callB (cr_reprE hg hu6) (by rfl) b_repr (by decide +kernel) (pa_cons (pv 0) pa_nil)))
    (pss_cons (ps_for PassesOwn.never rfl (pi_range1 rfl b_range (pa_cons pe_int pa_nil)) (pg_name (i := 3) sc_law_e_opened_right.nd rfl (Or.inl rfl))
      (pss_one (ps_if (PW.pt (pw_or (pt_cmpR op_ne (pe_callB (cr_reprE hg hu6) (by rfl) b_repr (by decide +kernel) (pa_cons (pe_callD d__law_e_told_opened (hr.mono (by decide)) rfl (pa_cons (pv 0) pa_nil)) pa_nil)) (pe_callB (cr_reprE hg hu6) (by rfl) b_repr (by decide +kernel) (pa_cons (pv 1) pa_nil)) (nomark _)) (pw_or1 (pt_cmpR op_ne (pe_callB (cr_reprE hg hu6) (by rfl) b_repr (by decide +kernel) (pa_cons (pv 0) pa_nil)) (pv 2) (nomark _))))) (pss_one (ps_ret pe_bl)) pss_nil)))
    (pss_one (ps_ret pe_bl)))))), ?_⟩
  have hsz := hgf.sz
  have hdp : f.dp ≤ 24 := Nat.le_trans (dp_size f) hsz
  have hek : f.ek = true := ek_of f hgf.bd hgf.sg (by omega)
  have oF := okF hek (by omega)
  refine ⟨by show 2 ≤ sizeLine; decide, fun p0 n0 => ?_⟩
  have s0 := Same.new n0 (o := .tup [.str "many", .int 300])
  refine ⟨_, rfl, v, f, rfl, dpS s0 hf, hdp, hgf.bd, by omega, fun H1 s1 => ?_⟩
  have s01 := s0.trans s1
  refine ⟨_, _, rfl, rfl, _, rfl, ite2 (fun hle => ?_) (fun hgt => ?_)⟩
  · have h300 : f.osz ≤ 300 := by have : (f.osz : Int) ≤ 300 := of_decide_eq_true hle; omega
    have oD := okTold (op_ek f hek) (by rw [op_size f hgf.bd]; exact h300)
    refine ⟨_, rfl, v, f, rfl, dpS s01 hf, hdp, hgf.bd, by omega, fun H2 x s2 hx => ⟨by show 2 ≤ sizeLine; decide, fun p1 n1 => ?_⟩⟩
    have t1 := Same.new n1 (o := .tup [.str "told", x])
    have hd : Dp K _ (.ref p1) (.tuple [.str "told", f.op.dat]) := .tup (sT upd_same) (.cons (.str _) (.cons (dpS t1 hx) .nil))
    have s3 := s01.trans (s2.trans t1)
    refine ⟨_, rfl, v, f.dat, rfl, dpS s3 hf, oF.sh, oF.nd, oF.dep, oF.len, ?_⟩
    refine ⟨_, rfl, by decide, by decide, ?_⟩
    refine for_range (lo := 0) (n := (2 : Int).toNat) (fun i σ H' => ∃ o3, σ = [some v, some (.ref p1), some (.str f.dat.shown), o3] ∧ Same H H' ∧ Dp K H' (.ref p1) (.tuple [.str "told", f.op.dat])) ⟨none, rfl, s3, hd⟩ ?_ ?_
    · rintro i σ H5 hi ⟨o3, rfl, s5, hd5⟩
      refine ⟨_, rfl, v, f, rfl, dpS s5 hf, hgf.bd, by omega, fun _ H6 q6 s6 h6 => ?_, fun z => absurd h300 (by omega)⟩
      refine ⟨_, _, rfl, h6, oD.sh, oD.nd, oD.dep, oD.len, ?_⟩
      refine ⟨_, rfl, _, _, rfl, dpS s6 hd5, oD.sh, oD.nd, oD.dep, oD.len, ?_⟩
      refine ⟨rfl, _, rfl, ?_⟩
      rw [neSelf]
      refine iteF ?_
      have s56 := s5.trans s6
      refine ⟨_, rfl, v, f.dat, rfl, dpS s56 hf, oF.sh, oF.nd, oF.dep, oF.len, _, rfl, rfl, _, rfl, ?_⟩
      rw [neSelf]
      refine iteF ?_
      exact ⟨_, rfl, s56, dpS s6 hd5⟩
    · rintro σ H5 ⟨o3, rfl, s5, hd5⟩
      exact k _ s5
  · have h300 : 300 < f.osz := Nat.lt_of_not_le fun q => hgt (decide_eq_true (show (f.osz : Int) ≤ 300 by omega))
    have oD := okMany
    have hd : Dp K H1 (.ref p0) (.tuple [.str "many", .int 300]) := dpS s1 (.tup (sT upd_same) (.cons (.str _) (.cons (.int _) .nil)))
    have s3 := s01
    refine ⟨_, rfl, v, f.dat, rfl, dpS s3 hf, oF.sh, oF.nd, oF.dep, oF.len, ?_⟩
    refine ⟨_, rfl, by decide, by decide, ?_⟩
    refine for_range (lo := 0) (n := (2 : Int).toNat) (fun i σ H' => ∃ o3, σ = [some v, some (.ref p0), some (.str f.dat.shown), o3] ∧ Same H H' ∧ Dp K H' (.ref p0) (.tuple [.str "many", .int 300])) ⟨none, rfl, s3, hd⟩ ?_ ?_
    · rintro i σ H5 hi ⟨o3, rfl, s5, hd5⟩
      refine ⟨_, rfl, v, f, rfl, dpS s5 hf, hgf.bd, by omega, fun z => absurd h300 (by omega), fun _ H6 q6 s6 h6 => ?_⟩
      refine ⟨_, _, rfl, h6, oD.sh, oD.nd, oD.dep, oD.len, ?_⟩
      refine ⟨_, rfl, _, _, rfl, dpS s6 hd5, oD.sh, oD.nd, oD.dep, oD.len, ?_⟩
      refine ⟨rfl, _, rfl, ?_⟩
      rw [neSelf]
      refine iteF ?_
      have s56 := s5.trans s6
      refine ⟨_, rfl, v, f.dat, rfl, dpS s56 hf, oF.sh, oF.nd, oF.dep, oF.len, _, rfl, rfl, _, rfl, ?_⟩
      rw [neSelf]
      refine iteF ?_
      exact ⟨_, rfl, s56, dpS s6 hd5⟩
    · rintro σ H5 ⟨o3, rfl, s5, hd5⟩
      exact k _ s5
end
end Sw
set_option Elab.async false
set_option maxRecDepth 100000
set_option maxHeartbeats 8000000
namespace Sw
open PySem L2 PySem.Spec PyProof.Rows
def twF (s : Str) : Fm := .times (.sign s) 0 (some 12)
def laF (s : Str) (m : Nat) : Fm := .row ([twF s, .times (.sign s) 0 (some 6)] ++ List.replicate m (.sign s))
def loF (s : Str) (m : Nat) : Fm := .row (List.replicate 7 (twF s) ++ [laF s m])
theorem lo_1 (s : Str) : (loF s 1).osz = 300 := by
  simp [loF, laF, twF, Fm.osz, Fm.oszs, sz1, plc, List.replicate]
theorem lo_2 (s : Str) : (loF s 2).osz = 301 := by
  simp [loF, laF, twF, Fm.osz, Fm.oszs, sz1, plc, List.replicate]
theorem lo_g {s : Str} (h : signS s = true) {m : Nat} (hm : m = 1 ∨ m = 2) : Fg 24 (loF s m) := by
  rcases hm with rfl | rfl
  · refine ⟨?_, ?_, ?_⟩
    · simp [loF, laF, twF, Fm.bd, Fm.bds, bd1, List.replicate]
    · simp [loF, laF, twF, Fm.sgs, Fm.sgss, List.replicate, h]
    · simp [loF, laF, twF, Fm.size, Fm.sizes, List.replicate]
  · refine ⟨?_, ?_, ?_⟩
    · simp [loF, laF, twF, Fm.bd, Fm.bds, bd1, List.replicate]
    · simp [loF, laF, twF, Fm.sgs, Fm.sgss, List.replicate, h]
    · simp [loF, laF, twF, Fm.size, Fm.sizes, List.replicate]
section
variable {P : Program} {w : World} {K : PySem.W.Frag} {mg : Str → Option Value} {base : Heap}
abbrev n_law : List Str := ["script", "pen", "turn", "one", "twelve", "many", "last", "form"]
theorem sc_law : FnScope n_law ["script"] (defScope s_law) := ⟨rfl, rfl, rfl, by decide +kernel, rfl, by decide +kernel, by decide +kernel⟩
def spLaw (K : PySem.W.Frag) : Sp := fun vs H Q _ => ∃ (a : Addr) (ns : List Int), vs = [.ref a] ∧ SqL K H a (ns.map V.int) ∧ ns.length ≤ 63 ∧ ∀ H', Same H H' → Q (.bl true) H'
theorem ok_law {f : Addr} {fd : FuncData} (F : Fun K "law" "law" s_law f fd) (d__law_e_pen : DefOk P w K mg base "_law_e_pen" 1 ["script"] (spPen K)) (d__law_e_signs : DefOk P w K mg base "_law_e_signs" 2 ["pen"] spSigns)
    (d__law_e_great : DefOk P w K mg base "_law_e_great" 5 ["pen", "signs"] (spGreat K)) (d__law_e_size : DefOk P w K mg base "_law_e_size" 25 ["form"] (spEs K 24)) (d__law_e_opened_right : DefG P w K mg base "_law_e_opened_right" 31 ["form"] (spRight K))
    (b_range : mg "range" = none) : FnG P w K mg base 33 f fd ["script"] (spLaw K) := by
  refine Fun.okG F sc_law (fun vs H Q E h => ?_) (fun cdv A outer s H vs Q E hg hr h => ?_)
  · obtain ⟨_, _, rfl, _⟩ := h
    rfl
  obtain ⟨sa, ns, rfl, hs, hl, k⟩ := h
  refine ⟨_, (pss_cons (ps_set (i := 1) sc_law.nd rfl (Or.inl rfl) (pe_callD d__law_e_pen (hr.mono (by decide)) rfl (pa_cons (pv 0) pa_nil)))
    (pss_cons (ps_for PassesOwn.never rfl (pi_range1 rfl b_range (pa_cons pe_int pa_nil)) (pg_name (i := 2) sc_law.nd rfl (Or.inl rfl))
      (pss_one (ps_if (pt_not (pt_val (pe_callG d__law_e_opened_right hg (hr.mono (by decide)) rfl (pa_cons (pe_callD d__law_e_great (hr.mono (by decide)) rfl (pa_cons (pv 1) (pa_cons (pe_callD d__law_e_signs (hr.mono (by decide)) rfl (pa_cons (pv 1) pa_nil)) pa_nil))) pa_nil)))) (pss_one (ps_ret pe_bl)) pss_nil)))
    (pss_cons (ps_set (i := 3) sc_law.nd rfl (Or.inl rfl) (pe_tup (pa_cons pe_str (pa_cons (pe_ix ix_list (pe_callD d__law_e_signs (hr.mono (by decide)) rfl (pa_cons (pv 1) pa_nil)) pe_int (fun _ _ => rfl)) pa_nil))))
    (pss_cons (ps_set (i := 4) sc_law.nd rfl (Or.inl rfl) (pe_tup (pa_cons pe_str (pa_cons (pv 3) (pa_cons pe_int (pa_cons pe_int pa_nil))))))
    (pss_cons (ps_for PassesOwn.never rfl (pi_list (pe_lst (pa_cons pe_int (pa_cons pe_int pa_nil)))) (pg_name (i := 5) sc_law.nd rfl (Or.inl rfl))
      (pss_cons (ps_set (i := 6) sc_law.nd rfl (Or.inl rfl) (pe_tup (pa_cons pe_str (pa_cons (pe_op op_catA (pe_tup (pa_cons (pv 4) (pa_cons (pe_tup (pa_cons pe_str (pa_cons (pv 3) (pa_cons pe_int (pa_cons pe_int pa_nil))))) pa_nil))) (pe_op op_mulA (pe_tup (pa_cons (pv 3) pa_nil)) (pv 5))) pa_nil))))
    (pss_cons (ps_set (i := 7) sc_law.nd rfl (Or.inl rfl) (pe_tup (pa_cons pe_str (pa_cons (pe_op op_catA (pe_op op_mulA (pe_tup (pa_cons (pv 4) pa_nil)) pe_int) (pe_tup (pa_cons (pv 6) pa_nil))) pa_nil))))
    (pss_one (ps_if (PW.pt (pw_or (pt_cmpR op_ne (pe_callD d__law_e_size (hr.mono (by decide)) rfl (pa_cons (pv 7) pa_nil)) (pe_op op_add pe_int (pv 5)) (nomark _)) (pw_or1 (pt_not (pt_val (pe_callG d__law_e_opened_right hg (hr.mono (by decide)) rfl (pa_cons (pv 7) pa_nil))))))) (pss_one (ps_ret pe_bl)) pss_nil)))))
    (pss_one (ps_ret pe_bl))))))), ?_⟩
  refine ⟨_, rfl, sa, ns, rfl, hs, hl, fun H1 pen sp s1 npen p1 => ?_⟩
  refine ⟨_, rfl, by decide, by decide, ?_⟩
  have freeS : ∀ {H' H2 : Hp}, Same H H' → But pen H' H2 → Same H H2 := fun s b x o e => b x o (s x o e) (ne_of_none e npen)
  refine for_range (lo := 0) (n := (5 : Int).toNat) (fun i σ H' => ∃ o2, σ = [some (.ref sa), some (.ref pen), o2, none, none, none, none, none] ∧ Same H H' ∧ PenAt H' pen sp) ⟨none, rfl, s1, p1⟩ ?_ ?_
  · rintro i σ H2 hi ⟨o2, rfl, s2, p2⟩
    refine ⟨_, rfl, _, rfl, pen, sp, rfl, p2, fun H3 sg ss b3 p3 hss h0 h3 _ hsg => ?_⟩
    refine ⟨pen, sp, sg, ss, rfl, p3, hss, ⟨h0, h3, hsg⟩, fun H4 v f b4 p4 hv hf => ?_⟩
    refine ⟨v, f, rfl, hv, hf.mono (by decide), fun H5 s5 => ⟨_, rfl, ?_⟩⟩
    refine iteF ?_
    exact ⟨_, rfl, (freeS s2 (b3.trans b4)).trans s5, p4.same s5⟩
  rintro σ H2 ⟨o2, rfl, s2, p2⟩
  refine ⟨_, rfl, pen, sp, rfl, p2, fun H3 sg ss b3 p3 hss h0 h3 _ hsg => ?_⟩
  obtain ⟨t, ht⟩ : ∃ t, ss[0]? = some t := ⟨_, List.getElem?_eq_getElem h0⟩
  have hts := hsg t (List.mem_of_getElem? ht)
  have z2 : (2 : Nat) ≤ sizeLine := by decide
  have z4 : (4 : Nat) ≤ sizeLine := by decide
  refine ⟨sg, _, 0, _, rfl, rfl, sL hss, atI_nat (j := 0) (v := .str t) (by rw [List.getElem?_map, ht]; rfl), z2, fun q1 m1 => ?_⟩
  have t1 := Same.new m1 (o := .tup [.str "sign", .str t])
  refine ⟨_, rfl, z4, fun q2 m2 => ?_⟩
  have t2 := Same.new m2 (o := .tup [.str "times", .ref q1, .int 0, .int 12])
  have f1 := fmSign2 (K := K) (p := q1) (t2.sqT (sT upd_same))
  have f2 : FmAt K _ (.ref q2) (twF t) := fmTup4 (h := some 12) (l := 0) (sT upd_same) f1
  have s4 := (freeS s2 b3).trans (t1.trans t2)
  refine ⟨z2, fun q3 m3 => ?_⟩
  have t3 := Same.new m3 (o := .lst [.int 1, .int 2])
  have s5 := s4.trans t3
  have z1 : (1 : Nat) ≤ sizeLine := by decide
  refine ⟨q3, rfl, ⟨_, sL upd_same⟩, for_list (K := K) (a := q3) (xs := [.int 1, .int 2]) (fun i σ H' => ∃ o5 o6 o7, σ = [some (.ref sa), some (.ref pen), o2, some (.ref q1), some (.ref q2), o5, o6, o7] ∧ Same (upd (upd (upd H3 q1 (.tup [.str "sign", .str t])) q2 (.tup [.str "times", .ref q1, .int 0, .int 12])) q3 (.lst [.int 1, .int 2])) H') ⟨none, none, none, rfl, .refl _⟩ (fun i σ H' _ ⟨_, _, _, _, g⟩ => sL (g _ _ upd_same)) ?_ ?_⟩
  · rintro i x σ H5 hi ⟨o5, o6, o7, rfl, g5⟩
    obtain ⟨m, hm, rfl⟩ : ∃ m : Nat, (m = 1 ∨ m = 2) ∧ x = .int (m : Int) := by
      match i, hi with
      | 0, hi => exact ⟨1, .inl rfl, (Option.some.inj hi).symm⟩
      | 1, hi => exact ⟨2, .inr rfl, (Option.some.inj hi).symm⟩
      | i + 2, hi => simp at hi
    have hm2 : m ≤ 2 := by omega
    have f15 := dpS (t3.trans g5) f1
    have f25 := dpS (t3.trans g5) f2
    refine ⟨_, rfl, _, rfl, z4, fun r1 n1 => ⟨z2, fun r2 n2 => ⟨_, rfl, z1, fun r3 n3 => ⟨_, rfl, r3, _, _, rfl, rfl, sT upd_same, by simp, by omega, by omega, by simp, fun H6 r4 s6 h4 => ?_⟩⟩⟩⟩
    have u1 := Same.new n1 (o := .tup [.str "times", .ref q1, .int 0, .int 6])
    have u2 := Same.new n2 (o := .tup [.ref q2, .ref r1])
    have u3 := Same.new n3 (o := .tup [.ref q1])
    have e6 := (u1.trans (u2.trans u3)).trans s6
    have fsix : FmAt K H6 (.ref r1) (.times (.sign t) 0 (some 6)) := dpS ((u2.trans u3).trans s6) (fmTup4 (h := some 6) (l := 0) (sT upd_same) (dpS u1 f15))
    refine catT ((u3.trans s6).sqT (sT upd_same)) h4 (szl (by rw [repLen]; show 2 + _ ≤ _; omega)) (fun H7 r5 s7 h5 => ⟨z2, fun r6 n6 => ?_⟩)
    have u6 := Same.new n6 (o := .tup [.str "row", .ref r5])
    have hfs : FmsAt K _ ([.ref q2, .ref r1] ++ (List.replicate (m : Int).toNat [V.ref q1]).flatten) ([twF t, .times (.sign t) 0 (some 6)] ++ List.replicate m (.sign t)) :=
      fmsApp (.cons (dpS (e6.trans (s7.trans u6)) f25) (.cons (dpS (s7.trans u6) fsix) .nil)) (fmsRep (dpS (e6.trans (s7.trans u6)) f15) _)
    have fla : FmAt K _ (.ref r6) (laF t m) := fmRow2 (sT upd_same) (u6.sqT h5) hfs
    have e7 := e6.trans (s7.trans u6)
    refine ⟨_, rfl, z1, fun r7 n7 => ⟨r7, _, _, rfl, rfl, sT upd_same, by simp, by decide, by decide, by simp, fun H8 r8 s8 h8 => ⟨_, rfl, z1, fun r9 n9 => ?_⟩⟩⟩
    have u7 := Same.new n7 (o := .tup [.ref q2])
    have u9 := Same.new n9 (o := .tup [.ref r6])
    refine catT (u9.sqT h8) (sT upd_same) (by show 7 + 1 ≤ sizeLine; decide) (fun H9 r10 s9 h10 => ⟨z2, fun r11 n11 => ?_⟩)
    have u11 := Same.new n11 (o := .tup [.str "row", .ref r10])
    have e9 := (u7.trans s8).trans (u9.trans (s9.trans u11))
    have flo : FmAt K _ (.ref r11) (loF t m) := fmRow2 (sT upd_same) (u11.sqT h10) (fmsApp (fmsRep (dpS (e7.trans e9) f25) 7) (.cons (dpS e9 fla) .nil))
    have hg2 := lo_g hts hm
    refine ⟨_, rfl, .ref r11, loF t m, rfl, flo, Nat.le_trans (dp_size _) hg2.sz, hg2.bd, Nat.le_trans hg2.sz (by decide), fun H10 s10 => ?_⟩
    refine ⟨_, rfl, _, _, rfl, rfl, rfl, _, rfl, ?_⟩
    have ez : ((loF t m).osz : Int) = 299 + (m : Int) := by
      rcases hm with rfl | rfl
      · rw [lo_1]; rfl
      · rw [lo_2]; rfl
    rw [ez, neSelf]
    refine iteF ?_
    refine ⟨_, rfl, .ref r11, loF t m, rfl, dpS s10 flo, hg2, fun H11 s11 => ⟨_, rfl, ?_⟩⟩
    refine iteF ?_
    exact ⟨_, _, _, rfl, g5.trans ((e7.trans e9).trans (s10.trans s11))⟩
  · rintro σ H5 ⟨o5, o6, o7, rfl, g5⟩
    exact k _ (s5.trans g5)
end
end Sw
set_option Elab.async false
set_option maxRecDepth 100000
set_option maxHeartbeats 8000000
namespace Sw
open PySem L2 PySem.Spec PyProof.Rows
theorem defAt_mk {K : PySem.W.Frag} {h : Heap} {mg : Str → Option Value} {x : Str} {st : Stmt} {ps : List Str} {f : Addr} {od an : Option Addr} {sl : Array (Option Value)} {oc kV dc pm cd ct : Value} (X : K.In h) (G : h.Ns mainGlobals mg)
    (a : PySem.W.nsIn K mainGlobals x = some (some (.ref f))) (l : K.lookup f = some ⟨oc, od, .func (PySem.W.fnOf x x (defArgs st) (defBody st) (defScope st) .none kV dc pm an cd ct), sl⟩) (c : PySem.W.codeIn K cd x = true) (k : PySem.W.keepIn K (.ref f) = true)
    (b : Binds K (PySem.W.fnOf x x (defArgs st) (defBody st) (defScope st) .none kV dc pm an cd ct) ps []) : DefAt K mg x st ps :=
  ⟨f, _, fun_mk (st := st) l c k, PySem.W.mg_of X G a, b⟩
theorem defTab_mk {K : PySem.W.Frag} {h base : Heap} {mg : Str → Option Value} {x : Str} {st : Stmt} {ps : List Str} {f c T : Addr} {od an : Option Addr} {sl : Array (Option Value)} {oc kV dc pm ct : Value} (X : K.In h) (G : h.Ns mainGlobals mg)
    (a : PySem.W.nsIn K mainGlobals x = some (some (.ref f))) (l : K.lookup f = some ⟨oc, od, .func (PySem.W.fnOf x x (defArgs st) (defBody st) (defScope st) .none kV dc pm an (.ref c) ct), sl⟩) (cc : PySem.W.codeIn K (.ref c) x = true) (k : PySem.W.keepIn K (.ref f) = true)
    (b : Binds K (PySem.W.fnOf x x (defArgs st) (defBody st) (defScope st) .none kV dc pm an (.ref c) ct) ps []) (TB : GxR.TabB base mg c T) : DefTab K mg base x st ps T :=
  ⟨f, oc, od, kV, dc, pm, an, c, ct, sl, l, cc, k, PySem.W.mg_of X G a, b, TB⟩
theorem all_mk {l : PySem.W.OpenLaw} {w : World} {K : PySem.W.Frag} {h : Heap} {mg : Str → Option Value} {q : Program} {f1 f2 f3 f4 f5 f6 f7 f8 f9 f10 f11 f12 f13 f14 f15 f16 f17  fa : Addr} {od1 an1 od2 an2 od3 an3 od4 an4 od5 an5 od6 an6 od7 an7 od8 an8 od9 an9 od10 an10 od11 an11 od12 an12 od13 an13 od14 an14 od15 an15 od16 an16 od17 an17  : Option Addr} {sl1 sl2 sl3 sl4 sl5 sl6 sl7 sl8 sl9 sl10 sl11 sl12 sl13 sl14 sl15 sl16 sl17  : Array (Option Value)} {oc1 kV1 dc1 pm1 ct1 cd1 oc2 kV2 dc2 pm2 ct2 cd2 oc3 kV3 dc3 pm3 ct3 cd3 oc4 kV4 dc4 pm4 ct4 cd4 oc5 kV5 dc5 pm5 ct5 cd5 oc6 kV6 dc6 pm6 ct6 cd6 oc7 kV7 dc7 pm7 ct7 cd7 oc8 kV8 dc8 pm8 ct8 cd8 oc9 kV9 dc9 pm9 ct9 cd9 oc10 kV10 dc10 pm10 ct10 cd10 oc11 kV11 dc11 pm11 ct11 cd11 oc12 kV12 dc12 pm12 ct12 cd12 oc13 kV13 dc13 pm13 ct13 cd13 oc14 kV14 dc14 pm14 ct14 cd14 oc15 kV15 dc15 pm15 ct15 cd15 oc16 kV16 dc16 pm16 ct16 cd16 oc17 kV17 dc17 pm17 ct17 cd17  : Value} {k__MOST_PIECES : Tok} {pc p1 p2 p3 : Addr} {pd0 pd1 pd2 pd3 : Option Addr} {pn0 pn1 pn2 pn3 : Nat} {ps0 ps1 ps2 ps3 : Array (Option Value)} {y1 y2 y3 y4 : Tok} {yC yf yW ye1 ye2 ye3 ye4 ye5 ye6 yns ycc : Addr} {yn yq : Str} {yb ym yu : List Value} {ysn : List Str} {yab : Bool} {yco : Option Bool} {ydi yod yan : Option Addr} {yz0 yz1 yz2 yz3 yz5 : Option Value} {yoc ydc ypm ycd yct : Value} {yos : Array (Option Value)} (X : K.In h) (G : h.Ns mainGlobals mg) (hfa : mg "law" = some (.ref fa)) (own : ∀ x c P, ((recsOf q).any fun e => e.name == x) = true → OwnT K h x c P)
    (a1 : PySem.W.nsIn K mainGlobals "parts_of" = some (some (.ref f1))) (l1 : K.lookup f1 = some ⟨oc1, od1, .func (PySem.W.fnOf "parts_of" "parts_of" (defArgs s_parts_of) (defBody s_parts_of) (defScope s_parts_of) .none kV1 dc1 pm1 an1 cd1 ct1), sl1⟩) (d1 : PySem.W.codeIn K cd1 "parts_of" = true) (k1 : PySem.W.keepIn K (.ref f1) = true)
    (a2 : PySem.W.nsIn K mainGlobals "row_of" = some (some (.ref f2))) (l2 : K.lookup f2 = some ⟨oc2, od2, .func (PySem.W.fnOf "row_of" "row_of" (defArgs s_row_of) (defBody s_row_of) (defScope s_row_of) .none kV2 dc2 pm2 an2 cd2 ct2), sl2⟩) (d2 : PySem.W.codeIn K cd2 "row_of" = true) (k2 : PySem.W.keepIn K (.ref f2) = true)
    (a3 : PySem.W.nsIn K mainGlobals "laid" = some (some (.ref f3))) (l3 : K.lookup f3 = some ⟨oc3, od3, .func (PySem.W.fnOf "laid" "laid" (defArgs s_laid) (defBody s_laid) (defScope s_laid) .none kV3 dc3 pm3 an3 cd3 ct3), sl3⟩) (d3 : PySem.W.codeIn K cd3 "laid" = true) (k3 : PySem.W.keepIn K (.ref f3) = true)
    (a4 : PySem.W.nsIn K mainGlobals "opened" = some (some (.ref f4))) (l4 : K.lookup f4 = some ⟨oc4, od4, .func (PySem.W.fnOf "opened" "opened" (defArgs s_opened) (defBody s_opened) (defScope s_opened) .none kV4 dc4 pm4 an4 cd4 ct4), sl4⟩) (d4 : PySem.W.codeIn K cd4 "opened" = true) (k4 : PySem.W.keepIn K (.ref f4) = true)
    (a5 : PySem.W.nsIn K mainGlobals "_many_opened" = some (some (.ref f5))) (l5 : K.lookup f5 = some ⟨oc5, od5, .func (PySem.W.fnOf "_many_opened" "_many_opened" (defArgs s_many_opened) (defBody s_many_opened) (defScope s_many_opened) .none kV5 dc5 pm5 an5 cd5 ct5), sl5⟩) (d5 : PySem.W.codeIn K cd5 "_many_opened" = true) (k5 : PySem.W.keepIn K (.ref f5) = true)
    (a6 : PySem.W.nsIn K mainGlobals "_opened" = some (some (.ref f6))) (l6 : K.lookup f6 = some ⟨oc6, od6, .func (PySem.W.fnOf "_opened" "_opened" (defArgs s_opened1) (defBody s_opened1) (defScope s_opened1) .none kV6 dc6 pm6 an6 cd6 ct6), sl6⟩) (d6 : PySem.W.codeIn K cd6 "_opened" = true) (k6 : PySem.W.keepIn K (.ref f6) = true)
    (a7 : PySem.W.nsIn K mainGlobals "_up_to" = some (some (.ref f7))) (l7 : K.lookup f7 = some ⟨oc7, od7, .func (PySem.W.fnOf "_up_to" "_up_to" (defArgs s_up_to) (defBody s_up_to) (defScope s_up_to) .none kV7 dc7 pm7 an7 cd7 ct7), sl7⟩) (d7 : PySem.W.codeIn K cd7 "_up_to" = true) (k7 : PySem.W.keepIn K (.ref f7) = true)
    (a8 : PySem.W.nsIn K mainGlobals "_law_e_pen" = some (some (.ref f8))) (l8 : K.lookup f8 = some ⟨oc8, od8, .func (PySem.W.fnOf "_law_e_pen" "_law_e_pen" (defArgs s_law_e_pen) (defBody s_law_e_pen) (defScope s_law_e_pen) .none kV8 dc8 pm8 an8 cd8 ct8), sl8⟩) (d8 : PySem.W.codeIn K cd8 "_law_e_pen" = true) (k8 : PySem.W.keepIn K (.ref f8) = true)
    (a9 : PySem.W.nsIn K mainGlobals "_law_e_take" = some (some (.ref f9))) (l9 : K.lookup f9 = some ⟨oc9, od9, .func (PySem.W.fnOf "_law_e_take" "_law_e_take" (defArgs s_law_e_take) (defBody s_law_e_take) (defScope s_law_e_take) .none kV9 dc9 pm9 an9 cd9 ct9), sl9⟩) (d9 : PySem.W.codeIn K cd9 "_law_e_take" = true) (k9 : PySem.W.keepIn K (.ref f9) = true)
    (a10 : PySem.W.nsIn K mainGlobals "_law_e_signs" = some (some (.ref f10))) (l10 : K.lookup f10 = some ⟨oc10, od10, .func (PySem.W.fnOf "_law_e_signs" "_law_e_signs" (defArgs s_law_e_signs) (defBody s_law_e_signs) (defScope s_law_e_signs) .none kV10 dc10 pm10 an10 cd10 ct10), sl10⟩) (d10 : PySem.W.codeIn K cd10 "_law_e_signs" = true) (k10 : PySem.W.keepIn K (.ref f10) = true)
    (a11 : PySem.W.nsIn K mainGlobals "_law_e_form" = some (some (.ref f11))) (l11 : K.lookup f11 = some ⟨oc11, od11, .func (PySem.W.fnOf "_law_e_form" "_law_e_form" (defArgs s_law_e_form) (defBody s_law_e_form) (defScope s_law_e_form) .none kV11 dc11 pm11 an11 cd11 ct11), sl11⟩) (d11 : PySem.W.codeIn K cd11 "_law_e_form" = true) (k11 : PySem.W.keepIn K (.ref f11) = true)
    (a12 : PySem.W.nsIn K mainGlobals "_law_e_opened" = some (some (.ref f12))) (l12 : K.lookup f12 = some ⟨oc12, od12, .func (PySem.W.fnOf "_law_e_opened" "_law_e_opened" (defArgs s_law_e_opened) (defBody s_law_e_opened) (defScope s_law_e_opened) .none kV12 dc12 pm12 an12 cd12 ct12), sl12⟩) (d12 : PySem.W.codeIn K cd12 "_law_e_opened" = true) (k12 : PySem.W.keepIn K (.ref f12) = true)
    (a13 : PySem.W.nsIn K mainGlobals "_law_e_size" = some (some (.ref f13))) (l13 : K.lookup f13 = some ⟨oc13, od13, .func (PySem.W.fnOf "_law_e_size" "_law_e_size" (defArgs s_law_e_size) (defBody s_law_e_size) (defScope s_law_e_size) .none kV13 dc13 pm13 an13 cd13 ct13), sl13⟩) (d13 : PySem.W.codeIn K cd13 "_law_e_size" = true) (k13 : PySem.W.keepIn K (.ref f13) = true)
    (a14 : PySem.W.nsIn K mainGlobals "_law_e_great" = some (some (.ref f14))) (l14 : K.lookup f14 = some ⟨oc14, od14, .func (PySem.W.fnOf "_law_e_great" "_law_e_great" (defArgs s_law_e_great) (defBody s_law_e_great) (defScope s_law_e_great) .none kV14 dc14 pm14 an14 cd14 ct14), sl14⟩) (d14 : PySem.W.codeIn K cd14 "_law_e_great" = true) (k14 : PySem.W.keepIn K (.ref f14) = true)
    (a15 : PySem.W.nsIn K mainGlobals "_law_e_told_opened" = some (some (.ref f15))) (l15 : K.lookup f15 = some ⟨oc15, od15, .func (PySem.W.fnOf "_law_e_told_opened" "_law_e_told_opened" (defArgs s_law_e_told_opened) (defBody s_law_e_told_opened) (defScope s_law_e_told_opened) .none kV15 dc15 pm15 an15 cd15 ct15), sl15⟩) (d15 : PySem.W.codeIn K cd15 "_law_e_told_opened" = true) (k15 : PySem.W.keepIn K (.ref f15) = true)
    (a16 : PySem.W.nsIn K mainGlobals "_law_e_opened_right" = some (some (.ref f16))) (l16 : K.lookup f16 = some ⟨oc16, od16, .func (PySem.W.fnOf "_law_e_opened_right" "_law_e_opened_right" (defArgs s_law_e_opened_right) (defBody s_law_e_opened_right) (defScope s_law_e_opened_right) .none kV16 dc16 pm16 an16 cd16 ct16), sl16⟩) (d16 : PySem.W.codeIn K cd16 "_law_e_opened_right" = true) (k16 : PySem.W.keepIn K (.ref f16) = true)
    (a17 : PySem.W.nsIn K mainGlobals "law" = some (some (.ref f17))) (l17 : K.lookup f17 = some ⟨oc17, od17, .func (PySem.W.fnOf "law" "law" (defArgs s_law) (defBody s_law) (defScope s_law) .none kV17 dc17 pm17 an17 cd17 ct17), sl17⟩) (d17 : PySem.W.codeIn K cd17 "law" = true) (k17 : PySem.W.keepIn K (.ref f17) = true)
    (g__MOST_PIECES : PySem.W.nsIn K mainGlobals "_MOST_PIECES" = some (some (.int 300 k__MOST_PIECES)))
    (gpc : PySem.W.nsIn K mainGlobals "PLAIN_COUNTS" = some (some (.ref pc)))
    (lpc : K.lookup pc = some ⟨.type "tuple", pd0, .seq #[.ref p1, .ref p2, .ref p3] pn0, ps0⟩)
    (lp1 : K.lookup p1 = some ⟨.type "tuple", pd1, .seq #[.int 0 y1, .int 1 y2] pn1, ps1⟩)
    (lp2 : K.lookup p2 = some ⟨.type "tuple", pd2, .seq #[.int 0 y3, .none] pn2, ps2⟩)
    (lp3 : K.lookup p3 = some ⟨.type "tuple", pd3, .seq #[.int 1 y4, .none] pn3, ps3⟩)
    (w_gC : PySem.W.nsIn K mainGlobals "TooMany" = some (some (.ref yC)))
    (w_kl : K.lookup yC = some (excClassObj yn yq yC yns yb ym true ysn yu yab yco ydi yz0 yz1 yz2 yz3 yz5 "ValueError.__new__"))
    (v_rm : PySem.HandSPX.refsVE ym = true)
    (w_st : PySem.W.findIn K (.ref yC) "__setattr__" = some (some (.builtin "object.__setattr__")))
    (w_gt : PySem.W.findIn K (.ref yC) "__getattribute__" = some (some (.builtin "BaseException.__getattribute__")))
    (w_gn : PySem.W.findIn K (.ref yC) "__getattr__" = some none)
    (w_nm : PySem.W.findIn K (.ref yC) "most" = some none)
    (w_ini : PySem.W.findIn K (.ref yC) "__init__" = some (some (.ref yf)))
    (w_tf : PySem.W.typeIn K (.ref yf) = some (.type "function"))
    (w_kp : PySem.W.keepIn K (.ref yC) = true)
    (v_sB : PySem.W.subIn K (.ref yC) (.type "BaseException") = some true)
    (v_sV : PySem.W.subIn K (.ref yC) (.type "ValueError") = some true)
    (v_sC : PySem.W.subIn K (.ref yC) (.ref yC) = some true)
    (w_ty : PySem.W.typeIn K (.ref yC) = some (.type "type"))
    (w_hd : PySem.W.hasDictIn K yC = true)
    (v_sup : PySem.W.ks_superIn K yC yC "__init__" = some (some (.builtin "ValueError.__init__")))
    (w_op : PySem.W.nsIn K cStatics "thirdparty.any" = some none)
    (v_xi : PySem.W.excInitIn K yC SwX.veMro "ValueError.__new__" = true)
    (w_noS : PySem.W.nsIn K mainGlobals "super" = some none)
    (v_ms : (List.lookup (PySem.Str.ofString "super") l.prog.main.scope.names).isSome = false)
    (w_fn : K.lookup yf = some ⟨yoc, yod, .func (PySem.W.ksFn "__init__" "TooMany.__init__" (SwX.mArgs ⟨11, 17, 11, 21⟩ ⟨11, 23, 11, 27⟩) [SwX.mSt1 ⟨12, 27, 12, 47⟩ ⟨12, 48, 12, 52⟩ ⟨12, 47, 12, 53⟩ ⟨12, 8, 12, 13⟩ ⟨12, 8, 12, 15⟩ ⟨12, 8, 12, 24⟩ ⟨12, 25, 12, 54⟩ ⟨12, 8, 12, 55⟩ ⟨12, 8, 12, 55⟩, SwX.mSt2 ⟨13, 8, 13, 12⟩ ⟨13, 8, 13, 17⟩ ⟨13, 20, 13, 24⟩ ⟨13, 8, 13, 24⟩] SwX.mScope .none .none ydc ypm yan ycd yct ycc), yos⟩)
    (v_cf : SwX.codeF K ycd "TooMany.__init__" l.prog.main.file = true)
    (v_ce : SwX.cellF K ycc yC = true)
    (w_W : PySem.W.nsIn K mainGlobals "WayError" = some (some (.ref yW)))
    (w_e1 : PySem.W.nsIn K mainGlobals "NoName" = some (some (.ref ye1)))
    (w_e2 : PySem.W.nsIn K mainGlobals "NotOnce" = some (some (.ref ye2)))
    (w_e3 : PySem.W.nsIn K mainGlobals "NoRow" = some (some (.ref ye3)))
    (w_e4 : PySem.W.nsIn K mainGlobals "NoSign" = some (some (.ref ye4)))
    (w_e5 : PySem.W.nsIn K mainGlobals "NoText" = some (some (.ref ye5)))
    (w_e6 : PySem.W.nsIn K mainGlobals "TooWide" = some (some (.ref ye6)))
    (v_te : PySem.W.exmOne K (.ref yC) (.ref yW) = some true)
    (v_no : PySem.W.kitAny K (.ref yC) [.ref ye1, .ref ye2, .ref ye3, .ref ye4, .ref ye5, .ref ye6] = some false)
    (v_va : PySem.W.kitOne K (.ref yC) (.type "ValueError") = some true)
    (v_se : PySem.W.kitOne K (.ref yC) (.ref yC) = some true)
    (w_ac : PySem.W.findIn K (.ref yC) "__class__" = some (some (.builtin "object.__class__")))
    (w_ag : PySem.W.specialIn K (.builtin "object.__class__") "__get__" = some (some (.builtin "getset_descriptor.__get__")))
    (w_at : PySem.W.takesIn K (.builtin "object.__class__") = some true)
    (v_ob : PySem.W.mroIn K yC (.type "object") = some true)
    (v_cl : (PySem.W.clsIn K yC).isSome = true)
    (z_len : PySem.W.nsIn K mainGlobals "len" = some none)
    (z_range : PySem.W.nsIn K mainGlobals "range" = some none)
    (z_reversed : PySem.W.nsIn K mainGlobals "reversed" = some none)
    (z_tuple : PySem.W.nsIn K mainGlobals "tuple" = some none)
    (z_list : PySem.W.nsIn K mainGlobals "list" = some none)
    (z_int : PySem.W.nsIn K mainGlobals "int" = some none)
    (z_sorted : PySem.W.nsIn K mainGlobals "sorted" = some none)
    (z_sum : PySem.W.nsIn K mainGlobals "sum" = some none)
    (z_min : PySem.W.nsIn K mainGlobals "min" = some none)
    (z_max : PySem.W.nsIn K mainGlobals "max" = some none)
    (z_isinstance : PySem.W.nsIn K mainGlobals "isinstance" = some none)
    (z_repr : PySem.W.nsIn K mainGlobals "repr" = some none)
    (z_ValueError : PySem.W.nsIn K mainGlobals "ValueError" = some none)
    : ∃ (fd : FuncData) (cs : List (Addr × Addr)) (sp : Sp), (∀ p ∈ cs, h.get? p.2 = some { cls := .none, data := .fields #[] }) ∧ (∀ p ∈ cs, K.lookup p.2 = none) ∧ (∀ p ∈ cs, PySem.W.CodeHd h p.1 p.2) ∧ (∀ (s : Shared) (u : Value), BindsTo s fd ⟨[u], []⟩ [("script", u)]) ∧
      (∀ (H : Hp) (a : Addr) (ns : List Int), ns.length ≤ 63 → (∀ z ∈ ns, Builtin.Int.intBits z ≤ 1048576) → Tabs cs H → SqL K H a (ns.map V.int) → sp [.ref a] H (fun v H' => v = .bl true ∧ Tabs cs H') fun _ _ _ => False) ∧
      ∀ base : Heap, K.In base → base.Ns mainGlobals mg → (∀ p ∈ cs, GxR.TabB base mg p.1 p.2) → FnG l.prog w K mg base 33 fa fd ["script"] sp := by
  have e := hfa.symm.trans (PySem.W.mg_of X G a17)
  cases e
  have b_len := PySem.W.mg_none_of X G z_len
  have b_range := PySem.W.mg_none_of X G z_range
  have b_reversed := PySem.W.mg_none_of X G z_reversed
  have b_tuple := PySem.W.mg_none_of X G z_tuple
  have b_list := PySem.W.mg_none_of X G z_list
  have b_int := PySem.W.mg_none_of X G z_int
  have b_sorted := PySem.W.mg_none_of X G z_sorted
  have b_sum := PySem.W.mg_none_of X G z_sum
  have b_min := PySem.W.mg_none_of X G z_min
  have b_max := PySem.W.mg_none_of X G z_max
  have b_isinstance := PySem.W.mg_none_of X G z_isinstance
  have b_repr := PySem.W.mg_none_of X G z_repr
  have b_ValueError := PySem.W.mg_none_of X G z_ValueError
  have m__MOST_PIECES : ∃ t, mg "_MOST_PIECES" = some (.int 300 t) := ⟨_, PySem.W.mg_of X G g__MOST_PIECES⟩
  have m_pc : ∃ c, mg "PLAIN_COUNTS" = some (.ref c) ∧ ∀ H, Dp K H (.ref c) (.tuple pcD) := by
    refine ⟨pc, PySem.W.mg_of X G gpc, fun H => ?_⟩
    have kT : ∀ {a : Addr} {d : Option Addr} {its : Array Value} {n : Nat} {sl : Array (Option Value)} {xs : List V}, K.lookup a = some ⟨.type "tuple", d, .seq its n, sl⟩ → its.size ≤ sizeLine → Vals xs its.toList → SqT K H a xs := fun h1 h2 h3 => .inr ⟨_, _, _, h1, rfl, rfl, h2, h3⟩
    refine .tup (xs := [.ref p1, .ref p2, .ref p3]) (kT lpc (by show 3 ≤ sizeLine; decide) (.cons rfl (.cons rfl (.cons rfl .nil)))) (.cons (dpPair (l := 0) (h := some 1) (kT lp1 (by show 2 ≤ sizeLine; decide) ?_)) (.cons (dpPair (l := 0) (h := none) (kT lp2 (by show 2 ≤ sizeLine; decide) ?_)) (.cons (dpPair (l := 1) (h := none) (kT lp3 (by show 2 ≤ sizeLine; decide) ?_)) .nil)))
    · exact .cons ⟨_, rfl⟩ (.cons ⟨_, rfl⟩ .nil)
    · exact .cons ⟨_, rfl⟩ (.cons rfl .nil)
    · exact .cons ⟨_, rfl⟩ (.cons rfl .nil)
  have Tm : SwX.ManyAt K mg l.prog yC yf :=
    { gC := PySem.W.mg_of X G w_gC, kl := ⟨_, _, _, _, _, _, _, _, _, _, _, _, _, _, _, w_kl, v_rm⟩, st := w_st, gt := w_gt, gn := w_gn, nm := w_nm, ini := w_ini, tf := w_tf, kp := w_kp, sB := v_sB, sV := v_sV, sC := v_sC, ty := w_ty, hd := w_hd,
      sup := v_sup, op := w_op, xi := v_xi, noS := PySem.W.mg_none_of X G w_noS, ms := v_ms, fn := ⟨_, _, _, _, _, _, _, _, _, _, _, _, _, _, _, _, _, _, _, _, _, _, _, _, w_fn, rfl, v_cf, v_ce⟩ }
  have Yw : WayCls K mg yC yW ye1 ye2 ye3 ye4 ye5 ye6 :=
    { gW := PySem.W.mg_of X G w_W, g1 := PySem.W.mg_of X G w_e1, g2 := PySem.W.mg_of X G w_e2, g3 := PySem.W.mg_of X G w_e3, g4 := PySem.W.mg_of X G w_e4, g5 := PySem.W.mg_of X G w_e5, g6 := PySem.W.mg_of X G w_e6, gV := b_ValueError, te := v_te, no := v_no, va := v_va, se := v_se,
      xk := ⟨v_cl, w_gt, w_gn, v_sB, w_ac, w_ag, w_at, v_ob⟩, xf := ⟨w_gt, w_gn, v_sB, w_hd⟩ }
  have D1 : DefAt K mg "parts_of" s_parts_of ["form"] := defAt_mk X G a1 l1 d1 k1 ((fun_mk (st := s_parts_of) l1 d1 k1).binds (ps := ["form"]) fun _ _ _ _ _ _ us hl => match us, hl with | [_], _ => rfl)
  have D2 : DefAt K mg "row_of" s_row_of ["forms"] := defAt_mk X G a2 l2 d2 k2 ((fun_mk (st := s_row_of) l2 d2 k2).binds (ps := ["forms"]) fun _ _ _ _ _ _ us hl => match us, hl with | [_], _ => rfl)
  have D3 : DefAt K mg "laid" s_laid ["form"] := defAt_mk X G a3 l3 d3 k3 ((fun_mk (st := s_laid) l3 d3 k3).binds (ps := ["form"]) fun _ _ _ _ _ _ us hl => match us, hl with | [_], _ => rfl)
  have D4 : DefAt K mg "opened" s_opened ["form"] := defAt_mk X G a4 l4 d4 k4 ((fun_mk (st := s_opened) l4 d4 k4).binds (ps := ["form"]) fun _ _ _ _ _ _ us hl => match us, hl with | [_], _ => rfl)
  have D5 : DefAt K mg "_many_opened" s_many_opened ["piece", "parts"] := defAt_mk X G a5 l5 d5 k5 ((fun_mk (st := s_many_opened) l5 d5 k5).binds (ps := ["piece", "parts"]) fun _ _ _ _ _ _ us hl => match us, hl with | [_, _], _ => rfl)
  have D6 : DefAt K mg "_opened" s_opened1 ["piece", "parts"] := defAt_mk X G a6 l6 d6 k6 ((fun_mk (st := s_opened1) l6 d6 k6).binds (ps := ["piece", "parts"]) fun _ _ _ _ _ _ us hl => match us, hl with | [_, _], _ => rfl)
  have D7 : DefAt K mg "_up_to" s_up_to ["part", "many"] := defAt_mk X G a7 l7 d7 k7 ((fun_mk (st := s_up_to) l7 d7 k7).binds (ps := ["part", "many"]) fun _ _ _ _ _ _ us hl => match us, hl with | [_, _], _ => rfl)
  have D8 : DefAt K mg "_law_e_pen" s_law_e_pen ["script"] := defAt_mk X G a8 l8 d8 k8 ((fun_mk (st := s_law_e_pen) l8 d8 k8).binds (ps := ["script"]) fun _ _ _ _ _ _ us hl => match us, hl with | [_], _ => rfl)
  have D9 : DefAt K mg "_law_e_take" s_law_e_take ["pen", "many"] := defAt_mk X G a9 l9 d9 k9 ((fun_mk (st := s_law_e_take) l9 d9 k9).binds (ps := ["pen", "many"]) fun _ _ _ _ _ _ us hl => match us, hl with | [_, _], _ => rfl)
  have D10 : DefAt K mg "_law_e_signs" s_law_e_signs ["pen"] := defAt_mk X G a10 l10 d10 k10 ((fun_mk (st := s_law_e_signs) l10 d10 k10).binds (ps := ["pen"]) fun _ _ _ _ _ _ us hl => match us, hl with | [_], _ => rfl)
  have D11 : DefAt K mg "_law_e_form" s_law_e_form ["pen", "signs", "deep", "around"] := defAt_mk X G a11 l11 d11 k11 ((fun_mk (st := s_law_e_form) l11 d11 k11).binds (ps := ["pen", "signs", "deep", "around"]) fun _ _ _ _ _ _ us hl => match us, hl with | [_, _, _, _], _ => rfl)
  have D12 : DefAt K mg "_law_e_opened" s_law_e_opened ["form"] := defAt_mk X G a12 l12 d12 k12 ((fun_mk (st := s_law_e_opened) l12 d12 k12).binds (ps := ["form"]) fun _ _ _ _ _ _ us hl => match us, hl with | [_], _ => rfl)
  have D13 : DefAt K mg "_law_e_size" s_law_e_size ["form"] := defAt_mk X G a13 l13 d13 k13 ((fun_mk (st := s_law_e_size) l13 d13 k13).binds (ps := ["form"]) fun _ _ _ _ _ _ us hl => match us, hl with | [_], _ => rfl)
  have D14 : DefAt K mg "_law_e_great" s_law_e_great ["pen", "signs"] := defAt_mk X G a14 l14 d14 k14 ((fun_mk (st := s_law_e_great) l14 d14 k14).binds (ps := ["pen", "signs"]) fun _ _ _ _ _ _ us hl => match us, hl with | [_, _], _ => rfl)
  have D15 : DefAt K mg "_law_e_told_opened" s_law_e_told_opened ["form"] := defAt_mk X G a15 l15 d15 k15 ((fun_mk (st := s_law_e_told_opened) l15 d15 k15).binds (ps := ["form"]) fun _ _ _ _ _ _ us hl => match us, hl with | [_], _ => rfl)
  have D16 : DefAt K mg "_law_e_opened_right" s_law_e_opened_right ["form"] := defAt_mk X G a16 l16 d16 k16 ((fun_mk (st := s_law_e_opened_right) l16 d16 k16).binds (ps := ["form"]) fun _ _ _ _ _ _ us hl => match us, hl with | [_], _ => rfl)
  refine ⟨PySem.W.fnOf "law" "law" (defArgs s_law) (defBody s_law) (defScope s_law) .none kV17 dc17 pm17 an17 cd17 ct17, ([] : List (Addr × Addr)), spLaw K , ?_, ?_, ?_, fun s v => .of_eq rfl, ?_, fun base _ _ TB => ?_⟩
  · exact fun p hp => by cases hp
  · exact fun p hp => by cases hp
  · exact fun p hp => by cases hp
  · intro H a ns hl _ hT hS
    exact ⟨a, ns, rfl, hS, hl, fun H' s => ⟨rfl, hT.same s⟩⟩
  have o_parts := ok_parts_of (P := l.prog) (w := w) (base := base) D1
  have o_laid := ok_laid (P := l.prog) (w := w) (base := base) D3 o_parts b_len
  have o_row := ok_row_of (P := l.prog) (w := w) (base := base) D2 b_len b_tuple
  have o_up := ok_up_to (P := l.prog) (w := w) (base := base) D7 b_range
  have o_many := ok_many_opened (P := l.prog) (w := w) (base := base) D5 b_min b_sum m_pc
  have o_op1 := ok__opened D6 o_row o_up b_tuple m_pc
  have o_opened := ok_opened D4 Tm o_laid o_many o_op1 b_len b_range b_reversed m__MOST_PIECES
  have o_pen := ok_law_e_pen (P := l.prog) (w := w) (base := base) D8 b_list
  have o_take := ok_law_e_take (P := l.prog) (w := w) (base := base) D9 b_len
  have o_signs := ok_law_e_signs D10 o_take b_range b_sorted
  have o_form := ok_law_e_form D11 o_take b_len b_range b_tuple 2
  have o_lop := ok_law_e_opened (P := l.prog) (w := w) (base := base) D12 b_len b_range b_tuple 24
  have o_lsz := ok_law_e_size (P := l.prog) (w := w) (base := base) D13 b_int b_range b_sum 24
  have o_great := ok_law_e_great D14 o_take o_form b_max b_min b_range
  have o_told := ok_law_e_told_opened D15 Tm Yw o_opened b_isinstance
  have o_right := ok_law_e_opened_right D16 o_lsz o_lop o_told b_repr b_range
  exact ok_law (fun_mk (st := s_law) l17 d17 k17) o_pen o_signs o_great o_lsz o_right b_range
end Sw
set_option Elab.async false
open PySem PySem.W PyProof.Rows
set_option maxRecDepth 100000 in
set_option maxHeartbeats 0 in
theorem PySem.Challenge.cw_soleway_k77_forms_opened_holds : PySem.Challenge.rw_soleway_k77_forms_opened.Holds := by
  w_on; o_law; k_head; (case hw => w_witness2)
  k_fill
  refine Sw.walk_ofG (l := PySem.Challenge.rw_soleway_k77_forms_opened) (n := 63) (k := 33) (x := "script") rfl (by decide) rfl ⟨rfl, by decide, by decide⟩ (fun w h Y => PySem.W.kIn_of Y) ?F
  case F =>
    intro w mg fa h KX G hmg own
    refine' Sw.all_mk KX G hmg own ?a1 ?l1 ?d1 ?k1 ?a2 ?l2 ?d2 ?k2 ?a3 ?l3 ?d3 ?k3 ?a4 ?l4 ?d4 ?k4 ?a5 ?l5 ?d5 ?k5 ?a6 ?l6 ?d6 ?k6 ?a7 ?l7 ?d7 ?k7 ?a8 ?l8 ?d8 ?k8 ?a9 ?l9 ?d9 ?k9 ?a10 ?l10 ?d10 ?k10 ?a11 ?l11 ?d11 ?k11 ?a12 ?l12 ?d12 ?k12 ?a13 ?l13 ?d13 ?k13 ?a14 ?l14 ?d14 ?k14 ?a15 ?l15 ?d15 ?k15 ?a16 ?l16 ?d16 ?k16 ?a17 ?l17 ?d17 ?k17 ?g__MOST_PIECES ?gpc ?lpc ?lp1 ?lp2 ?lp3 ?w_gC ?w_kl ?v_rm ?w_st ?w_gt ?w_gn ?w_nm ?w_ini ?w_tf ?w_kp ?v_sB ?v_sV ?v_sC ?w_ty ?w_hd ?v_sup ?w_op ?v_xi ?w_noS ?v_ms ?w_fn ?v_cf ?v_ce ?w_W ?w_e1 ?w_e2 ?w_e3 ?w_e4 ?w_e5 ?w_e6 ?v_te ?v_no ?v_va ?v_se ?w_ac ?w_ag ?w_at ?v_ob ?v_cl ?z_len ?z_range ?z_reversed ?z_tuple ?z_list ?z_int ?z_sorted ?z_sum ?z_min ?z_max ?z_isinstance ?z_repr ?z_ValueError
    (case a1 => k_is)
    (case l1 => k_is)
    (case d1 => k_is)
    (case k1 => k_is)
    (case a2 => k_is)
    (case l2 => k_is)
    (case d2 => k_is)
    (case k2 => k_is)
    (case a3 => k_is)
    (case l3 => k_is)
    (case d3 => k_is)
    (case k3 => k_is)
    (case a4 => k_is)
    (case l4 => k_is)
    (case d4 => k_is)
    (case k4 => k_is)
    (case a5 => k_is)
    (case l5 => k_is)
    (case d5 => k_is)
    (case k5 => k_is)
    (case a6 => k_is)
    (case l6 => k_is)
    (case d6 => k_is)
    (case k6 => k_is)
    (case a7 => k_is)
    (case l7 => k_is)
    (case d7 => k_is)
    (case k7 => k_is)
    (case a8 => k_is)
    (case l8 => k_is)
    (case d8 => k_is)
    (case k8 => k_is)
    (case a9 => k_is)
    (case l9 => k_is)
    (case d9 => k_is)
    (case k9 => k_is)
    (case a10 => k_is)
    (case l10 => k_is)
    (case d10 => k_is)
    (case k10 => k_is)
    (case a11 => k_is)
    (case l11 => k_is)
    (case d11 => k_is)
    (case k11 => k_is)
    (case a12 => k_is)
    (case l12 => k_is)
    (case d12 => k_is)
    (case k12 => k_is)
    (case a13 => k_is)
    (case l13 => k_is)
    (case d13 => k_is)
    (case k13 => k_is)
    (case a14 => k_is)
    (case l14 => k_is)
    (case d14 => k_is)
    (case k14 => k_is)
    (case a15 => k_is)
    (case l15 => k_is)
    (case d15 => k_is)
    (case k15 => k_is)
    (case a16 => k_is)
    (case l16 => k_is)
    (case d16 => k_is)
    (case k16 => k_is)
    (case a17 => k_is)
    (case l17 => k_is)
    (case d17 => k_is)
    (case k17 => k_is)
    (case g__MOST_PIECES => k_is)
    (case gpc => k_is)
    (case lpc => k_is)
    (case lp1 => k_is)
    (case lp2 => k_is)
    (case lp3 => k_is)
    (case w_gC => k_is)
    (case w_kl => k_is)
    (case v_rm => first | k_is | kernel_rfl | rfl | decide +kernel)
    (case w_st => k_is)
    (case w_gt => k_is)
    (case w_gn => k_is)
    (case w_nm => k_is)
    (case w_ini => k_is)
    (case w_tf => k_is)
    (case w_kp => k_is)
    (case v_sB => first | k_is | kernel_rfl | rfl | decide +kernel)
    (case v_sV => first | k_is | kernel_rfl | rfl | decide +kernel)
    (case v_sC => first | k_is | kernel_rfl | rfl | decide +kernel)
    (case w_ty => k_is)
    (case w_hd => k_is)
    (case v_sup => first | k_is | kernel_rfl | rfl | decide +kernel)
    (case w_op => k_is)
    (case v_xi => first | k_is | kernel_rfl | rfl | decide +kernel)
    (case w_noS => k_is)
    (case v_ms => first | k_is | kernel_rfl | rfl | decide +kernel)
    (case w_fn => k_is)
    (case v_cf => first | k_is | kernel_rfl | rfl | decide +kernel)
    (case v_ce => first | k_is | kernel_rfl | rfl | decide +kernel)
    (case w_W => k_is)
    (case w_e1 => k_is)
    (case w_e2 => k_is)
    (case w_e3 => k_is)
    (case w_e4 => k_is)
    (case w_e5 => k_is)
    (case w_e6 => k_is)
    (case v_te => first | k_is | kernel_rfl | rfl | decide +kernel)
    (case v_no => first | k_is | kernel_rfl | rfl | decide +kernel)
    (case v_va => first | k_is | kernel_rfl | rfl | decide +kernel)
    (case v_se => first | k_is | kernel_rfl | rfl | decide +kernel)
    (case w_ac => k_is)
    (case w_ag => k_is)
    (case w_at => k_is)
    (case v_ob => first | k_is | kernel_rfl | rfl | decide +kernel)
    (case v_cl => first | k_is | kernel_rfl | rfl | decide +kernel)
    (case z_len => k_is)
    (case z_range => k_is)
    (case z_reversed => k_is)
    (case z_tuple => k_is)
    (case z_list => k_is)
    (case z_int => k_is)
    (case z_sorted => k_is)
    (case z_sum => k_is)
    (case z_min => k_is)
    (case z_max => k_is)
    (case z_isinstance => k_is)
    (case z_repr => k_is)
    (case z_ValueError => k_is)
