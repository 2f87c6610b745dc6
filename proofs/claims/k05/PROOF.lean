import PyProof.Rows.All
import Wide.All
import OpenK.AllK
import Wide.FinOn
import HandS.ForMost
import HandS.TupAny
import HandS.TupMul
import HandS.RevRange
import HandS.Wide
import HandS.Style
import HandS.Flow
import HandS.AnyAll
import HandS.GenList
import HandS.Nested
import HandS.EndTab
import HandS.SetKeys
import HandS.Set
import HandS.Strs
import HandS.SetBool
import HandS.SetFor
import HandS.IsInst
import HandS.Text
import HandS.SortKw
import KE.DataMinMax
import KE.GoesMore
import HandS.Deep
import HandS.SortOrd
import HandS.SortRule
import HandS.More
import HandS.FStr
import HandS.Zip
import KE.KDictZip
import KE.KTurns
import PySem.Challenge.RW_soleway_k05_forms_written_and_read
set_option Elab.async false
set_option maxRecDepth 100000
set_option maxHeartbeats 4000000
namespace Sw
open PySem L2 PySem.Spec PyProof.Rows

/-! ### defs of the top -/
section
variable {P : Program} {w : World} {K : PySem.W.Frag} {mg : Str → Option Value} {base : Heap}
/-- a def of the top: it stands under its name, takes its arguments by place -/
structure DefAt (K : PySem.W.Frag) (mg : Str → Option Value) (x : Str) (st : Stmt) (ps : List Str) : Prop where
  ex : ∃ f fd, Fun K x x st f fd ∧ mg x = some (.ref f) ∧ Binds K fd ps []
/-- .. and keeps a promise -/
structure DefOk (P : Program) (w : World) (K : PySem.W.Frag) (mg : Str → Option Value) (base : Heap) (x : Str) (k : Nat) (ps : List Str) (sp : Sp) : Prop where
  ex : ∃ f fd, FnOk P w K mg base CX0 k f fd ps sp ∧ mg x = some (.ref f) ∧ PySem.W.keepIn K (.ref f) = true ∧ Binds K fd ps []
theorem DefOk.mono {x : Str} {j k : Nat} {ps : List Str} {sp : Sp} (F : DefOk P w K mg base x j ps sp) (h : j ≤ k) : DefOk P w K mg base x k ps sp := by
  obtain ⟨f, fd, a, b, c, d⟩ := F.ex
  exact ⟨f, fd, a.mono h, b, c, d⟩
theorem DefOk.imp {x : Str} {k : Nat} {ps : List Str} {sp sp' : Sp} (F : DefOk P w K mg base x k ps sp) (h : ∀ vs H Q E, sp' vs H Q E → sp vs H Q E) : DefOk P w K mg base x k ps sp' := by
  obtain ⟨f, fd, a, b, c, d⟩ := F.ex
  exact ⟨f, fd, a.imp h, b, c, d⟩
theorem DefAt.ok {x : Str} {st : Stmt} {N ps : List Str} {k : Nat} {sp : Sp} (F : DefAt K mg x st ps) (S : FnScope N ps (defScope st)) (len : ∀ vs H Q E, sp vs H Q E → vs.length = ps.length)
    (hbody : ∀ (f : Addr) (cdv : Value) (A : Around) (outer : List Env) (s : Shared) (H : Hp) (vs : List V) (Q : VK) (E : XK), Room k (A.deeper (envOfC x (defScope st) s.heap.objs.size f cdv)) → sp vs H Q E →
      ∃ t, PSs (cxOf CX0 P w K mg base N x (defScope st) f cdv A outer s H E).nox (defBody st) t ∧ t { nx := fun _ H' => Q .non H', rt := Q } (start N vs) H) : DefOk P w K mg base x (k + 1) ps sp := by
  obtain ⟨f, fd, h1, h2, h3⟩ := F.ex
  exact ⟨f, fd, h1.ok S len (fun cdv A outer s H vs Q E hr hs => hbody f cdv A outer s H vs Q E hr hs), h2, h1.kp, h3⟩
end
section
variable {X : Cx} {x : Str} {k : Nat} {ps : List Str} {sp : Sp} {e : Expr} {es : List Expr} {t : TA} {p pos : Pos}
theorem pe_callD (F : DefOk X.prog X.w X.K X.mg X.base x k ps sp) (hr : Room k X.A) (hg : Gl X x) (ha : PA X (e :: es) t) (hx : Passes CX0 X E0 := by exact pass0) (hdb : (x == ("__debug__" : Str)) = false := by decide)
    (he : starEach (e :: es) X.env = (false, eval e X.env) :: starEach es X.env := by rfl) (hpl : (backTo pos (starEach es X.env)).any (·.1) = false := by rfl) : PE X (.Call (.Name x p) (e :: es) [] pos) (tCall sp [] E0 t) := by
  obtain ⟨f, fd, a, b, c, d⟩ := F.ex
  exact pe_call a hr hg b c d .nil hx ha hdb he hpl
end

/-! ### heaps -/
theorem _root_.L2.Same.new {H : Hp} {p : Addr} {o : HO} (h : H p = none) : Same H (upd H p o) := fun b u q => by rw [upd_ne (ne_of_none q h)]; exact q
/-- what was not there may be written again -/
theorem _root_.L2.Same.mut {H H' : Hp} {p : Addr} {o : HO} (e : Same H H') (h : H p = none) : Same H (upd H' p o) := fun a u ha => by
  rw [upd_ne (ne_of_none ha h)]
  exact e a u ha
theorem _root_.L2.Same.rd {H H' : Hp} {a : Addr} {u : HO} (e : Same H H') (h : Rd H a u) : Rd H' a u := by
  rcases h with h | ⟨o, h⟩
  · exact Or.inl (e a _ h)
  · exact Or.inr ⟨o, e a _ h⟩
theorem _root_.L2.Same.sqT {K : PySem.W.Frag} {H H' : Hp} {a : Addr} {xs : List V} (e : Same H H') (h : SqT K H a xs) : SqT K H' a xs := by
  rcases h with h | h
  · exact Or.inl (e.rd h)
  · exact Or.inr h
theorem sT {K : PySem.W.Frag} {H : Hp} {a : Addr} {xs : List V} (h : H a = some (.tup xs)) : SqT K H a xs := Or.inl (Or.inl h)
theorem sL {K : PySem.W.Frag} {H : Hp} {a : Addr} {xs : List V} (h : H a = some (.lst xs)) : SqL K H a xs := Or.inl (Or.inl h)
/-- all but the object at p is as it was -/
def But (p : Addr) (H H' : Hp) : Prop := ∀ b o, H b = some o → b ≠ p → H' b = some o
theorem But.of {p : Addr} {H H' : Hp} (h : Same H H') : But p H H' := fun b o e _ => h b o e
theorem But.trans {p : Addr} {H H1 H2 : Hp} (a : But p H H1) (b : But p H1 H2) : But p H H2 := fun c o e n => b c o (a c o e n) n
theorem But.refl {p : Addr} {H : Hp} : But p H H := fun _ _ e _ => e
theorem But.upd {p : Addr} {H H' : Hp} {o : HO} (a : But p H H') : But p H (upd H' p o) := fun b u e n => by rw [upd_ne n]; exact a b u e n
theorem But.same {p : Addr} {H H' : Hp} (a : But p H H') (h : H p = none) : Same H H' := fun b o e => a b o e (ne_of_none e h)
theorem But.free {p q : Addr} {H H' : Hp} (a : But p H H') (h : H' q = none) (n : q ≠ p) : H q = none := by
  cases e : H q with
  | none => rfl
  | some o =>
    rw [a q o e n] at h
    cases h

/-! ### data in the heap -/
mutual
theorem dpSame {K : PySem.W.Frag} {H H' : Hp} (s : ∀ a u, (∃ xs, u = HO.lst xs ∨ u = HO.tup xs) → Rd H a u → Rd H' a u) : ∀ (d : PyData) (v : V), Dp K H v d → Dp K H' v d
  | .none, _, h => by cases h; exact .non
  | .bool b, _, h => by cases h; exact .bl b
  | .int i, _, h => by cases h; exact .int i
  | .str x, _, h => by cases h; exact .str x
  | .list ds, _, h => by
    cases h with
    | lst h1 h2 =>
      refine .lst ?_ (dpAllSame s ds _ h2)
      rcases h1 with h1 | h1
      · exact .inl (s _ _ ⟨_, .inl rfl⟩ h1)
      · exact .inr h1
  | .tuple ds, _, h => by
    cases h with
    | tup h1 h2 =>
      refine .tup ?_ (dpAllSame s ds _ h2)
      rcases h1 with h1 | h1
      · exact .inl (s _ _ ⟨_, .inr rfl⟩ h1)
      · exact .inr h1
  | .dict _, _, h => by cases h
theorem dpAllSame {K : PySem.W.Frag} {H H' : Hp} (s : ∀ a u, (∃ xs, u = HO.lst xs ∨ u = HO.tup xs) → Rd H a u → Rd H' a u) : ∀ (ds : List PyData) (vs : List V), DpAll K H vs ds → DpAll K H' vs ds
  | [], _, h => by cases h; exact .nil
  | d :: ds, _, h => by
    cases h with
    | cons h1 h2 => exact .cons (dpSame s d _ h1) (dpAllSame s ds _ h2)
end
theorem dpS {K : PySem.W.Frag} {H H' : Hp} (s : Same H H') {d : PyData} {v : V} (h : Dp K H v d) : Dp K H' v d := dpSame (fun _ _ _ r => s.rd r) d v h
theorem dpsS {K : PySem.W.Frag} {H H' : Hp} (s : Same H H') {ds : List PyData} {vs : List V} (h : DpAll K H vs ds) : DpAll K H' vs ds := dpAllSame (fun _ _ _ r => s.rd r) ds vs h
/-- a thing that is no list and no tuple may change -/
theorem dpB {K : PySem.W.Frag} {H H' : Hp} {p : Addr} (s : But p H H') (hp : ∀ u, Rd H p u → ∀ xs, u ≠ .lst xs ∧ u ≠ .tup xs) {d : PyData} {v : V} (h : Dp K H v d) : Dp K H' v d := by
  refine dpSame (fun a u hu r => ?_) d v h
  obtain ⟨xs, hu⟩ := hu
  have n : a ≠ p := by
    rintro rfl
    have := hp u r xs
    rcases hu with e | e
    · exact this.1 e
    · exact this.2 e
  rcases r with r | ⟨o, r⟩
  · exact .inl (s _ _ r n)
  · exact .inr ⟨o, s _ _ r n⟩
theorem dpsLen {K : PySem.W.Frag} {H : Hp} : ∀ {vs : List V} {ds : List PyData}, DpAll K H vs ds → vs.length = ds.length
  | [], _, h => by cases h; rfl
  | _ :: _, _, h => by cases h with | cons _ t => simp [dpsLen t]
theorem dpsAt {K : PySem.W.Frag} {H : Hp} : ∀ {vs : List V} {ds : List PyData} {i : Nat} {d : PyData}, DpAll K H vs ds → ds[i]? = some d → ∃ v, vs[i]? = some v ∧ Dp K H v d
  | [], _, i, d, h, e => by cases h; simp at e
  | v :: vs, _, i, d, h, e => by
    cases h with
    | cons h1 h2 =>
      cases i with
      | zero => simp at e; subst e; exact ⟨v, rfl, h1⟩
      | succ i => simp at e; obtain ⟨u, e1, e2⟩ := dpsAt h2 e; exact ⟨u, by simpa using e1, e2⟩
theorem dpsAtV {K : PySem.W.Frag} {H : Hp} : ∀ {vs : List V} {ds : List PyData} {i : Nat} {v : V}, DpAll K H vs ds → vs[i]? = some v → ∃ d, ds[i]? = some d ∧ Dp K H v d
  | [], _, i, v, h, e => by simp at e
  | v :: vs, _, i, u, h, e => by
    cases h with
    | cons h1 h2 =>
      cases i with
      | zero => simp at e; subst e; exact ⟨_, rfl, h1⟩
      | succ i => simp at e; obtain ⟨u, e1, e2⟩ := dpsAtV h2 e; exact ⟨u, by simpa using e1, e2⟩
theorem dpsApp {K : PySem.W.Frag} {H : Hp} : ∀ {vs us : List V} {ds es : List PyData}, DpAll K H vs ds → DpAll K H us es → DpAll K H (vs ++ us) (ds ++ es)
  | [], _, _, _, h, g => by cases h; exact g
  | _ :: _, _, _, _, h, g => by cases h with | cons h1 h2 => exact .cons h1 (dpsApp h2 g)
/-- a tuple's data by its items -/
theorem dpTup {K : PySem.W.Frag} {H : Hp} {v : V} {ds : List PyData} (h : Dp K H v (.tuple ds)) : ∃ a xs, v = .ref a ∧ SqT K H a xs ∧ DpAll K H xs ds := by
  cases h with
  | tup h1 h2 => exact ⟨_, _, rfl, h1, h2⟩
theorem dpLst {K : PySem.W.Frag} {H : Hp} {v : V} {ds : List PyData} (h : Dp K H v (.list ds)) : ∃ a xs, v = .ref a ∧ SqL K H a xs ∧ DpAll K H xs ds := by
  cases h with
  | lst h1 h2 => exact ⟨_, _, rfl, h1, h2⟩
theorem dpStr {K : PySem.W.Frag} {H : Hp} {v : V} {x : Str} (h : Dp K H v (.str x)) : v = .str x := by cases h; rfl
theorem dpInt {K : PySem.W.Frag} {H : Hp} {v : V} {x : Int} (h : Dp K H v (.int x)) : v = .int x := by cases h; rfl
theorem dpNone {K : PySem.W.Frag} {H : Hp} {v : V} (h : Dp K H v .none) : v = .non := by cases h; rfl
theorem dpNil {K : PySem.W.Frag} {H : Hp} {vs : List V} (h : DpAll K H vs []) : vs = [] := by cases h; rfl
theorem dpCons {K : PySem.W.Frag} {H : Hp} {vs : List V} {d : PyData} {ds : List PyData} (h : DpAll K H vs (d :: ds)) : ∃ v us, vs = v :: us ∧ Dp K H v d ∧ DpAll K H us ds := by
  cases h with
  | cons h1 h2 => exact ⟨_, _, rfl, h1, h2⟩

/-! ### forms -/
inductive Fm where
  | sign (s : Str)
  | row (ps : List Fm)
  | pick (ps : List Fm)
  | times (p : Fm) (low : Nat) (high : Option Nat)
def highD : Option Nat → PyData
  | none => .none
  | some h => .int h
def highV : Option Nat → V
  | none => .non
  | some h => .int h
theorem dpHigh {K : PySem.W.Frag} {H : Hp} {v : V} {o : Option Nat} (h : Dp K H v (highD o)) : v = highV o := by
  cases o with
  | none => exact dpNone h
  | some n => exact dpInt h
theorem highDp {K : PySem.W.Frag} {H : Hp} (o : Option Nat) : Dp K H (highV o) (highD o) := by
  cases o with
  | none => exact .non
  | some n => exact .int _
mutual
def Fm.dat : Fm → PyData
  | .sign s => .tuple [.str "sign", .str s]
  | .row ps => .tuple [.str "row", .tuple (Fm.dats ps)]
  | .pick ps => .tuple [.str "pick", .tuple (Fm.dats ps)]
  | .times p low high => .tuple [.str "times", p.dat, .int low, highD high]
def Fm.dats : List Fm → List PyData
  | [] => []
  | p :: ps => p.dat :: Fm.dats ps
end
theorem Fm.dats_map : ∀ ps : List Fm, Fm.dats ps = ps.map Fm.dat
  | [] => rfl
  | p :: ps => by rw [Fm.dats, Fm.dats_map ps, List.map_cons]
def Fm.kind : Fm → Str
  | .sign _ => "sign"
  | .row _ => "row"
  | .pick _ => "pick"
  | .times _ _ _ => "times"
def Fm.parts : Fm → List Fm
  | .sign _ => []
  | .row ps => ps
  | .pick ps => ps
  | .times p _ _ => [p]
abbrev FmAt (K : PySem.W.Frag) (H : Hp) (v : V) (f : Fm) : Prop := Dp K H v f.dat
abbrev FmsAt (K : PySem.W.Frag) (H : Hp) (vs : List V) (fs : List Fm) : Prop := DpAll K H vs (Fm.dats fs)
/-- every form is a tuple that begins with its kind -/
theorem fmTup {K : PySem.W.Frag} {H : Hp} {v : V} {f : Fm} (h : FmAt K H v f) : ∃ a xs, v = .ref a ∧ SqT K H a (.str f.kind :: xs) := by
  cases f with
  | sign s => obtain ⟨a, xs, rfl, h1, h2⟩ := dpTup h; obtain ⟨v, us, rfl, e, _⟩ := dpCons h2; cases dpStr e; exact ⟨a, us, rfl, h1⟩
  | row s => obtain ⟨a, xs, rfl, h1, h2⟩ := dpTup h; obtain ⟨v, us, rfl, e, _⟩ := dpCons h2; cases dpStr e; exact ⟨a, us, rfl, h1⟩
  | pick s => obtain ⟨a, xs, rfl, h1, h2⟩ := dpTup h; obtain ⟨v, us, rfl, e, _⟩ := dpCons h2; cases dpStr e; exact ⟨a, us, rfl, h1⟩
  | times s l u => obtain ⟨a, xs, rfl, h1, h2⟩ := dpTup h; obtain ⟨v, us, rfl, e, _⟩ := dpCons h2; cases dpStr e; exact ⟨a, us, rfl, h1⟩
theorem fmSign {K : PySem.W.Frag} {H : Hp} {v : V} {s : Str} (h : FmAt K H v (.sign s)) : ∃ a, v = .ref a ∧ SqT K H a [.str "sign", .str s] := by
  obtain ⟨a, xs, rfl, h1, h2⟩ := dpTup h; obtain ⟨v, us, rfl, e, h3⟩ := dpCons h2; cases dpStr e
  obtain ⟨v, us, rfl, e, h4⟩ := dpCons h3; cases dpStr e; cases dpNil h4; exact ⟨a, rfl, h1⟩
theorem fmRow {K : PySem.W.Frag} {H : Hp} {v : V} {ps : List Fm} (h : FmAt K H v (.row ps)) : ∃ a b vs, v = .ref a ∧ SqT K H a [.str "row", .ref b] ∧ SqT K H b vs ∧ FmsAt K H vs ps := by
  obtain ⟨a, xs, rfl, h1, h2⟩ := dpTup h; obtain ⟨v, us, rfl, e, h3⟩ := dpCons h2; cases dpStr e
  obtain ⟨v, us, rfl, e, h4⟩ := dpCons h3; obtain ⟨b, vs, rfl, h5, h6⟩ := dpTup e; cases dpNil h4; exact ⟨a, b, vs, rfl, h1, h5, h6⟩
theorem fmPick {K : PySem.W.Frag} {H : Hp} {v : V} {ps : List Fm} (h : FmAt K H v (.pick ps)) : ∃ a b vs, v = .ref a ∧ SqT K H a [.str "pick", .ref b] ∧ SqT K H b vs ∧ FmsAt K H vs ps := by
  obtain ⟨a, xs, rfl, h1, h2⟩ := dpTup h; obtain ⟨v, us, rfl, e, h3⟩ := dpCons h2; cases dpStr e
  obtain ⟨v, us, rfl, e, h4⟩ := dpCons h3; obtain ⟨b, vs, rfl, h5, h6⟩ := dpTup e; cases dpNil h4; exact ⟨a, b, vs, rfl, h1, h5, h6⟩
theorem fmTimes {K : PySem.W.Frag} {H : Hp} {v : V} {p : Fm} {low : Nat} {high : Option Nat} (h : FmAt K H v (.times p low high)) : ∃ a u, v = .ref a ∧ SqT K H a [.str "times", u, .int low, highV high] ∧ FmAt K H u p := by
  obtain ⟨a, xs, rfl, h1, h2⟩ := dpTup h; obtain ⟨v, us, rfl, e, h3⟩ := dpCons h2; cases dpStr e
  obtain ⟨u, us, rfl, e, h4⟩ := dpCons h3
  obtain ⟨v, us, rfl, e2, h5⟩ := dpCons h4; cases dpInt e2
  obtain ⟨v, us, rfl, e3, h6⟩ := dpCons h5; cases dpHigh e3; cases dpNil h6
  exact ⟨a, u, rfl, h1, e⟩
end Sw
set_option Elab.async false
set_option maxRecDepth 100000
set_option maxHeartbeats 4000000
namespace Sw
open PySem L2 PySem.Spec PyProof.Rows GenW
/-! ### any, all of a generator expression, its element of any kind -/
/-- a code object's table: it may grow -/
def TabE (P : Addr) : HO := .ext fun h => ∃ ps : Array Value, h.get? P = some { cls := .none, data := .fields ps } ∧ TriplesOk ps.toList
section
variable {X : Cx} {pins : List (Addr × Obj)} {σ : L2.St} {H : Hp} {s : Shared}
theorem tabE_ok {P : Program} {w : World} {h : Heap} {a : Addr} {ps : Array Value} (e : h.get? a = some { cls := .none, data := .fields ps }) (t : TriplesOk ps.toList) : ObjOk P w H h a (TabE a) :=
  ⟨⟨ps, e, t⟩, ⟨_, e⟩, fun _ _ ⟨ps, q, t⟩ k => ⟨ps, k _ q, t⟩⟩
theorem inv_tabE {P : Addr} {ps' : Array Value} {h' : Heap} {tk : Nat} (I : Inv X pins σ H s) (hP : H P = some (TabE P)) (k : ∀ b o, b ≠ P → s.heap.get? b = some o → h'.get? b = some o)
    (hm : h'.get? P = some { cls := .none, data := .fields ps' }) (ht : TriplesOk ps'.toList) : Inv X pins σ H { s with heap := h', toks := tk } := by
  have nN : ∀ b, H b = none → b ≠ P := fun b e z => by
    rw [z, hP] at e
    cases e
  have nO : ∀ b x, H b = some (.own x) → b ≠ P := fun b x e z => by
    rw [z, hP] at e
    cases e
  refine I.step (g' := s.gens) (d' := s.drawn) (ch := []) (fun b hb => absurd hb (by simp)) (fun b o _ _ _ e n => k b o (nN b n) e) (fun b o _ _ _ e n => ⟨o.slots, k b o (nN b n) e⟩) (fun _ _ _ _ n => n) (fun b o _ e => ?_)
    (fun _ _ e => e) (fun _ _ _ e => e) (fun b ps e => ⟨#[], by rw [e]; simp⟩) (fun m hn => ?_) (fun b u e => ?_) I.bare
  · by_cases hb : b = P
    · rw [hb]
      exact ⟨_, hm⟩
    · exact ⟨o, k b o hb e⟩
  · obtain ⟨ob, es, ep, ho, r⟩ := hn
    exact ⟨ob, es, ep, k _ ob (nN _ I.free) ho, r⟩
  · by_cases hb2 : b = P
    · subst hb2
      rw [hP] at e
      cases e
      exact tabE_ok hm ht
    · refine (I.hok b u e).stay (fun d v hd q => k d v ?_ q) (fun _ q => q) fun _ _ q => q
      rcases hd with z | z
      · rw [z]
        exact hb2
      · exact nO d _ z
theorem gen_code {M : Model} {A : Around} {E : Value → Shared → Prop} {c P : Addr} {gpos : Pos} {qual : Str} {scope : Scope} {Q : Value → Shared → Prop} (I : Inv X pins σ H s) (TB : GxR.TabB X.base X.mg c P) (hcode : X.env.code = .ref c) (hP : H P = some (TabE P))
    (hQ : ∀ code h' tk, Inv X pins σ H { s with heap := h', toks := tk } → (∀ b o, b ≠ P → s.heap.get? b = some o → h'.get? b = some o) → s.heap.objs.size ≤ h'.objs.size → Q code { s with heap := h', toks := tk }) :
    wpAny M A (genexprCode X.env gpos qual scope) Q E s := by
  obtain ⟨⟨ps, e, ht⟩, _⟩ := I.hok P _ hP
  have cd : PySem.W.CodeHd s.heap c P := TB.code.keeps fun b u e => I.bk b u e
  cases hf : codeAmong gpos ps.toList with
  | none =>
    refine wpAny_genexprCodeX hcode (cd.code e ht) (cd.tab e) hf fun c' h' tk hx hge hlt hco' _ htab' _ => ?_
    obtain ⟨o1, vs, f1, tf, fl, tg, inF, tx, tt, op, _, _, _, _, _, _, _, _, _, htr, _⟩ := hco'
    exact hQ _ h' tk (inv_tabE I hP hx htab'.2 htr) hx (Nat.le_trans hge (Nat.le_of_lt hlt))
  | some cv =>
    refine wpAny_genexprCode_hit hcode (cd.code e ht) hf ?_
    exact hQ cv s.heap s.toks I (fun _ _ _ q => q) (Nat.le_refl _)
/-! ### the frame -/
abbrev genv (X : Cx) (scope : Scope) (C : Addr) (code : Value) : Env := genEnv scope (cloFrom X.env.cells scope.names []) C code builtinsNs X.env
abbrev _root_.L2.Cx.gen (X : Cx) (s : Shared) (H : Hp) (scope : Scope) (C : Addr) (code : Value) (A' : Around) (fp : List Addr) (pn : List (Addr × Obj)) : Cx :=
  { X with A := A', s_0 := s, H_0 := H, env := genv X scope C code, outer := X.stack, stack := genv X scope C code :: X.stack, ex := fp, fn := fun _ => false, calm := true, pn := pn, xe := fun _ _ => False }
structure GenSc (scope : Scope) : Prop where
  co : (scope.isCoroutine : Bool) = false
  cell : ∀ nk ∈ scope.names, nk.2 ≠ NameKind.cell
  dot : scope.names.lookup (".0" : Str) = some (.local : NameKind)
theorem gen_start {scope : Scope} {own : List (Str × Nat)} {fp : List Addr} {pn : List (Addr × Obj)} {C : Addr} {code : Value} {A' : Around} {s' : Shared} {m : Str → Option Value} (I : Inv X pins σ H s) (ok : BlkOk X.N X.env.scope scope own) (G : GenSc scope) (hN : X.N.Nodup)
    (hfp : ∀ b ∈ fp, FpOk X pins H b ∧ b < s.heap.objs.size) (hC : s.heap.objs.size ≤ C) (hA : A'.handled = none) (hF : A'.frames = some (genv X scope C code :: X.stack))
    (hos : s'.os = s.os) (hb : AllBare s'.gens) (k : ∀ b o, s.heap.get? b = some o → s'.heap.get? b = some o) (hn : s'.heap.Ns C m)
    (hpn : ∀ p ∈ pn, s'.heap.get? p.1 = some p.2 ∧ s.heap.objs.size ≤ p.1 ∧ p.1 ≠ C ∧ ∀ v, p.2.data ≠ .cell v) :
    Inv (X.gen s H scope C code A' fp pn) [] (wipe σ (own.map (·.2))) H s' := by
  have hCap : ∀ y ∈ scope.names, y.2 = .free → ∃ c, X.env.cells.lookup y.1 = some c := fun y hy e => by
    rcases ok.free y hy e with k | k
    · exact I.ok.has _ (.inl k)
    · exact I.ok.has _ (.inr k)
  have cm : ∀ {y c}, (cloFrom X.env.cells scope.names []).lookup y = some c → X.env.cells.lookup y = some c := fun {y c} e => NdefX.clo_cm hCap e
  have clt : ∀ {y c}, X.env.cells.lookup y = some c → c < s.heap.objs.size := fun {y c} e => by
    obtain ⟨w, z⟩ := I.cell _ _ e
    exact z.lt
  have okG : (X.gen s H scope C code A' fp pn).Ok := by
    refine ⟨I.ok.mod, ok.kind, I.ok.glob, rfl, hC, fun y z c e1 e2 => I.ok.inj y z c (cm e1) (cm e2), fun y hy => ?_, fun y c z => (by cases z), fun _ => hA, hF, .inr ⟨rfl, rfl⟩, fun b hb => ⟨?_, fun y c e z => ?_⟩, I.bs, Nat.le_trans I.ok.bsz I.sz, fun b o e hb => ?_, fun b hb z => ?_, I.stack, I.stkFree⟩
    · have hy : scope.names.lookup y = some .cell ∨ scope.names.lookup y = some .free := hy
      rcases hy with hy | hy
      · exact absurd rfl (G.cell _ (PySem.mem_of_lookup hy))
      · obtain ⟨c, hc⟩ := hCap _ (PySem.mem_of_lookup hy) rfl
        exact ⟨c, NdefX.clo_has hCap (PySem.mem_of_lookup hy) hc⟩
    · exact Nat.ne_of_lt (Nat.lt_of_lt_of_le (hfp b hb).2 hC)
    · exact (hfp b hb).1.2.2.2.2.1 y c (cm e) z
    · rcases (hfp b hb).1.2.2.2.1 with z | z
      · exact I.ok.noex b o e z
      · exact absurd (Nat.lt_of_lt_of_le (Heap.lt_size e) (Nat.le_trans I.ok.bsz z)) (Nat.lt_irrefl _)
    · rcases List.mem_cons.mp (I.stkSub b z) with z | z
      · exact (hfp b hb).1.2.1 z
      · exact (hfp b hb).1.2.2.1 z
  refine ⟨okG, hos, hb, Un.kept k, ⟨m, hn, fun i y av e1 e2 e3 => ?_⟩, fun y c e => ?_, I.hok.fresh hC, fun y c e => I.freeC y c (cm e), fun p hp => ?_, I.hok.kept k, by rw [wipe_length]; exact I.len⟩
  · obtain ⟨e2, hne⟩ := wipe_some e2
    have no : ∀ kd, scope.names.lookup y = some kd → ¬ (kd = .local ∨ kd = .cell) := fun kd e hh => by
      rcases ok.own _ (PySem.mem_of_lookup e) hh with e' | e'
      · obtain ⟨p, hp, hpy⟩ := List.mem_map.mp e'
        have e3 := ok.ix p hp
        have : p.1 = y := hpy
        rw [this] at e3
        exact hne (List.mem_map.mpr ⟨p, hp, nodup_ix hN e3 e1⟩)
      · exact e' (List.mem_of_getElem? e1)
    have e3 : Vis scope y := e3
    have hfr : scope.names.lookup y = some .free := by
      rcases e3 with e3 | e3 | e3
      · exact absurd (.inl rfl) (no _ e3)
      · exact absurd (.inr rfl) (no _ e3)
      · exact e3
    obtain ⟨m0, hn0, hl⟩ := I.loc
    have hsc := ok.free _ (PySem.mem_of_lookup hfr) rfl
    have hVs : Vis X.env.scope y := hsc.elim (fun k => .inr (.inl k)) (fun k => .inr (.inr k))
    obtain ⟨w, r, q⟩ := hl i y av e1 e2 hVs
    refine ⟨w, r, .inr ⟨.inr hfr, ?_⟩⟩
    rcases q with ⟨kk, _⟩ | ⟨_, c', e', z⟩
    · have kk : X.env.scope.names.lookup y = some .local := kk
      rcases hsc with k1 | k1 <;> rw [show X.env.scope.names.lookup y = _ from k1] at kk <;> cases kk
    · exact ⟨c', NdefX.clo_has hCap (PySem.mem_of_lookup hfr) e', z.keeps k⟩
  · obtain ⟨w, z⟩ := I.cell y c (cm e)
    exact ⟨w, z.keeps k⟩
  · have hp : p ∈ pn := by simpa using hp
    obtain ⟨h1, h2, h3, h4⟩ := hpn p hp
    refine ⟨h1, I.hok.fresh h2, h3, fun z => ?_, h4⟩
    rcases List.mem_cons.mp (I.stkSub p.1 z) with z | z
    · exact absurd I.lt (by rw [← z]; exact Nat.not_lt.mpr h2)
    · exact I.nofs h2 z
end
end Sw
set_option Elab.async false
set_option maxRecDepth 100000
set_option maxHeartbeats 4000000
namespace Sw
open PySem L2 PySem.Spec PyProof.Rows GenW
/-! ### the generator's turns -/
/-- behind what the consumer does meanwhile: all objects stand, generators and tokens may have changed -/
theorem inv_later {X : Cx} {pins : List (Addr × Obj)} {σ : L2.St} {H : Hp} {s s' : Shared} (I : Inv X pins σ H s) (k : ∀ b o, s.heap.get? b = some o → s'.heap.get? b = some o) (hos : s'.os = s.os) (hb : AllBare s'.gens) : Inv X pins σ H s' :=
  I.call' (ch := []) hos (Un.kept k) (I.hok.kept k) hb fun b hb => absurd hb (by simp)
section
variable {X : Cx} {tg elt iter : Expr} {scope : Scope} {pos : Pos} {it : Addr}
abbrev genC (tg elt iter : Expr) (scope : Scope) (pos : Pos) (it : Addr) (env : Env) : Code := .compLoop (.GeneratorExp elt [⟨tg, iter, [], 0⟩] scope pos) 0 (.ref it) .none env
abbrev genS (tg elt iter : Expr) (scope : Scope) (pos : Pos) (it : Addr) (env : Env) : Code := .compStart (.GeneratorExp elt [⟨tg, iter, [], 0⟩] scope pos) 0 (.ref it) .none env
/-- at its end -/
def RG (X : Cx) (QT : Hp → Prop) : Nat → Shared → Shared → Prop := fun _ _ s₁ => ∃ σc H, Inv X [] σc H s₁ ∧ QT H
/-- a truth is handed out; if it is go, it may be asked on -/
def YG (X : Cx) (go : Bool) (QF : Hp → Prop) : Protocol := fun _ _ v s kap => ∃ b σc H, v = .bool b ∧ Inv X [] σc H s ∧ (b = !go → QF H) ∧
  (b = go → ∀ s'', (∀ b o, s.heap.get? b = some o → s''.heap.get? b = some o) → s''.os = s.os → AllBare s''.gens → kap (.send .none) s'')
/-- what a generator expression's walk asks: go the truth by which its consumer goes on -/
def GWalk (go : Bool) (J : It) (g : TG) (te : TE) (σ0 : L2.St) (vs : List Nat) (QT QF : Hp → Prop) (W : Nat → Nat → Hp → Prop) : Prop := ∀ i m H, W i m H →
  (J.stop i H ∧ QT H) ∨ (J.go i H ∧ ∃ Nx : Hp → Prop, (∀ H', Nx H' → ∃ m', m' < m ∧ W (i + 1) m' H') ∧ ∀ x H', J.yld i H x H' → g x σ0 H' fun σ2 H2 => wipe σ2 vs = σ0 ∧ te σ2 H2 fun y H3 => ∃ b, y = .bl b ∧ if b = go then Nx H3 else QF H3)
theorem seg_turns {A : Around} {fp : List Addr} {tn : Nat → Heap → Prop} {J : It} {g : TG} {te : TE} {go : Bool} {σ0 : L2.St} {vs : List Nat} {QT QF : Hp → Prop} {W : Nat → Nat → Hp → Prop}
    (hA : A.over (genC tg elt iter scope pos it X.env) [] = X.A) (hc : X.calm = true) (hx : X.xe = fun _ _ => False) (hco : X.env.scope.isCoroutine = false) (hex : ∀ b ∈ fp, b ∈ X.ex ∧ b ≠ X.env.locals ∧ b ∉ X.fs ∧ (∀ x c, X.env.cells.lookup x = some c → c ≠ b) ∧ ∀ p ∈ X.pn, p.1 ≠ b)
    (T : Turn X.prog X.w X.K tg J fp it tn) (hg : PG X tg g) (he : PE X elt te) (hw : ∀ σ : L2.St, wipe (wipe σ vs) vs = wipe σ vs) (turn : GWalk go J g te σ0 vs QT QF W) :
    ∀ (n m i : Nat) (σc : L2.St) (H : Hp) (s₀ s : Shared), m < n → W i m H → Inv X [] σc H s → wipe σc vs = σ0 → tn i s.heap → (∀ b ∈ fp, H b = none) →
      Seg (model X.prog X.w) A (fun n s₀ r s₁ => r = .ok .next ∧ RG X QT n s₀ s₁) (YG X go QF) n s₀ (genC tg elt iter scope pos it X.env) ((model X.prog X.w).den (genC tg elt iter scope pos it X.env)) [] s := by
  intro n
  induction n with
  | zero => intro m i σc H s₀ s h; exact absurd h (Nat.not_lt_zero _)
  | succ n ih =>
    intro m i σc H s₀ s hm w0 I hσ st fr
    have stat : ∀ {H' : Hp}, (∀ b ∈ fp, H' b = none) → ∀ b ∈ fp, FpOk X [] H' b := fun {H'} hn b hb => by
      obtain ⟨h1, h2, h3, h4, h5⟩ := hex b hb
      exact ⟨hn b hb, h2, h3, .inl h1, h4, fun p hp => h5 p (by simpa using hp)⟩
    have I0 : Inv X [] σ0 H s := I.weak (by rw [← hσ, wipe_length]) fun i v e => by rw [← hσ] at e; exact (wipe_some e).1
    show Seg _ A _ _ _ s₀ _ ((compTurn (.GeneratorExp elt [⟨tg, iter, [], 0⟩] scope pos) 0 (.ref it) .none X.env).onRaise (leaving X.env)) [] s
    rw [compTurn_gen, Sem.onRaise_eq_wrap]
    refine seg_bind_wrap (wpAny_standAt ?_)
    rcases turn i m H w0 with ⟨stop, qt⟩ | ⟨hgo, Nx, hN, step⟩
    · refine seg_bind_wrap ?_
      rw [hA]
      refine thn (T.done X rfl rfl rfl hc i [] s σ0 H _ I0 (stat fr) st stop) fun r s1 ⟨hr, I1⟩ => ?_
      subst hr
      exact seg_end (.ok .next) ⟨rfl, σ0, H, I1, qt⟩
    · refine seg_bind_wrap ?_
      rw [hA]
      refine thn (T.item X rfl rfl rfl hc i [] s σ0 H _ I0 (stat fr) st hgo) fun r s1 ⟨u, hr, h1⟩ => ?_
      subst hr
      refine seg_bind_wrap ?_
      rw [hA]
      refine thn h1 fun _ s2 ⟨x, H2, I2, r2, y2, st2, fr2⟩ => ?_
      have I2' := I2.pinned (stat fr2) (T.obj _ _ st2)
      refine seg_bind_wrap ?_
      rw [hA]
      have h3 := hg.run _ s2 σ0 H2 x u _ I2' r2 (step x H2 y2)
      rw [hx] at h3
      refine thnF h3 fun _ s3 ⟨σ3, H3, I3, w3, q3⟩ => ?_
      refine seg_bind_wrap ?_
      rw [List.forIn_nil]
      refine wpAny_pure ?_
      simp only [if_true]
      have hy : ∀ v, yieldOut X.env v = yieldValue v := fun v => by simp only [yieldOut, hco, Bool.false_eq_true, if_false]
      simp only [hy]
      rw [Sem.bind_eq_wrap', Sem.bind_eq_wrap', Sem.wrap_wrap, Sem.wrap_wrap]
      refine seg_wrap ?_
      rw [hA]
      have h4 := he.run _ s3 σ3 H3 _ I3 q3
      rw [hx] at h4
      refine thnF h4 fun v s4 ⟨y, H4, I4, r4, b, ey, q4⟩ => ?_
      subst ey
      obtain rfl : v = Value.bool b := r4
      have fr4 : ∀ b ∈ fp, H4 b = none := fun b hb => by
        obtain ⟨o, e, d⟩ := T.obj _ _ st2 b hb
        exact (I4.pin (b, o) (List.mem_append_right _ (List.mem_append_right _ (mem_pinsAt hb e)))).2.1
      have kp4 : ∀ b ∈ fp, ∀ o, s2.heap.get? b = some o → s4.heap.get? b = some o := fun b hb o e => (I4.pin (b, o) (List.mem_append_right _ (List.mem_append_right _ (mem_pinsAt hb e)))).1
      have I4' := I4.unpinned
      refine seg_at (seg_yield rfl rfl rfl ⟨b, σ3, H4, rfl, I4', fun hb => ?_, fun hb s'' k hos hbr => ?_⟩)
      · rw [if_neg (by rw [hb]; cases go <;> decide)] at q4
        exact q4
      · rw [if_pos hb] at q4
        obtain ⟨m', hm', w4⟩ := hN H4 q4
        refine seg_again rfl (ih m' (i + 1) σ3 H4 s'' s'' (by omega) w4 (inv_later I4' k hos hbr) w3 (T.keep _ _ _ st2 fun b hb o e => k b o (kp4 b hb o e)) fr4)
/-- .. begun -/
theorem seg_begin {A : Around} {fp : List Addr} {tn : Nat → Heap → Prop} {J : It} {g : TG} {te : TE} {go : Bool} {σ0 : L2.St} {vs : List Nat} {QT QF : Hp → Prop} {W : Nat → Nat → Hp → Prop}
    (hA : A.over (genC tg elt iter scope pos it X.env) [] = X.A) (hc : X.calm = true) (hx : X.xe = fun _ _ => False) (hco : X.env.scope.isCoroutine = false) (hex : ∀ b ∈ fp, b ∈ X.ex ∧ b ≠ X.env.locals ∧ b ∉ X.fs ∧ (∀ x c, X.env.cells.lookup x = some c → c ≠ b) ∧ ∀ p ∈ X.pn, p.1 ≠ b)
    (T : Turn X.prog X.w X.K tg J fp it tn) (hg : PG X tg g) (he : PE X elt te) (hw : ∀ σ : L2.St, wipe (wipe σ vs) vs = wipe σ vs) (turn : GWalk go J g te σ0 vs QT QF W)
    (n m : Nat) (σc : L2.St) (H : Hp) (s₀ s : Shared) (hm : m < n) (w0 : W 0 m H) (I : Inv X [] σc H s) (hσ : wipe σc vs = σ0) (st : tn 0 s.heap) (fr : ∀ b ∈ fp, H b = none) :
      Seg (model X.prog X.w) A (fun n s₀ r s₁ => r = .ok .next ∧ RG X QT n s₀ s₁) (YG X go QF) n s₀ (genS tg elt iter scope pos it X.env) ((model X.prog X.w).den (genS tg elt iter scope pos it X.env)) [] s := by
  have loop := seg_turns (scope := scope) (pos := pos) (iter := iter) hA hc hx hco hex T hg he hw turn n m 0 σc H s₀ s hm w0 I hσ st fr
  show Seg _ A _ _ _ s₀ _ ((compStart (.GeneratorExp elt [⟨tg, iter, [], 0⟩] scope pos) 0 (.ref it) .none X.env).onRaise (leaving X.env)) [] s
  unfold compStart
  rw [Sem.onRaise_eq_wrap]
  show Seg _ A _ _ _ s₀ _ ((ask >>= _).wrap _ _ _ _) [] s
  refine seg_bind_wrap (wpAny_askSetting ?_)
  split
  · exact seg_again rfl loop
  · refine seg_bind_wrap (wpAny_rule ?_)
    show Seg _ A _ _ _ s₀ _ ((standAt iter.pos >>= _).wrap _ _ _ _) [] s
    exact seg_bind_wrap (wpAny_standAt (seg_bind_wrap (T.self _ 0 s _ _ st (seg_again rfl loop))))
end
end Sw
set_option Elab.async false
set_option maxRecDepth 100000
set_option maxHeartbeats 4000000
namespace Sw
open PySem L2 PySem.Spec PyProof.Rows GenW
/-! ### all, any: the consumer -/
section
variable {X : Cx} {A : Around} {a : Addr} {g : Nat} {go : Bool} {QT QF : Hp → Prop} {R : Result → Shared → Prop}
/-- the generator sleeps or has not begun; it may be asked so often -/
def GSt (X : Cx) (A : Around) (g : Nat) (go : Bool) (QT QF : Hp → Prop) (n : Nat) (s : Shared) : Prop :=
  (∃ σc H, Inv X [] σc H s) ∧ ∃ gs, s.gens[g]? = some gs ∧ gs.Goes (model X.prog X.w) A.in1.in1 (fun n s₀ r s₁ => r = .ok .next ∧ RG X QT n s₀ s₁) (YG X go QF) n (.send .none) (s.setGen g .running)
theorem gen_next {E : Value → Shared → Prop} {n : Nat} {s : Shared} {Q : Option Value → Shared → Prop} (hh : A.handled = none) (hroom : A.depth < recursionLimit) (hpn : ∀ s' : Shared, (∀ p ∈ X.pn, s'.heap.get? p.1 = some p.2) → s'.heap.IsGen a g) (st : GSt X A g go QT QF n s)
    (hE : ∀ σc H s', Inv X [] σc H s' → QT H → Q none s') (hF : ∀ σc H s', Inv X [] σc H s' → QF H → Q (some (.bool (!go))) s') (hG : ∀ m s', n = m + 1 → GSt X A g go QT QF m s' → Q (some (.bool go)) s') :
    wpAny (model X.prog X.w) A.in1 (pyNext (.ref a)) Q E s := by
  obtain ⟨⟨σc, H, I⟩, gs, hgs, hgo⟩ := st
  have isg : ∀ {σc : L2.St} {H : Hp} {s' : Shared}, Inv X [] σc H s' → s'.heap.IsGen a g := fun I => hpn _ fun p hp => (I.pin p (List.mem_append_left _ hp)).1
  have hlt : g < s.gens.size := by
    rcases Nat.lt_or_ge g s.gens.size with h | h
    · exact h
    · rw [Array.getElem?_eq_none h] at hgs; cases hgs
  refine wpAny_gsz (n := s.gens.size) (Nat.le_refl _) ?_
  refine wpAny_pyNext_genexpQ (A := A.in1) (Y := YG X go QF) (P := RG X QT) hh I.nolimit hroom (isg I) hgs hgo (fun v s₁ gs' hb hv hsz => ?_) (fun s₁ hp h' hk hsz => ?_)
  · obtain ⟨b, σ1, H1, rfl, I1, q0, q1⟩ := hv
    have hsz : s.gens.size ≤ s₁.gens.size := by rw [← setGen_size s₁ g gs']; exact hsz
    have I2 : Inv X [] σ1 H1 (s₁.setGen g gs') := inv_later I1 (fun _ _ e => e) rfl (allBare_setGen I1.bare hb)
    by_cases e : b = go
    · have k := q1 e ((s₁.setGen g gs').setGen g .running) (fun _ _ e => e) rfl (allBare_setGen (allBare_setGen I1.bare hb) rfl)
      cases n with
      | zero => exact k.elim
      | succ m =>
        rw [e]
        exact hG m _ rfl ⟨⟨σ1, H1, I2⟩, gs', setGen_at (Nat.lt_of_lt_of_le hlt hsz), k⟩
    · have e2 : b = !go := by cases b <;> cases go <;> simp_all
      rw [e2]
      exact hF σ1 H1 _ I2 (q0 e2)
  · obtain ⟨σ1, H1, I1, qt⟩ := hp
    exact hE σ1 H1 _ (inv_later (s := s₁) I1 hk rfl (allBare_setGen I1.bare rfl)) qt
theorem all_loop (hh : A.handled = none) (hroom : A.depth < recursionLimit) (hpn : ∀ s' : Shared, (∀ p ∈ X.pn, s'.heap.get? p.1 = some p.2) → s'.heap.IsGen a g)
    (hT : ∀ σc H s', Inv X [] σc H s' → QT H → R (.ok (.ret (.bool true))) s') (hF : ∀ σc H s', Inv X [] σc H s' → QF H → R (.ok (.ret (.bool false))) s') :
    ∀ (n : Nat) (s : Shared), GSt X A g true QT QF n s → codeAny (model X.prog X.w) A (.builtin "all.loop" ⟨[.ref a], []⟩) R s := by
  intro n
  induction n with
  | zero =>
    intro s st
    refine codeAny_builtin F.entry_all_loop ?_
    rw [Around.under_plainId F.plain_all_loop _]
    show wpAny _ A.in1 (pyNext (.ref a) >>= _) _ _ s
    refine wpAny_bind (gen_next hh hroom hpn st (fun σc H s' I q => ?_) (fun σc H s' I q => ?_) (fun m s' e => by cases e))
    · exact wpAny_bind (wpAny_rule (wpAny_pure (hT σc H s' I q)))
    · refine wpAny_bind (wpAny_holding (wpAny_truthy_bool ?_))
      refine wpAny_bind (wpAny_letGo ?_)
      simp only [Bool.not_true, Bool.false_eq_true, if_false]
      exact wpAny_bind (wpAny_rule (wpAny_pure (hF σc H s' I q)))
  | succ n ih =>
    intro s st
    refine codeAny_builtin F.entry_all_loop ?_
    rw [Around.under_plainId F.plain_all_loop _]
    show wpAny _ A.in1 (pyNext (.ref a) >>= _) _ _ s
    refine wpAny_bind (gen_next hh hroom hpn st (fun σc H s' I q => ?_) (fun σc H s' I q => ?_) (fun m s' e st' => ?_))
    · exact wpAny_bind (wpAny_rule (wpAny_pure (hT σc H s' I q)))
    · refine wpAny_bind (wpAny_holding (wpAny_truthy_bool ?_))
      refine wpAny_bind (wpAny_letGo ?_)
      simp only [Bool.not_true, Bool.false_eq_true, if_false]
      exact wpAny_bind (wpAny_rule (wpAny_pure (hF σc H s' I q)))
    · cases e
      refine wpAny_bind (wpAny_holding (wpAny_truthy_bool ?_))
      refine wpAny_bind (wpAny_letGo ?_)
      simp only [if_true]
      exact wpAny_pure ⟨plainId_quiet F.plain_all_loop _, ih s' st'⟩
theorem any_loop (hh : A.handled = none) (hroom : A.depth < recursionLimit) (hpn : ∀ s' : Shared, (∀ p ∈ X.pn, s'.heap.get? p.1 = some p.2) → s'.heap.IsGen a g)
    (hT : ∀ σc H s', Inv X [] σc H s' → QT H → R (.ok (.ret (.bool false))) s') (hF : ∀ σc H s', Inv X [] σc H s' → QF H → R (.ok (.ret (.bool true))) s') :
    ∀ (n : Nat) (s : Shared), GSt X A g false QT QF n s → codeAny (model X.prog X.w) A (.builtin "any.loop" ⟨[.ref a], []⟩) R s := by
  intro n
  induction n with
  | zero =>
    intro s st
    refine codeAny_builtin F.entry_any_loop ?_
    rw [Around.under_plainId F.plain_any_loop _]
    show wpAny _ A.in1 (pyNext (.ref a) >>= _) _ _ s
    refine wpAny_bind (gen_next hh hroom hpn st (fun σc H s' I q => ?_) (fun σc H s' I q => ?_) (fun m s' e => by cases e))
    · exact wpAny_bind (wpAny_rule (wpAny_pure (hT σc H s' I q)))
    · refine wpAny_bind (wpAny_holding (wpAny_truthy_bool ?_))
      refine wpAny_bind (wpAny_letGo ?_)
      simp only [Bool.not_false, if_true]
      exact wpAny_bind (wpAny_rule (wpAny_pure (hF σc H s' I q)))
  | succ n ih =>
    intro s st
    refine codeAny_builtin F.entry_any_loop ?_
    rw [Around.under_plainId F.plain_any_loop _]
    show wpAny _ A.in1 (pyNext (.ref a) >>= _) _ _ s
    refine wpAny_bind (gen_next hh hroom hpn st (fun σc H s' I q => ?_) (fun σc H s' I q => ?_) (fun m s' e st' => ?_))
    · exact wpAny_bind (wpAny_rule (wpAny_pure (hT σc H s' I q)))
    · refine wpAny_bind (wpAny_holding (wpAny_truthy_bool ?_))
      refine wpAny_bind (wpAny_letGo ?_)
      simp only [Bool.not_false, if_true]
      exact wpAny_bind (wpAny_rule (wpAny_pure (hF σc H s' I q)))
    · cases e
      refine wpAny_bind (wpAny_holding (wpAny_truthy_bool ?_))
      refine wpAny_bind (wpAny_letGo ?_)
      simp only [Bool.false_eq_true, if_false]
      exact wpAny_pure ⟨plainId_quiet F.plain_any_loop _, ih s' st'⟩
end
/-! ### the generator made -/
section
variable {X : Cx} {tg elt iter : Expr} {scope : Scope} {own : List (Str × Nat)} {c P : Addr} {k : Nat} {wi : TI} {g : TG} {te : TE} {go : Bool} {gpos : Pos}
def tGen (P : Addr) (wi : TI) (g : TG) (te : TE) (vs : List Nat) (go : Bool) : TE := fun σ H Q => wi σ H fun J H1 => H1 P = some (TabE P) ∧ ∃ W : Nat → Nat → Hp → Prop, (∃ m, W 0 m H1) ∧
  GWalk go J g te (wipe σ vs) vs (fun H => Q (.bl go) H) (fun H => Q (.bl (!go)) H) W
abbrev genAr (X : Cx) (G : Expr) (it : Addr) (env : Env) : Around := X.A.in1.in1.over (.compLoop G 0 (.ref it) .none env) []
theorem wipe2 (σ : L2.St) (vs : List Nat) : wipe (wipe σ vs) vs = wipe σ vs := by
  refine List.ext_getElem? fun i => ?_
  by_cases h : i ∈ vs
  · by_cases hi : i < σ.length
    · have q : ∀ τ : L2.St, i < τ.length → (wipe τ vs)[i]? = some none := fun τ ht => by
        cases e : (wipe τ vs)[i]? with
        | none => rw [List.getElem?_eq_none_iff, wipe_length] at e; omega
        | some o =>
          cases o with
          | none => rfl
          | some v => exact absurd h (wipe_some e).2
      rw [q _ (by rw [wipe_length]; exact hi), q _ hi]
    · rw [List.getElem?_eq_none (by rw [wipe_length, wipe_length]; omega), List.getElem?_eq_none (by rw [wipe_length]; omega)]
  · rw [wipe_out h]
theorem room_gen {e : Expr} {it : Addr} {env : Env} {A : Around} (hr : Room (k + 1) A) {sc : Scope} {gs : List Comprehension} {ps : Pos} : Room k (A.in1.in1.over (.compLoop (.GeneratorExp e gs sc ps) 0 (.ref it) .none env) []) := by
  refine ⟨hr.hd, ?_, ?_⟩
  · have := hr.dp
    show A.depth + 0 + (1 + 0 + 0 + 0) + 3 * k + 5 < _
    omega
  · have := hr.un
    show A.units + 1 + 1 + 0 + 3 * 1 + 16 * k + 200 < _
    omega
theorem gen_made {pins : List (Addr × Obj)} {s : Shared} {σ : L2.St} {H : Hp} {Q : VK} {Q' : Value → Shared → Prop} (hr : Room (k + 1) X.A) (hN : X.N.Nodup) (TB : GxR.TabB X.base X.mg c P) (hcode : X.env.code = .ref c) (ok : BlkOk X.N X.env.scope scope own) (G : GenSc scope) (hi : PI X tg iter wi)
    (hg : ∀ (s : Shared) (H : Hp) (C : Addr) (code : Value) (A' : Around) (fp : List Addr) (pn : List (Addr × Obj)), Room k A' → PG (X.gen s H scope C code A' fp pn) tg g)
    (he : ∀ (s : Shared) (H : Hp) (C : Addr) (code : Value) (A' : Around) (fp : List Addr) (pn : List (Addr × Obj)), Room k A' → PE (X.gen s H scope C code A' fp pn) elt te)
    (hs : ∀ v, genFold iter X.env v = pure v) (I : Inv X pins σ H s) (h : tGen P wi g te (own.map (·.2)) go σ H Q)
    (hQ : ∀ (X' : Cx) (a : Addr) (gn n : Nat) (s' : Shared), X'.prog = X.prog → X'.w = X.w → (∀ s' : Shared, (∀ p ∈ X'.pn, s'.heap.get? p.1 = some p.2) → s'.heap.IsGen a gn) → GSt X' X.A gn go (fun H => Q (.bl go) H) (fun H => Q (.bl (!go)) H) n s' →
      (∀ σc H s', Inv X' [] σc H s' → Inv X pins σ H s') → s'.heap.IsGen a gn → Q' (.ref a) s') :
    wpAny (model X.prog X.w) X.A (eval (.GeneratorExp elt [⟨tg, iter, [], 0⟩] scope gpos) X.env) Q' X.xe s := by
  have hCap : ∀ y ∈ scope.names, y.2 = .free → ∃ c, X.env.cells.lookup y.1 = some c := fun y hy e => by
    rcases ok.free y hy e with k | k
    · exact I.ok.has _ (.inl k)
    · exact I.ok.has _ (.inr k)
  refine wpAny_GeneratorExp_make G.co (closure_ok hCap) G.cell G.dot ok.kind (by have := hr.dp; omega) ?_ hs
  refine thn (hi.run pins s σ H _ I h) fun xv s1 hx => thn hx fun itv s2 h2 => ?_
  obtain ⟨it, fp, tn, J, H2, e, I2, T, st2, f2, hP, W, ⟨m0, w0⟩, turn⟩ := h2
  subst e
  refine ⟨I2.nolimit, gen_code I2 TB hcode hP fun code h3 tk3 I3 k3 hsz3 => ?_⟩
  obtain ⟨bm, ob, e1, e2, e3, e4, e5, e6, e7, e8⟩ := TB.bm
  refine wpAny_builtinsFor (m := X.mg) (by rw [I3.ok.glob]; exact I3.mod.glob.keeps I3.bk) e1 e2 (I3.bk _ _ e5) e6 e7 e8 ?_
  generalize hs3 : ({ s2 with heap := h3, toks := tk3 } : Shared) = s3 at I3
  have eh3 : h3 = s3.heap := by rw [← hs3]
  subst eh3
  intro h' hn' hsb
  have es3 : s2.gens = s3.gens := by rw [← hs3]
  have st3 : tn 0 s3.heap := T.keep _ _ _ st2 fun b hb o e => k3 b o (fun z => by
    have := (f2 b hb).1
    rw [z, hP] at this
    cases this) e
  have sz3 : ∀ b ∈ fp, b < s3.heap.objs.size := fun b hb => by
    obtain ⟨o, e, _⟩ := T.obj _ _ st3 b hb
    exact Heap.lt_size e
  have hsz : h'.objs.size = s3.heap.objs.size + 1 := by rw [hsb.1, Heap.size_push]
  have keep' : ∀ b o, s3.heap.get? b = some o → h'.get? b = some o := fun b o e => hsb.extBut b o (Nat.ne_of_lt (Heap.lt_size e)) (Heap.get?_push_of_some _ e)
  generalize hgo : ({ cls := .type "generator", data := .fields #[.int s3.gens.size 0, .str "<genexpr>" (s3.toks + 1), .str (X.env.qual ++ "<genexpr>") (s3.toks + 1 + 1)] } : Obj) = gobj
  have keep5 : ∀ b o, s3.heap.get? b = some o → (h'.push gobj).get? b = some o := fun b o e => Heap.get?_push_of_some _ (keep' b o e)
  generalize hGE : (Expr.GeneratorExp elt [⟨tg, iter, [], 0⟩] scope gpos) = GE
  have hX : ∃ X', X' = X.gen s3 H2 scope s3.heap.objs.size code (genAr X GE it (genv X scope s3.heap.objs.size code)) fp [(h'.objs.size, gobj)] := ⟨_, rfl⟩
  obtain ⟨X', eX⟩ := hX
  have isg : ∀ s' : Shared, (∀ p ∈ X'.pn, s'.heap.get? p.1 = some p.2) → s'.heap.IsGen h'.objs.size s3.gens.size := fun s' hp => by
    have q := hp (h'.objs.size, gobj) (by rw [eX]; exact List.mem_singleton.mpr rfl)
    exact ⟨_, _, _, q, by rw [← hgo], by rw [← hgo], by rw [← hgo]⟩
  have hroom : Room k X'.A := by
    rw [eX, ← hGE]
    exact room_gen hr
  have hgc : gobj.data = .fields #[.int s3.gens.size 0, .str "<genexpr>" (s3.toks + 1), .str (X.env.qual ++ "<genexpr>") (s3.toks + 1 + 1)] := by rw [← hgo]
  have start : ∀ s' : Shared, s'.os = s3.os → AllBare s'.gens → (∀ b o, (h'.push gobj).get? b = some o → s'.heap.get? b = some o) → Inv X' [] (wipe σ (own.map (·.2))) H2 s' := fun s' ho hb kk => by
    rw [eX]
    refine gen_start (m := _) I3 ok G hN (fun b hb => ⟨f2 b hb, sz3 b hb⟩) (Nat.le_refl _) hr.hd ?_ ho hb (fun b o e => kk b o (keep5 b o e)) (Heap.Ns.keeps (hn'.push _) kk) fun p hp => ?_
    · have hfr := I3.ok.frames
      rw [← hGE]
      have hfr2 : X.A.in1.in1.frames = some X.stack := hfr
      unfold genAr Around.over
      rw [hfr2]
      rfl
    · rw [List.mem_singleton.mp hp]
      refine ⟨kk _ _ (Heap.get?_push_size _ (by rw [← hgo]; rfl)), by show s3.heap.objs.size ≤ h'.objs.size; omega, by show h'.objs.size ≠ s3.heap.objs.size; omega, fun v z => ?_⟩
      rw [hgc] at z
      cases z
  have back : ∀ σc H s', Inv X' [] σc H s' → Inv X pins σ H s' := fun σc H s' I' => by
    rw [eX] at I'
    exact I3.call' (ch := fp) I'.os I'.base I'.hok I'.bare fun b hb => ⟨(f2 b hb).2.2.2.1, (f2 b hb).2.1, (f2 b hb).2.2.2.2.1, (f2 b hb).2.2.2.2.2⟩
  have hbare : ∀ {c : Code}, AllBare (s3.gens.push (.fresh c)) := fun {c} => I3.bare.push rfl
  refine hQ X' h'.objs.size s3.gens.size (m0 + 1) _ (by rw [eX]) (by rw [eX]) isg ⟨⟨_, _, start _ (by rw [← hs3]) ?_ fun _ _ e => e⟩, _, Array.getElem?_push_size .., rfl, ?_⟩ back ?_
  · exact hbare
  · have I0 := start (({ heap := h'.push gobj, gens := s3.gens.push (.fresh (.compStart GE 0 (.ref it) .none (genv X scope s3.heap.objs.size code))), drawn := s3.drawn, toks := s3.toks + 1 + 1 + 1, os := s3.os } : Shared).setGen s3.gens.size .running) rfl (allBare_setGen (g := s3.gens.size) (x := .running) (s := { heap := h'.push gobj, gens := s3.gens.push (.fresh (.compStart GE 0 (.ref it) .none (genv X scope s3.heap.objs.size code))), drawn := s3.drawn, toks := s3.toks + 1 + 1 + 1, os := s3.os }) hbare rfl) fun _ _ e => e
    have hf : ∀ b ∈ fp, H2 b = none := fun b hb => (f2 b hb).1
    have st5 : tn 0 (h'.push gobj) := T.keep _ _ _ st3 fun b hb o e => keep5 b o e
    have hA : X.A.in1.in1.over (genC tg elt iter scope gpos it X'.env) [] = X'.A := by rw [eX, ← hGE]
    have key := seg_begin (X := X') (scope := scope) (pos := gpos) (iter := iter) (tg := tg) (elt := elt) (it := it) (A := X.A.in1.in1) (fp := fp) (tn := tn) (J := J) (g := g) (te := te) (go := go) (σ0 := wipe σ (own.map (·.2))) (vs := own.map (·.2))
      (QT := fun H => Q (.bl go) H) (QF := fun H => Q (.bl (!go)) H) (W := W) hA (by rw [eX]) (by rw [eX]) (by rw [eX]; exact G.co) (fun b hb => ?_) (by rw [eX]; exact T) (by rw [eX]; exact hg _ _ _ _ _ _ _ (by rw [eX] at hroom; exact hroom)) (by rw [eX]; exact he _ _ _ _ _ _ _ (by rw [eX] at hroom; exact hroom))
      (fun σ => wipe2 σ _) turn (m0 + 1) m0 _ H2 (({ heap := h'.push gobj, gens := s3.gens.push (.fresh (.compStart GE 0 (.ref it) .none (genv X scope s3.heap.objs.size code))), drawn := s3.drawn, toks := s3.toks + 1 + 1 + 1, os := s3.os } : Shared).setGen s3.gens.size .running) (({ heap := h'.push gobj, gens := s3.gens.push (.fresh (.compStart GE 0 (.ref it) .none (genv X scope s3.heap.objs.size code))), drawn := s3.drawn, toks := s3.toks + 1 + 1 + 1, os := s3.os } : Shared).setGen s3.gens.size .running) (Nat.lt_succ_self _) w0 I0 (wipe2 σ _) st5 hf
    · have eC : (genS tg elt iter scope gpos it X'.env) = .compStart GE 0 (.ref it) .none (genv X scope s3.heap.objs.size code) := by rw [eX, ← hGE]
      rw [eC] at key
      exact key
    · rw [eX]
      refine ⟨hb, Nat.ne_of_lt (sz3 b hb), fun z => ?_, fun x c e z => ?_, fun p hp => ?_⟩
      · rcases List.mem_cons.mp (I3.stkSub b z) with z | z
        · exact (f2 b hb).2.1 z
        · exact (f2 b hb).2.2.1 z
      · exact (f2 b hb).2.2.2.2.1 x c (NdefX.clo_cm hCap e) z
      · rw [List.mem_singleton.mp hp]
        have q1 : b < s3.heap.objs.size := sz3 b hb
        show h'.objs.size ≠ b
        rw [hsz]
        exact Nat.ne_of_gt (Nat.lt_succ_of_lt q1)
  · exact ⟨_, _, _, Heap.get?_push_size _ (by rw [← hgo]; rfl), by rw [← hgo], by rw [← hgo], by rw [← hgo]⟩
theorem pe_allG {x : Str} {p pos : Pos} (hx : x = "all") (hr : Room (k + 1) X.A) (hgl : Gl X x) (hm : X.mg x = none) (hN : X.N.Nodup) (TB : GxR.TabB X.base X.mg c P) (hcode : X.env.code = .ref c) (ok : BlkOk X.N X.env.scope scope own) (G : GenSc scope) (hi : PI X tg iter wi)
    (hg : ∀ (s : Shared) (H : Hp) (C : Addr) (code : Value) (A' : Around) (fp : List Addr) (pn : List (Addr × Obj)), Room k A' → PG (X.gen s H scope C code A' fp pn) tg g)
    (he : ∀ (s : Shared) (H : Hp) (C : Addr) (code : Value) (A' : Around) (fp : List Addr) (pn : List (Addr × Obj)), Room k A' → PE (X.gen s H scope C code A' fp pn) elt te)
    (hs : ∀ v, genFold iter X.env v = pure v := by intro _; rfl)
    (hst : starEach [.GeneratorExp elt [⟨tg, iter, [], 0⟩] scope gpos] X.env = (false, eval (.GeneratorExp elt [⟨tg, iter, [], 0⟩] scope gpos) X.env) :: starEach [] X.env := by rfl) :
    PE X (.Call (.Name x p) [.GeneratorExp elt [⟨tg, iter, [], 0⟩] scope gpos] [] pos) (tGen P wi g te (own.map (·.2)) true) := by
  subst hx
  refine ⟨fun pins s σ H Q I h => ?_⟩
  refine wpAny_Call_Name_kw (ld_blt I hgl hm (show bootBuiltins "all" = some (.builtin "all") by decide +kernel) ?_)
  refine PyProof.Rows.callWith_builtin1 ?_ hst (by rfl)
  rw [hst]
  show wpAny _ _ (spliced ((false, eval (.GeneratorExp elt [⟨tg, iter, [], 0⟩] scope gpos) X.env) :: backTo pos (starEach [] X.env))) _ _ s
  refine Calls.spliced_cons (gen_made hr hN TB hcode ok G hi hg he hs I h fun X' a gn n s' ep ew isg st back hgen => ?_)
  refine Calls.spliced_nil ?_
  refine call_function_tree F.kind_all F.plain_all F.entry_all (F.args_all1 _) ?_
  unfold Builtin.«all»
  refine wpAny_bind (wpAny_of_eq (a := Value.ref a) (by rfl) ?_)
  refine wpAny_bind (wpAny_pyIter_gen hgen ?_)
  refine wpAny_pure ⟨plainId_quiet F.plain_all_loop _, ?_⟩
  rw [← ep, ← ew]
  refine all_loop hr.hd (by have := hr.dp; omega) isg (fun σc H' s'' I' q => ?_) (fun σc H' s'' I' q => ?_) n s' st
  · exact ⟨.bl true, H', back _ _ _ I', rfl, q⟩
  · exact ⟨.bl false, H', back _ _ _ I', rfl, q⟩
theorem pe_anyG {x : Str} {p pos : Pos} (hx : x = "any") (hr : Room (k + 1) X.A) (hgl : Gl X x) (hm : X.mg x = none) (hN : X.N.Nodup) (TB : GxR.TabB X.base X.mg c P) (hcode : X.env.code = .ref c) (ok : BlkOk X.N X.env.scope scope own) (G : GenSc scope) (hi : PI X tg iter wi)
    (hg : ∀ (s : Shared) (H : Hp) (C : Addr) (code : Value) (A' : Around) (fp : List Addr) (pn : List (Addr × Obj)), Room k A' → PG (X.gen s H scope C code A' fp pn) tg g)
    (he : ∀ (s : Shared) (H : Hp) (C : Addr) (code : Value) (A' : Around) (fp : List Addr) (pn : List (Addr × Obj)), Room k A' → PE (X.gen s H scope C code A' fp pn) elt te)
    (hs : ∀ v, genFold iter X.env v = pure v := by intro _; rfl)
    (hst : starEach [.GeneratorExp elt [⟨tg, iter, [], 0⟩] scope gpos] X.env = (false, eval (.GeneratorExp elt [⟨tg, iter, [], 0⟩] scope gpos) X.env) :: starEach [] X.env := by rfl) :
    PE X (.Call (.Name x p) [.GeneratorExp elt [⟨tg, iter, [], 0⟩] scope gpos] [] pos) (tGen P wi g te (own.map (·.2)) false) := by
  subst hx
  refine ⟨fun pins s σ H Q I h => ?_⟩
  refine wpAny_Call_Name_kw (ld_blt I hgl hm boot_any ?_)
  refine PyProof.Rows.callWith_builtin1 ?_ hst (by rfl)
  rw [hst]
  show wpAny _ _ (spliced ((false, eval (.GeneratorExp elt [⟨tg, iter, [], 0⟩] scope gpos) X.env) :: backTo pos (starEach [] X.env))) _ _ s
  refine Calls.spliced_cons (gen_made hr hN TB hcode ok G hi hg he hs I h fun X' a gn n s' ep ew isg st back hgen => ?_)
  refine Calls.spliced_nil ?_
  refine call_function_tree F.kind_any F.plain_any F.entry_any (F.args_any1 _) ?_
  unfold Builtin.«any»
  refine wpAny_bind (wpAny_of_eq (a := Value.ref a) (by rfl) ?_)
  refine wpAny_bind (wpAny_pyIter_gen hgen ?_)
  refine wpAny_pure ⟨plainId_quiet F.plain_any_loop _, ?_⟩
  rw [← ep, ← ew]
  refine any_loop hr.hd (by have := hr.dp; omega) isg (fun σc H' s'' I' q => ?_) (fun σc H' s'' I' q => ?_) n s' st
  · exact ⟨.bl false, H', back _ _ _ I', rfl, q⟩
  · exact ⟨.bl true, H', back _ _ _ I', rfl, q⟩
end
/-! ### what the walks ask, by lists -/
theorem gw_tup {K : PySem.W.Frag} {a : Addr} {xs : List V} {go : Bool} {g : TG} {te : TE} {σ0 : L2.St} {vs : List Nat} {QT QF : Hp → Prop} {H : Hp} (Pv : Nat → Hp → Prop) (h0 : Pv 0 H) (hl : ∀ i H, i ≤ xs.length → Pv i H → SqT K H a xs)
    (hs : ∀ i x H, xs[i]? = some x → Pv i H → g x σ0 H fun σ2 H2 => wipe σ2 vs = σ0 ∧ te σ2 H2 fun y H3 => ∃ b, y = .bl b ∧ if b = go then Pv (i + 1) H3 else QF H3) (hd : ∀ H, Pv xs.length H → QT H) :
    ∃ W : Nat → Nat → Hp → Prop, (∃ m, W 0 m H) ∧ GWalk go (Itt K a) g te σ0 vs QT QF W := by
  refine ⟨fun i m H => i ≤ xs.length ∧ m = xs.length - i ∧ Pv i H, ⟨xs.length, Nat.zero_le _, by simp, h0⟩, ?_⟩
  rintro i m H ⟨hi, rfl, hp⟩
  have hL := hl i H hi hp
  by_cases e : i = xs.length
  · exact .inl ⟨⟨xs, hL, by omega⟩, hd H (by rw [← e]; exact hp)⟩
  · have hlt : i < xs.length := by omega
    refine .inr ⟨⟨xs, xs[i], hL, List.getElem?_eq_getElem hlt⟩, Pv (i + 1), fun H' hq => ⟨_, by omega, hlt, rfl, hq⟩, fun x H' hy => ?_⟩
    obtain ⟨rfl, hx⟩ := hy
    exact hs i x _ (hx xs hL) hp
theorem gw_list {K : PySem.W.Frag} {a : Addr} {xs : List V} {go : Bool} {g : TG} {te : TE} {σ0 : L2.St} {vs : List Nat} {QT QF : Hp → Prop} {H : Hp} (Pv : Nat → Hp → Prop) (h0 : Pv 0 H) (hl : ∀ i H, i ≤ xs.length → Pv i H → SqL K H a xs)
    (hs : ∀ i x H, xs[i]? = some x → Pv i H → g x σ0 H fun σ2 H2 => wipe σ2 vs = σ0 ∧ te σ2 H2 fun y H3 => ∃ b, y = .bl b ∧ if b = go then Pv (i + 1) H3 else QF H3) (hd : ∀ H, Pv xs.length H → QT H) :
    ∃ W : Nat → Nat → Hp → Prop, (∃ m, W 0 m H) ∧ GWalk go (Itl K a) g te σ0 vs QT QF W := by
  refine ⟨fun i m H => i ≤ xs.length ∧ m = xs.length - i ∧ Pv i H, ⟨xs.length, Nat.zero_le _, by simp, h0⟩, ?_⟩
  rintro i m H ⟨hi, rfl, hp⟩
  have hL := hl i H hi hp
  by_cases e : i = xs.length
  · exact .inl ⟨⟨xs, hL, by omega⟩, hd H (by rw [← e]; exact hp)⟩
  · have hlt : i < xs.length := by omega
    refine .inr ⟨⟨xs, xs[i], hL, List.getElem?_eq_getElem hlt⟩, Pv (i + 1), fun H' hq => ⟨_, by omega, hlt, rfl, hq⟩, fun x H' hy => ?_⟩
    obtain ⟨rfl, hx⟩ := hy
    exact hs i x _ (hx xs hL) hp
end Sw
set_option Elab.async false
set_option maxRecDepth 100000
set_option maxHeartbeats 4000000
namespace Sw
open PySem L2 PySem.Spec PyProof.Rows GenW
/-! ### the end of a law over defs with generator expressions: their tables are tracked as things that may grow -/
abbrev Tabs (ts : List (Addr × Addr)) (H : Hp) : Prop := ∀ p ∈ ts, H p.2 = some (TabE p.2)
theorem Tabs.same {ts : List (Addr × Addr)} {H H' : Hp} (h : Tabs ts H) (s : Same H H') : Tabs ts H' := fun p hp => s _ _ (h p hp)
theorem law_callE {P : Program} {w : World} {K : PySem.W.Frag} {mg mb : Str → Option Value} {k : Nat} {fa a : Addr} {cs : List (Addr × Addr)} {fd : FuncData} {x : Str} {sp : Sp} {s₁ : Shared} {vs : List Value} {ns : List Int}
    (KX : K.In s₁.heap) (hns : s₁.heap.Ns mainGlobals mg) (hb : s₁.heap.Ns builtinsNs mb) (hbb : ∀ x : Str, x ≠ "__name__" → mb x = bootBuiltins x) (hlim : s₁.heap.NoLimit) (hg : s₁.gens = #[])
    (hT : ∀ p ∈ cs, s₁.heap.get? p.2 = some { cls := .none, data := .fields #[] }) (nT : ∀ p ∈ cs, K.lookup p.2 = none) (C : ∀ p ∈ cs, PySem.W.CodeHd s₁.heap p.1 p.2)
    (hbm : ∃ (bm : Addr) (ob : Obj), mg "__builtins__" = some (.ref bm) ∧ bm ≠ builtinsNs ∧ s₁.heap.get? bm = some ob ∧ ob.cls = .type "module" ∧ ob.dict = some builtinsNs ∧ ob.data = .plain)
    (ha : s₁.heap.get? a = some { cls := .type "list", data := .seq vs.toArray }) (hi : IntsAre vs ns) (hl : ns.length ≤ sizeLine) (hr : Room k callerA)
    (F : ∀ base : Heap, K.In base → base.Ns mainGlobals mg → (∀ p ∈ cs, GxR.TabB base mg p.1 p.2) → FnOk P w K mg base CX0 k fa fd [x] sp) (hbind : ∀ (s : Shared) (u : Value), BindsTo s fd ⟨[u], []⟩ [(x, u)])
    (hsp : ∀ H : Hp, Tabs cs H → SqL K H a (ns.map V.int) → sp [.ref a] H (fun v H' => v = .bl true ∧ Tabs cs H') fun _ _ _ => False) :
    codeAny (model P w) callerA (.call (.ref fa) ⟨[.ref a], []⟩) (fun r s' => r = .ok (.ret (.bool true)) ∧ OldK s₁.heap s'.heap ∧ s'.os = s₁.os ∧ AllBare s'.gens) s₁ := by
  have rv := vals_ints hi
  have lenV := hi.length
  have isT : ∀ b : Addr, b ∈ cs.map (·.2) → s₁.heap.get? b = some { cls := .none, data := .fields #[] } := fun b hb => by
    obtain ⟨p, hp, e⟩ := List.mem_map.mp hb
    rw [← e]
    exact hT p hp
  have aT : a ∉ cs.map (·.2) := fun z => by
    have q := isT a z
    rw [ha] at q
    have z' : Data.seq vs.toArray _ = Data.fields #[] := congrArg Obj.data (Option.some.inj q)
    cases z'
  have memT : ∀ p ∈ cs, p.2 ∈ cs.map (·.2) := fun p hp => List.mem_map.mpr ⟨p, hp, rfl⟩
  have core : ∀ H : Hp, Tabs cs H → (∀ b, H b = none ∨ b ∈ cs.map (·.2) ∨ ∃ o xs, H b = some (.frz o (.lst xs))) → SqL K H a (ns.map V.int) → HOk P w H s₁.heap → (∀ b, H b ≠ none → b = a ∨ b ∈ cs.map (·.2)) → (H a ≠ none → K.lookup a = none) →
      codeAny (model P w) callerA (.call (.ref fa) ⟨[.ref a], []⟩) (fun r s' => r = .ok (.ret (.bool true)) ∧ OldK s₁.heap s'.heap ∧ s'.os = s₁.os ∧ AllBare s'.gens) s₁ := by
    intro H hH hO hS hok hA hK
    have base_of : ∀ {b : Addr} {o : Obj}, s₁.heap.get? b = some o → H b = none → (hidT s₁.heap H).get? b = some o := fun e n => hidT_get e n
    have noD : ∀ {b : Addr} {o : Obj}, s₁.heap.get? b = some o → (∀ vs n, o.data ≠ .seq vs n) → o.data ≠ .fields #[] → H b = none := fun {b o} e h1 h2 => by
      cases q : H b with
      | none => rfl
      | some u =>
        rcases hA b (by rw [q]; simp) with e' | e'
        · rw [e', ha] at e
          cases e
          exact (h1 _ _ rfl).elim
        · rw [isT b e'] at e
          cases e
          exact (h2 rfl).elim
    have noA : ∀ {b : Addr} {o : Obj} {es : Array DictEntry} {ep : Nat}, s₁.heap.get? b = some o → o.data = .dict es ep → H b = none := fun {b o es ep} e d => by
      refine noD e (fun vs n z => ?_) fun z => ?_
      · rw [d] at z
        cases z
      · rw [d] at z
        cases z
    have nsK : ∀ {b : Addr} {m : Str → Option Value}, s₁.heap.Ns b m → (hidT s₁.heap H).Ns b m := fun {b m} ⟨o, es, ep, e, d, r⟩ => ⟨o, es, ep, base_of e (noA e d), d, r⟩
    have hKb : K.In (hidT s₁.heap H) := fun b o e => base_of (KX b o e) (by
      cases q : H b with
      | none => rfl
      | some u =>
        rcases hA b (by rw [q]; simp) with e' | e'
        · rw [e'] at e q
          rw [hK (by rw [q]; simp)] at e
          cases e
        · obtain ⟨p, hp, ep⟩ := List.mem_map.mp e'
          rw [← ep, nT p hp] at e
          cases e)
    have hM : L2.Mod K mg (hidT s₁.heap H) := ⟨hKb, nsK hns, ⟨mb, nsK hb, hbb⟩, let ⟨mc, h1, h2⟩ := hlim; ⟨mc, nsK h1, h2⟩⟩
    have TB : ∀ p ∈ cs, GxR.TabB (hidT s₁.heap H) mg p.1 p.2 := fun p hp => by
      have hTp := hT p hp
      refine ⟨?_, ?_, fun z => ?_⟩
      · obtain ⟨o, us, file, tf, flags, tg, inF, text, tt, e1, r1, r2, r3, r4, r5, r6, r7, r8, hne⟩ := C p hp
        refine ⟨o, us, file, tf, flags, tg, inF, text, tt, base_of e1 (noD e1 (fun vs n z => ?_) fun z => ?_), r1, r2, r3, r4, r5, r6, r7, r8, hne⟩
        · rw [r2] at z
          cases z
        · rw [r2] at z
          cases z
          simp at r3
      · obtain ⟨bm, ob, b1, b2, b3, b4, b5, b6⟩ := hbm
        have nG : bm ≠ mainGlobals := fun q => by
          obtain ⟨o, es, ep, e, hd, _⟩ := hns
          rw [q, e] at b3
          cases b3
          rw [hd] at b6
          cases b6
        have nP : bm ≠ p.2 := fun q => by
          rw [q, hTp] at b3
          cases b3
          cases b6
        refine ⟨bm, ob, b1, b2, nG, nP, base_of b3 (noD b3 (fun vs n z => ?_) fun z => ?_), b4, b5, b6⟩
        · rw [b6] at z
          cases z
        · rw [b6] at z
          cases z
      · obtain ⟨o, es, ep, e, hd, _⟩ := hns
        rw [z, hTp] at e
        cases e
        cases hd
    have e0 : Env0 P w K mg (hidT s₁.heap H) callerA [] s₁ H := ⟨rfl, hM, fun b o e => of_hidT e, Nat.le_of_eq (hidT_size _ _), trivial, fun b hb => absurd (show b ∈ ([] : List Addr) from hb) (by simp), hok, .of_eq hg⟩
    refine codeAny_mono ((F _ hKb (nsK hns) TB).run callerA [] s₁ H ⟨[.ref a], []⟩ [.ref a] [.ref a] _ _ hr e0 (hbind s₁ (.ref a)) (.cons rfl .nil) (hsp H hH hS)) fun r s' h => ?_
    cases r with
    | error e => exact False.elim h
    | ok fl =>
      cases fl with
      | next => exact False.elim h
      | brk => exact False.elim h
      | cont => exact False.elim h
      | ret u =>
        obtain ⟨v, H', os, bare, un, hok', r', q⟩ := h
        obtain ⟨qv, qT⟩ := q
        subst qv
        obtain rfl : u = Value.bool true := r'
        have stays : ∀ b o, b ∉ cs.map (·.2) → s₁.heap.get? b = some o → s'.heap.get? b = some o := fun b o nb e => by
          cases q : H b with
          | none => exact un.keep b o e q (by intro z; exact absurd (show b ∈ ([] : List Addr) from z) (by simp)) (by simp)
          | some u =>
            rcases hO b with z | z | ⟨ob, xs, z⟩
            · rw [q] at z; cases z
            · exact absurd z nb
            · obtain ⟨e1, _⟩ := hok b _ z
              obtain ⟨e2, _⟩ := hok' b _ (un.frzs b ob _ z)
              rw [e] at e1; cases e1
              exact e2
        have grew : ∀ p ∈ cs, ∃ more : Array Value, s'.heap.get? p.2 = some { cls := .none, data := .fields more } := fun p hp => by
          obtain ⟨⟨ps, z, _⟩, _⟩ := hok' p.2 _ (qT p hp)
          exact ⟨ps, z⟩
        refine ⟨rfl, ⟨fun b o e => ?_, fun b o e => ?_⟩, os, bare⟩
        · by_cases hb : b ∈ cs.map (·.2)
          · obtain ⟨p, hp, ep⟩ := List.mem_map.mp hb
            obtain ⟨more, hm⟩ := grew p hp
            rw [← ep] at e ⊢
            rw [hT p hp] at e
            cases e
            exact .inr (.inl ⟨((C p hp).tab (hT p hp)).isCodeTable, rfl, #[], more, rfl, by rw [Array.empty_append]; exact hm⟩)
          · exact .inl (stays b o hb e)
        · by_cases hb : b ∈ cs.map (·.2)
          · obtain ⟨p, hp, ep⟩ := List.mem_map.mp hb
            obtain ⟨more, hm⟩ := grew p hp
            rw [← ep]
            exact ⟨_, hm⟩
          · exact ⟨o, stays b o hb e⟩
  have tOk : ∀ {H : Hp} {b : Addr}, b ∈ cs.map (·.2) → ObjOk P w H s₁.heap b (TabE b) := fun hb => tabE_ok (isT _ hb) (by trivial)
  cases hk : K.lookup a with
  | some o =>
    have e := KX a o hk
    rw [ha] at e
    cases e
    refine core (fun b => if b ∈ cs.map (·.2) then some (TabE b) else none) (fun p hp => if_pos (memT p hp)) (fun b => ?_) (.inr ⟨_, vs.toArray, _, hk, rfl, rfl, rfl, by rw [List.size_toArray, lenV]; exact hl, by simpa using rv⟩) (fun b u z => ?_) (fun b z => ?_) fun z => absurd (show (if a ∈ cs.map (·.2) then some (TabE a) else none) = none from if_neg aT) z
    · by_cases hb : b ∈ cs.map (·.2)
      · exact .inr (.inl hb)
      · exact .inl (if_neg hb)
    · by_cases hb : b ∈ cs.map (·.2)
      · have z' := (if_pos hb).symm.trans z
        cases z'
        exact tOk hb
      · have z' := (if_neg hb).symm.trans z
        cases z'
    · by_cases hb : b ∈ cs.map (·.2)
      · exact .inr hb
      · exact absurd (if_neg hb) z
  | none =>
    refine core (fun b => if b = a then some (.frz { cls := .type "list", data := .seq vs.toArray } (.lst (ns.map V.int))) else if b ∈ cs.map (·.2) then some (TabE b) else none) (fun p hp => (if_neg (show ¬ p.2 = a from fun z => aT (by rw [← z]; exact memT p hp))).trans (if_pos (memT p hp))) (fun b => ?_)
      (.inl (.inr ⟨{ cls := .type "list", data := .seq vs.toArray }, if_pos rfl⟩)) (fun b u z => ?_) (fun b z => ?_) fun _ => hk
    · by_cases hb : b = a
      · exact .inr (.inr ⟨_, _, if_pos hb⟩)
      · by_cases hb2 : b ∈ cs.map (·.2)
        · exact .inr (.inl hb2)
        · exact .inl ((if_neg hb).trans (if_neg hb2))
    · by_cases hb : b = a
      · have z' := (if_pos hb).symm.trans z
        cases z'
        rw [hb]
        exact ⟨ha, by rw [List.length_map]; exact hl, vs, _, rv, ha⟩
      · have z1 := (if_neg hb).symm.trans z
        by_cases hb2 : b ∈ cs.map (·.2)
        · have z' := (if_pos hb2).symm.trans z1
          cases z'
          exact tOk hb2
        · have z' := (if_neg hb2).symm.trans z1
          cases z'
    · by_cases hb : b = a
      · exact .inl hb
      · by_cases hb2 : b ∈ cs.map (·.2)
        · exact .inr hb2
        · exact absurd ((if_neg hb).trans (if_neg hb2)) z
/-- the tables of the defs that stand under these names: empty at the law's entry -/
def OwnT (K : PySem.W.Frag) (h : Heap) (x : Str) (c P : Addr) : Prop := ∀ (f : Addr) (o : Obj) (fd : FuncData) (e : Value) (dd : Option Addr) (vs : Array Value) (sl : Array (Option Value)), PySem.W.nsIn K mainGlobals x = some (some (.ref f)) → K.lookup f = some o → o.data = .func fd → fd.code = .ref c → K.lookup c = some ⟨e, dd, .fields vs, sl⟩ → vs[11]? = some (.ref P) →
  h.get? P = some { cls := .none, data := .fields #[] } ∧ PySem.W.CodeHd h c P
theorem walk_ofE {l : PySem.W.OpenLaw} {n k : Nat} {q : Program} {loose : List Str} {XP : (Str → Option Value) → Heap → Prop} {YP : World → Heap → Prop} {d : DefRec} {K : Params → PySem.W.Frag} {x : Str}
    (hn : l.most = some n) (hn2 : n ≤ sizeLine) (hdf : d.params.defaults = []) (hr : Room k callerA) (hY : ∀ (w : World) (h : Heap), YP w h → (K w.params).In h)
    (F : ∀ (w : World) (mg : Str → Option Value) (fa : Addr) (h : Heap), (K w.params).In h → h.Ns mainGlobals mg → mg d.name = some (.ref fa) → (∀ x c P, ((recsOf q).any fun e => e.name == x) = true → OwnT (K w.params) h x c P) →
      ∃ (fd : FuncData) (cs : List (Addr × Addr)) (sp : Sp), (∀ p ∈ cs, h.get? p.2 = some { cls := .none, data := .fields #[] }) ∧ (∀ p ∈ cs, (K w.params).lookup p.2 = none) ∧ (∀ p ∈ cs, PySem.W.CodeHd h p.1 p.2) ∧ (∀ (s : Shared) (u : Value), BindsTo s fd ⟨[u], []⟩ [(x, u)]) ∧
        (∀ (H : Hp) (a : Addr) (ns : List Int), ns.length ≤ n → (∀ z ∈ ns, Builtin.Int.intBits z ≤ 1048576) → Tabs cs H → SqL (K w.params) H a (ns.map V.int) → sp [.ref a] H (fun v H' => v = .bl true ∧ Tabs cs H') fun _ _ _ => False) ∧
        ∀ base : Heap, (K w.params).In base → base.Ns mainGlobals mg → (∀ p ∈ cs, GxR.TabB base mg p.1 p.2) → FnOk l.prog w (K w.params) mg base CX0 k fa fd [x] sp) :
    PySem.W.WalkO q loose XP YP l.row.toRowW d [] (fun f vs => PySem.call f vs) := by
  refine Att.attach_callB hn hdf fun w s₀ s₁ mg mb fa o pm cd doc a vs ns G Y ho hd hcd hmg hobj hints hlen hbits hg => ?_
  have KX := hY w _ Y
  obtain ⟨fd, cs, sp, hT, nT, C, hb, hsp, hF⟩ := F w mg fa _ KX G.T.g hmg fun x c P hrec f o1 fd1 e dd vs1 sl k0 k1 k2 k3 k4 k5 => by
    obtain ⟨dL, hm, hn1⟩ := List.any_eq_true.mp hrec
    have hn2 : dL.name = x := beq_iff_eq.mp hn1
    obtain ⟨a', o', fd', c', P', h1, h2, h3, h4, h5, h6⟩ := G.T.tab dL hm
    have q0 := PySem.W.mg_of KX G.T.g k0
    rw [hn2, q0] at h1
    cases h1
    have g1 := KX _ _ k1
    rw [g1] at h2
    cases h2
    rw [k2] at h3
    cases h3
    rw [k3] at h4
    cases h4
    have h6' := h6
    obtain ⟨⟨oc, vc, e1, _, e3, e4⟩, hP⟩ := h6
    have g2 := KX _ _ k4
    rw [g2] at e1
    cases e1
    cases e3
    rw [k5] at e4
    cases e4
    exact ⟨hP, PySem.W.CodeHd.of h5 h6'⟩
  exact law_callE KX G.T.g G.T.b G.T.builtins G.T.nolimit hg hT nT C G.T.bmain hobj hints (Nat.le_trans hlen hn2) hr hF hb (fun H hH hS => hsp H a ns hlen hbits hH hS)
end Sw
set_option Elab.async false
set_option maxRecDepth 100000
set_option maxHeartbeats 4000000
namespace Sw
open PySem L2 PySem.Spec PyProof.Rows
/-! ### sets of keys whose table may be walked -/
def Led (w : World) (t : SetTable) : Prop := Ris t.place.toList ∧ (w.params.followText "set-order" = true ∨ t.led = true)
def Sk (P : Program) (w : World) (h : Heap) (a : Addr) (S : Key → Bool) (n : Nat) : Prop :=
  ∃ o es ep t, h.get? a = some o ∧ o.ExactSet ∧ o.data = .set es ep t ∧ ElemsOf (mixKind P w) es.toList ∧ (∀ k, S k = true ↔ ∃ e ∈ es.toList, (mixKind P w).is k e.2 = true) ∧ es.size < scanBound ∧ t.fits es.size = true ∧ es.size = n ∧ Led w t
theorem Sk.of {P : Program} {w : World} {h : Heap} {a : Addr} {S : Key → Bool} {n : Nat} (x : Sk P w h a S n) : h.SetOf (mixKind P w) a S n := by
  obtain ⟨o, es, ep, t, h1, h2, h3, h4, h5, h6, h7, h8, _⟩ := x
  exact ⟨o, es, ep, t, h1, h2, h3, h4, h5, h6, h7, h8⟩
theorem Sk.keep {P : Program} {w : World} {h h' : Heap} {a : Addr} {S : Key → Bool} {n : Nat} (x : Sk P w h a S n) (k : ∀ o, h.get? a = some o → h'.get? a = some o) : Sk P w h' a S n := by
  obtain ⟨o, es, ep, t, h1, r⟩ := x
  exact ⟨o, es, ep, t, k o h1, r⟩
theorem Sk.fresh (P : Program) (w : World) (h : Heap) : Sk P w (h.push { cls := .type "set", dict := none, data := .set #[] 0 (.fresh 0 0 (!w.params.followText "set-order")) }) h.objs.size (fun _ => false) 0 := by
  refine ⟨_, #[], 0, _, Heap.get?_push_size _ rfl, ⟨rfl, rfl, rfl⟩, rfl, fun e he => by simp at he, fun k => by simp, by decide, by rfl, rfl, List.Pairwise.nil, ?_⟩
  show _ ∨ (!w.params.followText "set-order") = true
  cases w.params.followText "set-order" <;> simp
section
variable {P : Program} {w : World} {A : Around} {E : Value → Shared → Prop} {s : Shared} {a : Addr}
theorem quiet2 (b : Bool) {x : String} {s₁ : Shared} {Q : Unit → Shared → Prop} (q : Q () s₁) : wpAny (model P w) A (match b with | true => rule x | false => pure ()) Q E s₁ := by
  cases b
  · exact wpAny_pure q
  · exact wpAny_rule q
/-- what stands behind a new element -/
theorem sk_laid {g : Bool → Sem Unit} (hg : ∀ (b : Bool) (s₁ : Shared) (Q : Unit → Shared → Prop), Q () s₁ → wpAny (model P w) A (g b) Q E s₁) {o : Obj} {es es1 : Array (Int × Value)} {ep n : Nat} {t t2 : SetTable} {S : Key → Bool} {wasDummy : Bool} {R : Option Bool → Shared → Prop}
    (ho : s.heap.get? a = some o) (hex : o.ExactSet) (hd : o.data = .set es ep t) (hel : ElemsOf (mixKind P w) es1.toList) (hm : ∀ k, S k = true ↔ ∃ e ∈ es1.toList, (mixKind P w).is k e.2 = true) (hb : es1.size < scanBound) (hf : t2.fits es1.size = true) (hn : es1.size = n) (hL : Led w t2)
    (k : ∀ h', Heap.SameBut a s.heap h' → Sk P w h' a S n → R (some true) { s with heap := h' }) :
    wpAny (model P w) A (do
        storeSet a es1 t2
        if (!wasDummy && t2.tooFull) = true then do
            g (relayAll t2 es1 (SetTable.grown es1.size)).2.2
            storeSet a (relayAll t2 es1 (SetTable.grown es1.size)).1 (relayAll t2 es1 (SetTable.grown es1.size)).2.1
            pure (some true)
          else pure (some true)) R E s := by
  have at1 := store_at (es' := es1) (t' := t2) ho hd
  have b1 := Heap.SameBut.update s.heap a (Obj.putSet es1 t2)
  refine wpAny_bind (wpAny_storeSet_of ho hd ?_ (fits_of_scanBound hb))
  split
  · have p := relayAll_perm t2 es1 (SetTable.grown es1.size)
    have f := relayAll_fits t2 es1 (SetTable.grown es1.size)
    have r := relayAll_ris t2 es1 (SetTable.grown es1.size)
    have l := relayAll_led t2 es1 (SetTable.grown es1.size)
    cases e : relayAll t2 es1 (SetTable.grown es1.size) with
    | mk es2 z =>
      obtain ⟨t3, gave⟩ := z
      rw [e] at p f r l
      have sz : es2.size = es1.size := by
        have := p.length_eq
        rwa [Array.length_toList, Array.length_toList] at this
      refine wpAny_bind (hg _ _ _ (wpAny_bind (wpAny_storeSet_of at1 rfl ?_ (fits_of_scanBound (by show es2.size < _; rw [sz]; exact hb)))))
      refine wpAny_pure (k _ (b1.trans (Heap.SameBut.update _ a _)) ?_)
      refine ⟨_, es2, _, t3, store_at at1 rfl, hex, rfl, hel.perm p, fun x => (hm x).trans ?_, by rw [sz]; exact hb, f, by rw [sz]; exact hn, r, hL.2.imp id fun q => l.trans q⟩
      exact ⟨fun ⟨y, hy, q⟩ => ⟨y, p.mem_iff.mpr hy, q⟩, fun ⟨y, hy, q⟩ => ⟨y, p.mem_iff.mp hy, q⟩⟩
  · exact wpAny_pure (k _ b1 ⟨_, es1, _, t2, at1, hex, rfl, hel, hm, hb, hf, hn, hL⟩)
theorem sk_add_hashed {S : Key → Bool} {n : Nat} {k : Key} {u : Value} {Q : Bool → Shared → Prop} (hk : (mixKind P w).is k u = true) (hs : u.scannable = true) (x : Sk P w s.heap a S n) (room : n + 1 < scanBound)
    (q : ∀ h', Heap.SameBut a s.heap h' → Sk P w h' a (fun j => S j || decide (j = k)) (if S k = true then n else n + 1) → Q (!S k) { s with heap := h' }) :
    wpAny (model P w) A (setAddHashed a u ((mixKind P w).hash k)) Q E s := by
  obtain ⟨o, es, ep, t, ho, hex, hd, hel, hm, hb, hf, hn, hL⟩ := x
  unfold setAddHashed setAddHashedIn
  refine wpAny_holding (wpAny_bind (wpAny_setState_of ho hd hf ?_))
  dsimp only
  rw [byScan_of hs hb hel]
  simp only [↓reduceIte]
  unfold setAddByScan
  refine wpAny_bind (wpAny_bind (wpAny_rule (wpAny_bind (wpAny_setScan_of hk ho hd hf hel ?_))))
  cases hi : List.findIdx? (fun e => (mixKind P w).is k e.2) es.toList with
  | some j =>
    obtain ⟨hj, pj, _⟩ := List.findIdx?_eq_some_iff_getElem.mp hi
    have inS : S k = true := (hm k).mpr ⟨_, List.getElem_mem hj, pj⟩
    refine wpAny_pure (wpAny_pure ?_)
    have r := q s.heap (Heap.SameBut.refl a s.heap) ⟨o, es, ep, t, ho, hex, hd, hel, fun i => ?_, hb, hf, by rw [if_pos inS]; exact hn, hL⟩
    · rw [inS] at r
      exact r
    · show (S i || decide (i = k)) = true ↔ _
      rw [← hm i]
      by_cases e : i = k
      · rw [e, inS]; simp
      · rw [decide_eq_false e, Bool.or_false]
  | none =>
    have out : ∀ e ∈ es.toList, (mixKind P w).is k e.2 = false := fun e he => by
      have := List.findIdx?_eq_none_iff.mp hi e he
      simpa using this
    have notS : S k = false := by
      cases e : S k with
      | false => rfl
      | true =>
        obtain ⟨y, hy, q⟩ := (hm k).mp e
        rw [out y hy] at q
        cases q
    have p := layNew_perm t es ((mixKind P w).hash k) u
    have f := layNew_fits t es ((mixKind P w).hash k) u
    have r := layNew_ris t es ((mixKind P w).hash k) u hL.1
    have l := layNew_led t es ((mixKind P w).hash k) u
    dsimp only
    generalize layNew t es ((mixKind P w).hash k) u = Z at p f r l ⊢
    obtain ⟨es1, t1, wd, gave⟩ := Z
    dsimp only at p f r l ⊢
    rw [Array.toList_push] at p
    have hel1 : ElemsOf (mixKind P w) es1.toList := (hel.push hk hs).perm p
    have hn1 : es1.size = n + 1 := by
      have := p.length_eq
      rw [List.length_append, List.length_singleton, Array.length_toList, Array.length_toList] at this
      omega
    have hm1 : ∀ i, (S i || decide (i = k)) = true ↔ ∃ e ∈ es1.toList, (mixKind P w).is i e.2 = true := fun i => by
      rw [Bool.or_eq_true, hm i, decide_eq_true_eq]
      constructor
      · rintro (⟨y, hy, z⟩ | e)
        · exact ⟨y, p.mem_iff.mpr (List.mem_append_left _ hy), z⟩
        · rw [e]
          exact ⟨_, p.mem_iff.mpr (List.mem_append_right _ (List.mem_singleton.mpr rfl)), hk⟩
      · rintro ⟨y, hy, z⟩
        rcases List.mem_append.mp (p.mem_iff.mp hy) with hy | hy
        · exact .inl ⟨y, hy, z⟩
        · rw [List.mem_singleton.mp hy] at z
          exact .inr ((mixKind P w).inj _ _ _ z hk)
    have L1 : Led w t1 := ⟨r, hL.2.imp id fun z => l.trans z⟩
    have done : ∀ h', Heap.SameBut a s.heap h' → Sk P w h' a (fun j => S j || decide (j = k)) (n + 1) → Q true { s with heap := h' } := fun h' sb x => by
      have := q h' sb
      rw [notS] at this
      exact this x
    refine wpAny_bind (quiet2 _ ?_)
    split
    · refine wpAny_bind ?_
      rw [hashByValue_scannable 8 hs]
      refine wpAny_pure (sk_laid (fun b s₁ Q' z => by cases b <;> first | exact wpAny_pure z | exact wpAny_rule z) ho hex hd hel1 hm1 (by rw [hn1]; exact room) ?_ hn1 ?_ fun h' sb x => ?_)
      · first | (split <;> first | exact f | exact SetTable.fits_plain_off f) | exact f
      · first | (split <;> exact L1) | exact L1
      · dsimp only; exact wpAny_pure (done h' sb x)
    · refine wpAny_bind (wpAny_pure ?_)
      simp only [↓reduceIte]
      refine sk_laid (fun b s₁ Q' z => by cases b <;> first | exact wpAny_pure z | exact wpAny_rule z) ho hex hd hel1 hm1 (by rw [hn1]; exact room) f hn1 L1 fun h' sb x => ?_
      dsimp only
      exact wpAny_pure (done h' sb x)
end
end Sw
set_option Elab.async false
set_option maxRecDepth 100000
set_option maxHeartbeats 4000000
namespace Sw
open PySem L2 PySem.Spec PyProof.Rows
/-- a set of keys, as a thing of the heap -/
def SkO (P : Program) (w : World) (a : Addr) (S : Key → Bool) (n : Nat) : HO := .ext fun h => Sk P w h a S n
theorem sk_new {P : Program} {w : World} {H : Hp} {h : Heap} {a : Addr} {S : Key → Bool} {n : Nat} (x : Sk P w h a S n) : ObjOk P w H h a (SkO P w a S n) := by
  obtain ⟨o, _, _, _, ho, _⟩ := id x
  exact ⟨x, ⟨o, ho⟩, fun _ _ p k => p.keep k⟩
theorem sk_get {X : Cx} {pins : List (Addr × Obj)} {σ : L2.St} {H : Hp} {s : Shared} {a : Addr} {S : Key → Bool} {n : Nat} (I : Inv X pins σ H s) (ha : H a = some (SkO X.prog X.w a S n)) : Sk X.prog X.w s.heap a S n := (I.hok a _ ha).1
section
variable {X : Cx}
theorem call_add_sk {A : Around} {E : Value → Shared → Prop} {P : Program} {w : World} {s : Shared} {a : Addr} {S : Key → Bool} {n : Nat} {k : Key} {u : Value} {Q : Value → Shared → Prop} (hk : (mixKind P w).is k u = true) (hs : u.scannable = true) (x : Sk P w s.heap a S n) (room : n + 1 < scanBound)
    (q : ∀ h', Heap.SameBut a s.heap h' → Sk P w h' a (fun j => S j || decide (j = k)) (if S k = true then n else n + 1) → Q .none { s with heap := h', toks := s.toks + 1 }) :
    wpAny (model P w) A (call (.builtin "set.add") [.ref a, u]) Q E s := by
  refine wpAny_call_entry F.slot_set_add x.of.typeIs F.entry_set_add ?_ (F.args_set_add_2 _ _)
  unfold Builtin.«set.add» Builtin.Frozenset.oneOther
  simp only [List.isEmpty_nil, bind_assoc]
  unfold Builtin.Frozenset.addrOf setAdd
  refine wpAny_bind (wpAny_pure ?_)
  try dsimp only
  refine wpAny_bind (wpAny_pure ?_)
  try dsimp only
  refine wpAny_bind (wpAny_holding (wpAny_bind ((mixKind P w).pyHash hk ?_)))
  refine sk_add_hashed (s := { s with toks := s.toks + 1 }) hk hs x room fun h' sb y => ?_
  show wpAny _ _ (ret Value.none) _ _ _
  exact wpAny_pure ⟨_, rfl, q h' sb y⟩
def rAddSk (P : Program) (w : World) : V → List V → Hp → VK → Prop := fun x xs H Q => ∃ (a : Addr) (k : Key) (S : Key → Bool) (n : Nat), x = V.ref a ∧ xs = [kV k] ∧ H a = some (SkO P w a S n) ∧ n + 1 < scanBound ∧ Q .non (upd H a (SkO P w a (fun j => S j || decide (j = k)) (if S k = true then n else n + 1)))
theorem mt_addSk : MtR X "set.add" (rAddSk X.prog X.w) := by
  intro pins s σ H x xs v us Q I rx rxs h
  obtain ⟨a, k, S, n, rfl, rfl, ha, room, q⟩ := h
  cases rx
  obtain ⟨u, hu⟩ : ∃ u, us = [u] := by
    cases rxs with
    | cons r t => cases t; exact ⟨_, rfl⟩
  subst hu
  have ru : RelV (kV k) u := by
    cases rxs with
    | cons r t => exact r
  refine call_add_sk (kV_is ru) (key_scan ru) (sk_get I ha) room fun h' sb y => ?_
  obtain ⟨o, _, _, _, ho, _⟩ := id y
  exact ⟨.non, _, I.write (e := a) (t' := s.toks + 1) (by rw [ha]; trivial) (.inl rfl) (fun b u hb hu => (sb.2 b hb).trans hu) ⟨o, ho⟩ (sk_new y), rfl, q⟩
/-! ### len -/
def rLenSk (P : Program) (w : World) : List V → Hp → VK → Prop := fun xs H Q => ∃ (D : Addr) (S : Key → Bool) (n : Nat), xs = [V.ref D] ∧ H D = some (SkO P w D S n) ∧ n ≤ 4095 ∧ Q (.int (n : Int)) H
theorem cr_lenSk : CallR X (.builtin "len") (rLenSk X.prog X.w) := by
  intro pins s σ H xs us Q I r h
  obtain ⟨D, S, n, rfl, hD, hn, q⟩ := h
  cases r with
  | cons r t =>
    cases t
    cases r
    obtain ⟨o, es, ep, t, ho, hex, hd, _, _, _, hf, hz⟩ := (sk_get I hD).of
    exact call_len_set ho hex hd hf (by rw [hz]; omega) ⟨.int (n : Int), H, I.tok _, ⟨_, by rw [hz]⟩, q⟩
end
end Sw
set_option Elab.async false
set_option maxRecDepth 100000
set_option maxHeartbeats 4000000
namespace Sw
open PySem L2 PySem.Spec PyProof.Rows
/-! ### set comprehensions of texts, of one clause and of two -/
/-- a comprehension's turn: M what a kept item does -/
def turnOf (p : Pos) (it : Value) (tg : Expr) (ifs : List Expr) (env : Env) (M : Sem PySem.Fin) (code : Code) : Sem PySem.Fin := do
  standAt p
  match ← pyNext it with
  | none => pure (.done .next)
  | some v =>
    letOwnedTupleGo tg it v
    assign tg env v
    let mut ok := true
    for c in ifs do
      if ok then ok ← isTrue c env (eval c env)
    if ok then M else again code
theorem turn1 (elt tg iter : Expr) (ifs : List Expr) (scope : Scope) (pos : Pos) (it acc : Value) (env : Env) :
    compTurn (.SetComp elt [⟨tg, iter, ifs, 0⟩] scope pos) 0 it acc env = turnOf iter.pos it tg ifs env (do (do let v ← eval elt env; standAt elt.pos; let _ ← call (.builtin "set.add") [acc, v]); again (.compLoop (.SetComp elt [⟨tg, iter, ifs, 0⟩] scope pos) 0 it acc env)) (.compLoop (.SetComp elt [⟨tg, iter, ifs, 0⟩] scope pos) 0 it acc env) := by rfl
theorem turn2o (elt tg iter tg1 iter1 : Expr) (ifs ifs1 : List Expr) (scope : Scope) (pos : Pos) (it acc : Value) (env : Env) :
    compTurn (.SetComp elt [⟨tg, iter, ifs, 0⟩, ⟨tg1, iter1, ifs1, 0⟩] scope pos) 0 it acc env = turnOf iter.pos it tg ifs env (do
      let x ← eval iter1 env
      standAt iter1.pos
      let x ← foldedSetIterable iter1 env x
      let _ ← runOwn (.compStart (.SetComp elt [⟨tg, iter, ifs, 0⟩, ⟨tg1, iter1, ifs1, 0⟩] scope pos) 1 (← holding [x] (pyIter x)) acc env) env
      again (.compLoop (.SetComp elt [⟨tg, iter, ifs, 0⟩, ⟨tg1, iter1, ifs1, 0⟩] scope pos) 0 it acc env)) (.compLoop (.SetComp elt [⟨tg, iter, ifs, 0⟩, ⟨tg1, iter1, ifs1, 0⟩] scope pos) 0 it acc env) := by rfl
theorem turn2i (elt tg iter tg1 iter1 : Expr) (ifs ifs1 : List Expr) (scope : Scope) (pos : Pos) (it acc : Value) (env : Env) :
    compTurn (.SetComp elt [⟨tg, iter, ifs, 0⟩, ⟨tg1, iter1, ifs1, 0⟩] scope pos) 1 it acc env = turnOf iter1.pos it tg1 ifs1 env (do (do let v ← eval elt env; standAt elt.pos; let _ ← call (.builtin "set.add") [acc, v]); again (.compLoop (.SetComp elt [⟨tg, iter, ifs, 0⟩, ⟨tg1, iter1, ifs1, 0⟩] scope pos) 1 it acc env))
      (.compLoop (.SetComp elt [⟨tg, iter, ifs, 0⟩, ⟨tg1, iter1, ifs1, 0⟩] scope pos) 1 it acc env) := by rfl
/-- a walk with a thing done each turn, told by heaps; the block's slots are σ0 at each turn's begin -/
def CWalk (J : It) (g : TG) (tt : TT) (body : L2.St → Hp → (Hp → Prop) → Prop) (σ0 : L2.St) (vs : List Nat) (QT : Hp → Prop) (W : Nat → Nat → Hp → Prop) : Prop := ∀ i m H, W i m H →
  (J.stop i H ∧ QT H) ∨ (J.go i H ∧ ∃ Nx : Hp → Prop, (∀ H', Nx H' → ∃ m', m' < m ∧ W (i + 1) m' H') ∧ ∀ x H', J.yld i H x H' → g x σ0 H' fun σ2 H2 => wipe σ2 vs = σ0 ∧ tt σ2 H2 fun b H3 => if b = true then body σ2 H3 Nx else Nx H3)
/-- what M does in a block: from σ2, H to the wish, the slots those that were known -/
def Does (Y : Cx) (M : Sem PySem.Fin) (code : Code) (body : L2.St → Hp → (Hp → Prop) → Prop) (vs : List Nat) : Prop := ∀ (pins : List (Addr × Obj)) (s : Shared) (σ2 : L2.St) (H : Hp) (Nx : Hp → Prop), Inv Y pins σ2 H s → body σ2 H Nx →
  wpAny (model Y.prog Y.w) Y.A M (fun fin s' => fin = .again code ∧ ∃ σ3 H', Inv Y pins σ3 H' s' ∧ (∀ (j : Nat) v, (wipe σ2 vs)[j]? = some (some v) → σ3[j]? = some (some v)) ∧ Nx H') (fun _ _ => False) s
theorem loop_turns {Y : Cx} {e : Expr} {d : Nat} {it : Addr} {acc : Value} {p : Pos} {tg : Expr} {ifs : List Expr} {M : Sem PySem.Fin} {fp : List Addr} {tn : Nat → Heap → Prop} {J : It} {g : TG} {tt : TT} {body : L2.St → Hp → (Hp → Prop) → Prop} {σ0 : L2.St} {vs : List Nat} {QT : Hp → Prop} {W : Nat → Nat → Hp → Prop} {pins : List (Addr × Obj)} {R : Result → Shared → Prop}
    (hq : (Code.compLoop e d (.ref it) acc Y.env).quiet = true) (hU : Y.A.under (.compLoop e d (.ref it) acc Y.env) = Y.A) (hden : (model Y.prog Y.w).den (.compLoop e d (.ref it) acc Y.env) = (compTurn e d (.ref it) acc Y.env).onRaise (fun x => do noteFrame x Y.env; theTreesLotGoes x))
    (ht : compTurn e d (.ref it) acc Y.env = turnOf p (.ref it) tg ifs Y.env M (.compLoop e d (.ref it) acc Y.env))
    (hc : Y.calm = true) (hx : Y.xe = fun _ _ => False) (hfp : ∀ b ∈ fp, b ≠ Y.env.locals ∧ b ∉ Y.fs ∧ (b ∈ Y.ex ∨ Y.s_0.heap.objs.size ≤ b) ∧ (∀ x c, Y.env.cells.lookup x = some c → c ≠ b) ∧ ∀ p ∈ Y.pn ++ pins, p.1 ≠ b)
    (T : Turn Y.prog Y.w Y.K tg J fp it tn) (hg : PG Y tg g) (htt : PTs Y ifs tt) (hM : Does Y M (.compLoop e d (.ref it) acc Y.env) body vs) (h0 : wipe σ0 vs = σ0) (walk : CWalk J g tt body σ0 vs QT W)
    (hR : ∀ H s', Inv Y pins σ0 H s' → QT H → R (.ok .next) s') :
    ∀ (m : Nat) (s : Shared), (∃ i H, Inv Y pins σ0 H s ∧ tn i s.heap ∧ (∀ b ∈ fp, H b = none) ∧ W i m H) → codeAny (model Y.prog Y.w) Y.A (.compLoop e d (.ref it) acc Y.env) R s := by
  intro m s hI
  refine codeAny_loop hq (fun m s => ∃ i H, Inv Y pins σ0 H s ∧ tn i s.heap ∧ (∀ b ∈ fp, H b = none) ∧ W i m H) (fun n s hI => ?_) m hI
  obtain ⟨i, H, I, st, fr, w0⟩ := hI
  rw [hU, hden]
  refine wpAny_noted ?_
  rw [ht]
  unfold turnOf
  have stat : ∀ {H' : Hp}, (∀ b ∈ fp, H' b = none) → ∀ b ∈ fp, FpOk Y pins H' b := fun {H'} hn b hb => ⟨hn b hb, hfp b hb⟩
  refine wpAny_bind (wpAny_standAt ?_)
  rcases walk i n H w0 with ⟨stop, qt⟩ | ⟨hgo, Nx, hN, step⟩
  · refine wpAny_bind (thnF (T.done Y rfl rfl rfl hc i pins s σ0 H (fun _ _ => False) I (stat fr) st stop) fun r s1 ⟨hr, I1⟩ => ?_)
    subst hr
    exact wpAny_pure (hR H s1 I1 qt)
  · refine wpAny_bind (thnF (T.item Y rfl rfl rfl hc i pins s σ0 H (fun _ _ => False) I (stat fr) st hgo) fun r s1 ⟨u, hr, h1⟩ => ?_)
    subst hr
    refine wpAny_bind (thnF h1 fun _ s2 ⟨x, H2, I2, r2, y2, st2, fr2⟩ => ?_)
    have I2' := I2.pinned (stat fr2) (T.obj _ _ st2)
    have h3 := hg.run _ s2 σ0 H2 x u _ I2' r2 (step x H2 y2)
    rw [hx] at h3
    refine wpAny_bind (thnF h3 fun _ s3 ⟨σ3, H3, I3, w3, q3⟩ => ?_)
    have h4 := htt.run _ s3 σ3 H3 _ I3 q3
    rw [hx] at h4
    refine wpAny_bind (thnF h4 fun ok s4 ⟨H4, I4, q4⟩ => ?_)
    have hl : σ0.length = σ3.length := by rw [← w3, wipe_length]
    have fin : ∀ {s' : Shared} {H' : Hp} {σ' : L2.St}, Inv Y (pins ++ pinsAt fp s2.heap) σ' H' s' → (∀ (j : Nat) v, σ0[j]? = some (some v) → σ'[j]? = some (some v)) → Nx H' → ∃ m', m' < n ∧ ∃ i H, Inv Y pins σ0 H s' ∧ tn i s'.heap ∧ (∀ b ∈ fp, H b = none) ∧ W i m' H := fun {s' H' σ'} I' hs nx => by
      obtain ⟨m', hm, w'⟩ := hN H' nx
      have pin' : ∀ b ∈ fp, ∀ o, s2.heap.get? b = some o → s'.heap.get? b = some o ∧ H' b = none := fun b hb o e =>
        let z := I'.pin (b, o) (List.mem_append_right _ (List.mem_append_right _ (mem_pinsAt hb e)))
        ⟨z.1, z.2.1⟩
      refine ⟨m', hm, i + 1, H', I'.unpinned.weak (by rw [hl, I3.len, I'.len]) hs, T.keep _ _ _ st2 fun b hb o e => (pin' b hb o e).1, fun b hb => ?_, w'⟩
      obtain ⟨o, e, _⟩ := T.obj _ _ st2 b hb
      exact (pin' b hb o e).2
    cases ok with
    | false =>
      rw [if_neg Bool.false_ne_true] at q4
      refine wpAny_pure ⟨rfl, fin I4 (fun j v e => ?_) q4⟩
      rw [← w3] at e
      exact (wipe_some e).1
    | true =>
      rw [if_pos rfl] at q4
      refine thnF (hM _ s4 σ3 H4 Nx I4 q4) fun f s5 ⟨ef, σ5, H5, I5, k5, n5⟩ => ?_
      subst ef
      refine ⟨rfl, fin I5 (fun j v e => ?_) n5⟩
      rw [← w3] at e
      exact k5 j v e
end Sw
set_option Elab.async false
set_option maxRecDepth 100000
set_option maxHeartbeats 4000000
namespace Sw
open PySem L2 PySem.Spec PyProof.Rows PpSet
/-! ### the frame of a set comprehension -/
def tSetAdd (P : Program) (w : World) (D : Addr) (te : TE) : L2.St → Hp → (Hp → Prop) → Prop := fun σ2 H Nx => te σ2 H fun y H4 => ∃ (k : Key) (S : Key → Bool) (n : Nat), y = kV k ∧ H4 D = some (SkO P w D S n) ∧ n + 1 < scanBound ∧ Nx (upd H4 D (SkO P w D (fun j => S j || decide (j = k)) (if S k = true then n else n + 1)))
theorem does_add {Y : Cx} {elt : Expr} {te : TE} {D : Addr} {code : Code} {vs : List Nat} (he : PE Y elt te) (hx : Y.xe = fun _ _ => False) :
    Does Y (do (do let v ← eval elt Y.env; standAt elt.pos; let _ ← call (.builtin "set.add") [.ref D, v]); again code) code (tSetAdd Y.prog Y.w D te) vs := by
  intro pins s σ2 H Nx I q
  have h1 := he.run _ s σ2 H _ I q
  rw [hx] at h1
  refine wpAny_bind (wpAny_bind (thnF h1 fun v s1 ⟨y, H1, I1, r1, k, S, n, ey, hD, hn, nx⟩ => ?_))
  subst ey
  refine wpAny_bind (wpAny_standAt (wpAny_bind ?_))
  have h2 := mt_addSk (X := Y) pins s1 σ2 H1 (.ref D) [kV k] (.ref D) [v] (fun _ H' => Nx H') I1 rfl (.cons r1 .nil) ⟨D, k, S, n, rfl, rfl, hD, hn, nx⟩
  rw [hx] at h2
  refine thnF h2 fun _ s2 ⟨_, H2, I2, _, n2⟩ => ?_
  exact wpAny_pure (wpAny_pure ⟨rfl, σ2, H2, I2, fun j v e => (wipe_some e).1, n2⟩)
section
variable {X : Cx} {tg elt iter : Expr} {ifs : List Expr} {rest : List Comprehension} {scope : Scope} {own : List (Str × Nat)} {pos : Pos} {wi : TI}
/-- the block in which the walk runs, told to who proves the loop -/
structure SBlk (X : Cx) (σ : L2.St) (vs : List Nat) (scope : Scope) (D it : Addr) (fp : List Addr) (Y : Cx) : Prop where
  isB : ∃ s3 H3 C cl, Y = X.blk s3 H3 scope (compEnvC scope cl C X.env) fp
theorem set_frame {pins : List (Addr × Obj)} {s : Shared} {σ : L2.St} {H : Hp} {Q : VK} (hc : X.calm = true) (hN : X.N.Nodup) (I : Inv X pins σ H s) (hi : PI X tg iter wi) (ok : BlkOk X.N X.env.scope scope own) (hs : ∀ x, foldedSetIterable iter X.env x = pure x)
    {R0 : It → Addr → Hp → Prop} (h : wi σ H fun J H1 => ∀ D, H1 D = none → R0 J D (upd H1 D (SkO X.prog X.w D (fun _ => false) 0)))
    (loop : ∀ (Y : Cx) (D it : Addr) (J : It) (fp : List Addr) (tn : Nat → Heap → Prop) (H3 : Hp) (s4 : Shared) (R : Result → Shared → Prop), SBlk X σ (own.map (·.2)) scope D it fp Y → Inv Y [] (wipe σ (own.map (·.2))) H3 s4 → Turn Y.prog Y.w Y.K tg J fp it tn → tn 0 s4.heap → (∀ b ∈ fp, H3 b = none) → R0 J D H3 →
      (∀ b ∈ fp, b ≠ Y.env.locals ∧ b ∉ Y.fs ∧ (b ∈ Y.ex ∨ Y.s_0.heap.objs.size ≤ b) ∧ (∀ x c, Y.env.cells.lookup x = some c → c ≠ b) ∧ ∀ p ∈ Y.pn ++ [], p.1 ≠ b) →
      (∀ H s', Inv Y [] (wipe σ (own.map (·.2))) H s' → Q (.ref D) H → R (.ok .next) s') → codeAny (model Y.prog Y.w) Y.A (.compLoop (.SetComp elt (⟨tg, iter, ifs, 0⟩ :: rest) scope pos) 0 (.ref it) (.ref D) Y.env) R s4) :
    wpAny (model X.prog X.w) X.A (eval (.SetComp elt (⟨tg, iter, ifs, 0⟩ :: rest) scope pos) X.env) (EP X pins σ Q) X.xe s := by
  have hCap : ∀ y ∈ scope.names, y.2 = .free → ∃ c, X.env.cells.lookup y.1 = some c := fun y hy e => by
    rcases ok.free y hy e with k | k
    · exact I.ok.has _ (.inl k)
    · exact I.ok.has _ (.inr k)
  rw [eval_SetComp]
  show wpAny _ _ (comprehension (.SetComp elt (⟨tg, iter, ifs, 0⟩ :: rest) scope pos) scope X.env _ (newSet (.type "set")) false (eval iter X.env)) _ _ s
  refine wpAny_comprehension_free (g := ⟨tg, iter, ifs, 0⟩) (gs := rest) (use := none) rfl hs (closure_ok hCap) ok.kind (fun y hy e => by rw [ok.uniq y hy, e]) (thn (hi.run pins s σ H _ I h) fun xv s1 hx => thn hx fun itv s2 h2 => ?_)
  obtain ⟨it, fp, tn, J, H2, e, I2, T, st2, f2, q⟩ := h2
  subst e
  refine newSet_ok (newEnv_comp ?_)
  generalize hD : s2.heap.objs.size = D
  have hDn : H2 D = none := I2.hok.fresh (Nat.le_of_eq hD)
  have q0 := q D hDn
  generalize hs3 : ({ s2 with heap := s2.heap.push { cls := .type "set", dict := none, data := .set #[] 0 (.fresh 0 0 (!X.w.params.followText "set-order")) } } : Shared) = s3
  have I3 : Inv X pins σ (upd H2 D (SkO X.prog X.w D (fun _ => false) 0)) s3 := by
    rw [← hs3]
    refine I2.laid (t' := s2.toks) (fun b o e => Heap.get?_push_of_some _ e) (Nat.le_of_eq hD) ?_
    rw [← hD]
    exact sk_new (Sk.fresh X.prog X.w s2.heap)
  have h3 : s3.heap = s2.heap.push { cls := .type "set", dict := none, data := .set #[] 0 (.fresh 0 0 (!X.w.params.followText "set-order")) } := by rw [← hs3]
  have sz : ∀ b ∈ fp, b < s2.heap.objs.size := fun b hb => by
    obtain ⟨o, e, _⟩ := T.obj _ _ st2 b hb
    exact Heap.lt_size e
  generalize hH3 : upd H2 D (SkO X.prog X.w D (fun _ => false) 0) = H3 at I3 q0
  have f3 : ∀ b ∈ fp, FpOk X pins H3 b ∧ b < s3.heap.objs.size := fun b hb => by
    have hlt := sz b hb
    refine ⟨⟨?_, (f2 b hb).2⟩, by rw [h3, Heap.size_push]; exact Nat.lt_succ_of_lt hlt⟩
    rw [← hH3, upd_ne (by rw [← hD]; exact Nat.ne_of_lt hlt)]
    exact (f2 b hb).1
  have st3 : tn 0 s3.heap := T.keep _ _ _ st2 fun b _ o e => by rw [h3]; exact Heap.get?_push_of_some _ e
  have I4 := block_start I3 ok hN f3
  have kp4 : ∀ b o, s3.heap.get? b = some o → (pushCells (s3.heap.push { cls := .type "dict", data := .dict #[] }) scope.names).get? b = some o := fun b o e => pushCells_keeps _ _ _ _ (Heap.get?_push_of_some _ e)
  have st4 : tn 0 (pushCells (s3.heap.push { cls := .type "dict", data := .dict #[] }) scope.names) := T.keep _ _ _ st3 fun b _ o e => kp4 b o e
  show codeAny _ _ (.compStart (.SetComp elt (⟨tg, iter, ifs, 0⟩ :: rest) scope pos) 0 (.ref it) (.ref D) (compEnvC scope (cellsFrom (s3.heap.objs.size + 1) scope.names (cloFrom X.env.cells scope.names [])) s3.heap.objs.size X.env)) (compPost (model X.prog X.w) X.A X.xe none (EP X pins σ Q) (.ref D) s3.heap.objs.size) { s3 with heap := pushCells (s3.heap.push { cls := .type "dict", data := .dict #[] }) scope.names }
  have lp := loop _ D it J fp tn H3 _ (compPost (model X.prog X.w) X.A X.xe none (EP X pins σ Q) (.ref D) s3.heap.objs.size) ⟨s3, H3, _, _, rfl⟩ I4 T st4 (fun b hb => (f3 b hb).1.1) q0
    (fun b hb => ⟨(I4.ok.exf b hb).1, I4.ok.exfs b hb, .inl hb, fun x c e => (I4.ok.exf b hb).2 x c e, fun p hp => absurd (show p ∈ ([] : List (Addr × Obj)) ++ [] from hp) (by simp)⟩)
    (fun H' s' I6 qq => by
      have I7 : Inv X pins σ H' s' := I3.call' (ch := fp) I6.os I6.base I6.hok I6.bare fun b hb => ⟨(f3 b hb).1.2.2.2.1, (f3 b hb).1.2.1, (f3 b hb).1.2.2.2.2.1, (f3 b hb).1.2.2.2.2.2⟩
      obtain ⟨m, hn, _⟩ := I6.loc
      refine ⟨m, hn, fun h'' sb => ?_⟩
      obtain ⟨f0, f1, f2, f4, f5, f6⟩ := I3.fpOk (b := s3.heap.objs.size) (Nat.le_refl _) (show H' s3.heap.objs.size = none from I6.free)
      exact ⟨.ref D, H', I7.turned (t' := s'.toks) (fun b o hb e => (sb.2 b hb).trans e) f0 f1 f4 f5 f6, rfl, qq⟩)
  exact codeAny_compStart_set lp (T.self X.A 0 _ _ _ st4 lp)
/-- {elt for tg in iter if ..}, elt a text or a whole number -/
def tSet1 (P : Program) (w : World) (wi : TI) (g : TG) (tt : TT) (te : TE) (vs : List Nat) : TE := fun σ H Q => wi σ H fun J H1 => ∀ D, H1 D = none → ∃ W : Nat → Nat → Hp → Prop, (∃ m, W 0 m (upd H1 D (SkO P w D (fun _ => false) 0))) ∧
  CWalk J g tt (tSetAdd P w D te) (wipe σ vs) vs (fun H => Q (.ref D) H) W
theorem wipeSame (σ : L2.St) (vs : List Nat) : wipe (wipe σ vs) vs = wipe σ vs := wipe2 σ vs
theorem pe_set1 {g : TG} {tt : TT} {te : TE} (hc : X.calm = true) (hN : X.N.Nodup) (hi : PI X tg iter wi) (ok : BlkOk X.N X.env.scope scope own)
    (hg : ∀ (s : Shared) (H : Hp) (C : Addr) (cl : List (Str × Addr)) (fp : List Addr), PG (X.blk s H scope (compEnvC scope cl C X.env) fp) tg g) (ht : ∀ (s : Shared) (H : Hp) (C : Addr) (cl : List (Str × Addr)) (fp : List Addr), PTs (X.blk s H scope (compEnvC scope cl C X.env) fp) ifs tt)
    (he : ∀ (s : Shared) (H : Hp) (C : Addr) (cl : List (Str × Addr)) (fp : List Addr), PE (X.blk s H scope (compEnvC scope cl C X.env) fp) elt te) (hs : ∀ x, foldedSetIterable iter X.env x = pure x := by intro _; rfl) :
    PE X (.SetComp elt [⟨tg, iter, ifs, 0⟩] scope pos) (tSet1 X.prog X.w wi g tt te (own.map (·.2))) := by
  refine ⟨fun pins s σ H Q I h => ?_⟩
  refine set_frame hc hN I hi ok hs (R0 := fun J D H3 => ∃ W : Nat → Nat → Hp → Prop, (∃ m, W 0 m H3) ∧ CWalk J g tt (tSetAdd X.prog X.w D te) (wipe σ (own.map Prod.snd)) (own.map Prod.snd) (fun H => Q (.ref D) H) W) h fun Y D it J fp tn H3 s4 R B I4 T st4 fr q0 hfp hR => ?_
  obtain ⟨s3, H3', C, cl, rfl⟩ := B.isB
  obtain ⟨W, ⟨m0, w0⟩, walk⟩ := q0
  exact loop_turns (Y := X.blk s3 H3' scope (compEnvC scope cl C X.env) fp) rfl rfl rfl (turn1 ..) hc rfl hfp T (hg _ _ _ _ _) (ht _ _ _ _ _) (does_add (he _ _ _ _ _) rfl) (wipe2 σ _) walk hR m0 s4 ⟨0, H3, I4, st4, fr, w0⟩
/-! two clauses -/
variable {tg1 iter1 : Expr} {ifs1 : List Expr}
theorem start1 {prog : Program} {w : World} {A : Around} {R : Result → Shared → Prop} {s : Shared} {it acc : Value} {env : Env} (h0 : codeAny (model prog w) A (.compLoop (.SetComp elt [⟨tg, iter, ifs, 0⟩, ⟨tg1, iter1, ifs1, 0⟩] scope pos) 1 it acc env) R s)
    (h : wpAny (model prog w) A (pyIter it) (fun it' s' => codeAny (model prog w) A (.compLoop (.SetComp elt [⟨tg, iter, ifs, 0⟩, ⟨tg1, iter1, ifs1, 0⟩] scope pos) 1 it' acc env) R s') (notedBy (model prog w) A env fun x s' => R (.error x) s') s) :
    codeAny (model prog w) A (.compStart (.SetComp elt [⟨tg, iter, ifs, 0⟩, ⟨tg1, iter1, ifs1, 0⟩] scope pos) 1 it acc env) R s := by
  refine codeAny_of_tree ?_
  show wpAny _ _ ((compStart (.SetComp elt [⟨tg, iter, ifs, 0⟩, ⟨tg1, iter1, ifs1, 0⟩] scope pos) 1 it acc env).onRaise _) _ _ s
  refine wpAny_notedAt ?_
  unfold compStart
  show wpAny _ _ (ask >>= _) _ _ s
  refine wpAny_bind (wpAny_askSetting (wpAny_ite ?_))
  split
  · first
      | exact wpAny_bind (wpAny_pure (wpAny_pure ⟨rfl, h0⟩))
      | exact wpAny_pure ⟨rfl, h0⟩
  · first
      | exact wpAny_bind (wpAny_rule (wpAny_bind (wpAny_standAt (wpAny_bind (wpAny_mono h (fun it' s' h' => wpAny_pure ⟨rfl, h'⟩) fun _ _ x => x)))))
      | (refine wpAny_bind (wpAny_rule ?_); show wpAny _ _ (standAt iter1.pos >>= _) _ _ s; exact wpAny_bind (wpAny_standAt (wpAny_bind (wpAny_mono h (fun it' s' h' => wpAny_pure ⟨rfl, h'⟩) fun _ _ x => x))))
def tInner (wi1 : TI) (g1 : TG) (tt1 : TT) (add : L2.St → Hp → (Hp → Prop) → Prop) (vs1 : List Nat) : L2.St → Hp → (Hp → Prop) → Prop := fun σ2 H Nx => wi1 σ2 H fun J1 H1 => ∃ W1 : Nat → Nat → Hp → Prop, (∃ m, W1 0 m H1) ∧ CWalk J1 g1 tt1 add (wipe σ2 vs1) vs1 Nx W1
theorem does_inner {Y : Cx} {wi1 : TI} {g1 : TG} {tt1 : TT} {te : TE} {D it : Addr} {vs vs1 : List Nat} (hc : Y.calm = true) (hx : Y.xe = fun _ _ => False) (hv : ∀ i ∈ vs1, i ∈ vs) (hi1 : PI Y tg1 iter1 wi1) (hg1 : PG Y tg1 g1) (ht1 : PTs Y ifs1 tt1) (he : PE Y elt te) (hs1 : ∀ x, foldedSetIterable iter1 Y.env x = pure x) :
    Does Y (do
      let x ← eval iter1 Y.env
      standAt iter1.pos
      let x ← foldedSetIterable iter1 Y.env x
      let _ ← runOwn (.compStart (.SetComp elt [⟨tg, iter, ifs, 0⟩, ⟨tg1, iter1, ifs1, 0⟩] scope pos) 1 (← holding [x] (pyIter x)) (.ref D) Y.env) Y.env
      again (.compLoop (.SetComp elt [⟨tg, iter, ifs, 0⟩, ⟨tg1, iter1, ifs1, 0⟩] scope pos) 0 (.ref it) (.ref D) Y.env))
      (.compLoop (.SetComp elt [⟨tg, iter, ifs, 0⟩, ⟨tg1, iter1, ifs1, 0⟩] scope pos) 0 (.ref it) (.ref D) Y.env) (tInner wi1 g1 tt1 (tSetAdd Y.prog Y.w D te) vs1) vs := by
  intro pins s σ2 H Nx I q
  have h1 := hi1.run pins s σ2 H _ I q
  rw [hx] at h1
  refine wpAny_bind (thnF h1 fun xv s1 hxv => wpAny_bind (wpAny_standAt (wpAny_bind (wpAny_of_eq (hs1 xv) (wpAny_bind (wpAny_holding (thnF hxv fun itv s2 h2 => ?_)))))))
  obtain ⟨it1, fp1, tn1, J1, H1, e1, I1, T1, st1, f1, W1, ⟨m1, w1⟩, walk1⟩ := h2
  subst e1
  refine wpAny_bind (wpAny_runOwn ?_)
  rw [Around.mark_none]
  have lp : codeAny (model Y.prog Y.w) Y.A (.compLoop (.SetComp elt [⟨tg, iter, ifs, 0⟩, ⟨tg1, iter1, ifs1, 0⟩] scope pos) 1 (.ref it1) (.ref D) Y.env)
      (fun r s' => match r with
        | .ok _ => ∃ H', Inv Y pins (wipe σ2 vs1) H' s' ∧ Nx H'
        | .error _ => False) s2 :=
    loop_turns (Y := Y) (pins := pins) rfl rfl rfl (turn2i ..) hc hx (fun b hb => (f1 b hb).2) T1 hg1 ht1 (does_add he hx) (wipe2 σ2 vs1) walk1 (fun H' s' I' nx => ⟨H', I', nx⟩) m1 s2
      ⟨0, H1, I1.weak (wipe_length _ _) (fun i v e => (wipe_some e).1), st1, fun b hb => (f1 b hb).1, w1⟩
  refine codeAny_mono (start1 lp (T1.self Y.A 0 _ _ _ st1 lp)) fun r s' hr => ?_
  cases r with
  | error e => exact hr.elim
  | ok f =>
    obtain ⟨H', I', nx⟩ := hr
    refine wpAny_pure ⟨rfl, wipe σ2 vs1, H', I', fun j v e => ?_, nx⟩
    obtain ⟨e1, e2⟩ := wipe_some e
    rw [wipe_out fun z => e2 (hv j z)]
    exact e1
/-- {elt for tg in iter if .. for tg1 in iter1 if ..} -/
def tSet2 (P : Program) (w : World) (wi : TI) (g : TG) (tt : TT) (wi1 : TI) (g1 : TG) (tt1 : TT) (te : TE) (vs vs1 : List Nat) : TE := fun σ H Q => wi σ H fun J H1 => ∀ D, H1 D = none → ∃ W : Nat → Nat → Hp → Prop, (∃ m, W 0 m (upd H1 D (SkO P w D (fun _ => false) 0))) ∧
  CWalk J g tt (tInner wi1 g1 tt1 (tSetAdd P w D te) vs1) (wipe σ vs) vs (fun H => Q (.ref D) H) W
theorem pe_set2 {wi1 : TI} {g g1 : TG} {tt tt1 : TT} {te : TE} {vs1 : List Nat} (hc : X.calm = true) (hN : X.N.Nodup) (hi : PI X tg iter wi) (ok : BlkOk X.N X.env.scope scope own) (hv : ∀ i ∈ vs1, i ∈ own.map (·.2))
    (hg : ∀ (s : Shared) (H : Hp) (C : Addr) (cl : List (Str × Addr)) (fp : List Addr), PG (X.blk s H scope (compEnvC scope cl C X.env) fp) tg g) (ht : ∀ (s : Shared) (H : Hp) (C : Addr) (cl : List (Str × Addr)) (fp : List Addr), PTs (X.blk s H scope (compEnvC scope cl C X.env) fp) ifs tt)
    (hi1 : ∀ (s : Shared) (H : Hp) (C : Addr) (cl : List (Str × Addr)) (fp : List Addr), PI (X.blk s H scope (compEnvC scope cl C X.env) fp) tg1 iter1 wi1)
    (hg1 : ∀ (s : Shared) (H : Hp) (C : Addr) (cl : List (Str × Addr)) (fp : List Addr), PG (X.blk s H scope (compEnvC scope cl C X.env) fp) tg1 g1) (ht1 : ∀ (s : Shared) (H : Hp) (C : Addr) (cl : List (Str × Addr)) (fp : List Addr), PTs (X.blk s H scope (compEnvC scope cl C X.env) fp) ifs1 tt1)
    (he : ∀ (s : Shared) (H : Hp) (C : Addr) (cl : List (Str × Addr)) (fp : List Addr), PE (X.blk s H scope (compEnvC scope cl C X.env) fp) elt te) (hs : ∀ x, foldedSetIterable iter X.env x = pure x := by intro _; rfl) (hs1 : ∀ env x, foldedSetIterable iter1 env x = pure x := by intro _ _; rfl) :
    PE X (.SetComp elt [⟨tg, iter, ifs, 0⟩, ⟨tg1, iter1, ifs1, 0⟩] scope pos) (tSet2 X.prog X.w wi g tt wi1 g1 tt1 te (own.map (·.2)) vs1) := by
  refine ⟨fun pins s σ H Q I h => ?_⟩
  refine set_frame hc hN I hi ok hs (R0 := fun J D H3 => ∃ W : Nat → Nat → Hp → Prop, (∃ m, W 0 m H3) ∧ CWalk J g tt (tInner wi1 g1 tt1 (tSetAdd X.prog X.w D te) vs1) (wipe σ (own.map Prod.snd)) (own.map Prod.snd) (fun H => Q (.ref D) H) W) h fun Y D it J fp tn H3 s4 R B I4 T st4 fr q0 hfp hR => ?_
  obtain ⟨s3, H3', C, cl, rfl⟩ := B.isB
  obtain ⟨W, ⟨m0, w0⟩, walk⟩ := q0
  exact loop_turns (Y := X.blk s3 H3' scope (compEnvC scope cl C X.env) fp) rfl rfl rfl (turn2o ..) hc rfl hfp T (hg _ _ _ _ _) (ht _ _ _ _ _) (does_inner hc rfl hv (hi1 _ _ _ _ _) (hg1 _ _ _ _ _) (ht1 _ _ _ _ _) (he _ _ _ _ _) (hs1 _)) (wipe2 σ _) walk hR m0 s4 ⟨0, H3, I4, st4, fr, w0⟩
/-- walks over tuples, lists -/
theorem cw_tup {K : PySem.W.Frag} {a : Addr} {xs : List V} {g : TG} {tt : TT} {body : L2.St → Hp → (Hp → Prop) → Prop} {σ0 : L2.St} {vs : List Nat} {QT : Hp → Prop} {H : Hp} (Pv : Nat → Hp → Prop) (h0 : Pv 0 H) (hl : ∀ i H, i ≤ xs.length → Pv i H → SqT K H a xs)
    (hs : ∀ i x H, xs[i]? = some x → Pv i H → g x σ0 H fun σ2 H2 => wipe σ2 vs = σ0 ∧ tt σ2 H2 fun b H3 => if b = true then body σ2 H3 (Pv (i + 1)) else Pv (i + 1) H3) (hd : ∀ H, Pv xs.length H → QT H) :
    ∃ W : Nat → Nat → Hp → Prop, (∃ m, W 0 m H) ∧ CWalk (Itt K a) g tt body σ0 vs QT W := by
  refine ⟨fun i m H => i ≤ xs.length ∧ m = xs.length - i ∧ Pv i H, ⟨xs.length, Nat.zero_le _, by simp, h0⟩, ?_⟩
  rintro i m H ⟨hi, rfl, hp⟩
  have hL := hl i H hi hp
  by_cases e : i = xs.length
  · exact .inl ⟨⟨xs, hL, by omega⟩, hd H (by rw [← e]; exact hp)⟩
  · have hlt : i < xs.length := by omega
    refine .inr ⟨⟨xs, xs[i], hL, List.getElem?_eq_getElem hlt⟩, Pv (i + 1), fun H' hq => ⟨_, by omega, hlt, rfl, hq⟩, fun x H' hy => ?_⟩
    obtain ⟨rfl, hx⟩ := hy
    exact hs i x _ (hx xs hL) hp
theorem cw_list {K : PySem.W.Frag} {a : Addr} {xs : List V} {g : TG} {tt : TT} {body : L2.St → Hp → (Hp → Prop) → Prop} {σ0 : L2.St} {vs : List Nat} {QT : Hp → Prop} {H : Hp} (Pv : Nat → Hp → Prop) (h0 : Pv 0 H) (hl : ∀ i H, i ≤ xs.length → Pv i H → SqL K H a xs)
    (hs : ∀ i x H, xs[i]? = some x → Pv i H → g x σ0 H fun σ2 H2 => wipe σ2 vs = σ0 ∧ tt σ2 H2 fun b H3 => if b = true then body σ2 H3 (Pv (i + 1)) else Pv (i + 1) H3) (hd : ∀ H, Pv xs.length H → QT H) :
    ∃ W : Nat → Nat → Hp → Prop, (∃ m, W 0 m H) ∧ CWalk (Itl K a) g tt body σ0 vs QT W := by
  refine ⟨fun i m H => i ≤ xs.length ∧ m = xs.length - i ∧ Pv i H, ⟨xs.length, Nat.zero_le _, by simp, h0⟩, ?_⟩
  rintro i m H ⟨hi, rfl, hp⟩
  have hL := hl i H hi hp
  by_cases e : i = xs.length
  · exact .inl ⟨⟨xs, hL, by omega⟩, hd H (by rw [← e]; exact hp)⟩
  · have hlt : i < xs.length := by omega
    refine .inr ⟨⟨xs, xs[i], hL, List.getElem?_eq_getElem hlt⟩, Pv (i + 1), fun H' hq => ⟨_, by omega, hlt, rfl, hq⟩, fun x H' hy => ?_⟩
    obtain ⟨rfl, hx⟩ := hy
    exact hs i x _ (hx xs hL) hp
end
end Sw
set_option Elab.async false
set_option maxRecDepth 100000
set_option maxHeartbeats 4000000
namespace Sw
open PySem L2 PySem.Spec PyProof.Rows
section
variable {α : Type} [DecidableEq α]
def addNew (O : List α) (k : α) : List α := if k ∈ O then O else O ++ [k]
def nubL (ks : List α) : List α := ks.foldl addNew []
theorem nubL_snoc (ks : List α) (k : α) : nubL (ks ++ [k]) = addNew (nubL ks) k := by unfold nubL; rw [List.foldl_append]; rfl
theorem addNew_nd {O : List α} {k : α} (h : O.Nodup) : (addNew O k).Nodup := by
  unfold addNew
  by_cases e : k ∈ O
  · rw [if_pos e]; exact h
  · rw [if_neg e, (List.perm_append_singleton k O).nodup_iff, List.nodup_cons]; exact ⟨e, h⟩
theorem addNew_mem {O : List α} {k x : α} : x ∈ addNew O k ↔ x ∈ O ∨ x = k := by
  unfold addNew
  by_cases e : k ∈ O
  · rw [if_pos e]
    exact ⟨.inl, fun h => h.elim id fun q => q ▸ e⟩
  · rw [if_neg e, List.mem_append, List.mem_singleton]
theorem fold_nd : ∀ {ks O : List α}, O.Nodup → (ks.foldl addNew O).Nodup
  | [], _, h => h
  | k :: ks, _, h => by rw [List.foldl_cons]; exact fold_nd (addNew_nd h)
theorem nubL_nd (ks : List α) : (nubL ks).Nodup := fold_nd List.nodup_nil
theorem fold_mem {x : α} : ∀ {ks O : List α}, x ∈ ks.foldl addNew O ↔ x ∈ O ∨ x ∈ ks
  | [], _ => by simp
  | k :: ks, O => by
    rw [List.foldl_cons, fold_mem, addNew_mem, List.mem_cons]
    exact ⟨fun h => h.elim (fun h => h.elim .inl fun h => .inr (.inl h)) fun h => .inr (.inr h), fun h => h.elim (fun h => .inl (.inl h)) fun h => h.elim (fun h => .inl (.inr h)) .inr⟩
theorem nubL_mem {ks : List α} {x : α} : x ∈ nubL ks ↔ x ∈ ks := by unfold nubL; rw [fold_mem]; simp
theorem fold_pre : ∀ {ks O : List α}, ∃ B, ks.foldl addNew O = O ++ B
  | [], O => ⟨[], by simp⟩
  | k :: ks, O => by
    rw [List.foldl_cons]
    obtain ⟨B, hB⟩ := fold_pre (ks := ks) (O := addNew O k)
    rw [hB]
    unfold addNew
    by_cases e : k ∈ O
    · rw [if_pos e]; exact ⟨B, rfl⟩
    · rw [if_neg e]; exact ⟨k :: B, by simp⟩
theorem nd_le : ∀ {l L : List α}, l.Nodup → (∀ x, x ∈ l → x ∈ L) → l.length ≤ L.length
  | [], _, _, _ => Nat.zero_le _
  | x :: l, L, nd, h => by
    rw [List.nodup_cons] at nd
    have hx := h x List.mem_cons_self
    have := nd_le (l := l) (L := L.erase x) nd.2 fun y hy => (List.mem_erase_of_ne (fun e => nd.1 (by rw [← e]; exact hy))).mpr (h y (List.mem_cons_of_mem _ hy))
    rw [List.length_erase_of_mem hx] at this
    have := List.length_pos_of_mem hx
    rw [List.length_cons]
    omega
theorem nub_len_le (ks : List α) : (nubL ks).length ≤ ks.length := nd_le (nubL_nd ks) fun x hx => nubL_mem.mp hx
theorem cover_nd : ∀ {l L : List α}, l.Nodup → (∀ x, x ∈ l → x ∈ L) → L.length ≤ l.length → L.Nodup
  | l, [], _, _, _ => List.nodup_nil
  | l, y :: L, nd, h, hl => by
    rw [List.nodup_cons]
    by_cases hy : y ∈ L
    · exfalso
      have := nd_le (l := l) (L := L) nd fun x hx => by
        rcases List.mem_cons.mp (h x hx) with e | e
        · rw [e]; exact hy
        · exact e
      rw [List.length_cons] at hl
      omega
    · refine ⟨hy, cover_nd (l := l.erase y) (nd.sublist List.erase_sublist) (fun x hx => ?_) ?_⟩
      · have hx' := (nd.mem_erase_iff).mp hx
        rcases List.mem_cons.mp (h x hx'.2) with e | e
        · exact absurd e hx'.1
        · exact e
      · by_cases hy2 : y ∈ l
        · rw [List.length_erase_of_mem hy2]
          rw [List.length_cons] at hl
          omega
        · have := nd_le (l := l) (L := L) nd fun x hx => by
            rcases List.mem_cons.mp (h x hx) with e | e
            · exact absurd (e ▸ hx) hy2
            · exact e
          rw [List.length_cons] at hl
          rw [List.erase_of_not_mem hy2]
          omega
end
theorem nub_add (L : List Str) (t : Str) : (nubL (L ++ [t])).length = if t ∈ L then (nubL L).length else (nubL L).length + 1 := by
  rw [nubL_snoc]
  unfold addNew
  by_cases e : t ∈ L
  · rw [if_pos e, if_pos (nubL_mem.mpr e)]
  · rw [if_neg e, if_neg (fun q => e (nubL_mem.mp q)), List.length_append]
    rfl
/-- the texts of a set -/
def TxK (P : Program) (w : World) (H : Hp) (D : Addr) (L : List Str) : Prop := ∃ S, H D = some (SkO P w D S (nubL L).length) ∧ ∀ k, S k = true ↔ ∃ t, t ∈ L ∧ k = Sum.inr t
theorem TxK.same {P : Program} {w : World} {H H' : Hp} {D : Addr} {L : List Str} (h : TxK P w H D L) (s : Same H H') : TxK P w H' D L := by
  obtain ⟨S, h1, h2⟩ := h
  exact ⟨S, s _ _ h1, h2⟩
theorem TxK.nil {P : Program} {w : World} {H : Hp} {D : Addr} : TxK P w (upd H D (SkO P w D (fun _ => false) 0)) D [] := ⟨_, upd_same, fun k => ⟨fun h => (by cases h), fun ⟨t, ht, _⟩ => (by cases ht)⟩⟩
theorem TxK.add {P : Program} {w : World} {H : Hp} {D : Addr} {L : List Str} (t : Str) (S : Key → Bool) (h : ∀ k, S k = true ↔ ∃ t, t ∈ L ∧ k = Sum.inr t) :
    TxK P w (upd H D (SkO P w D (fun j => S j || decide (j = Sum.inr t)) (if S (Sum.inr t) = true then (nubL L).length else (nubL L).length + 1))) D (L ++ [t]) := by
  have e : (if S (Sum.inr t) = true then (nubL L).length else (nubL L).length + 1) = (nubL (L ++ [t])).length := by
    rw [nub_add]
    by_cases q : t ∈ L
    · rw [if_pos q, if_pos ((h _).mpr ⟨t, q, rfl⟩)]
    · rw [if_neg q, if_neg (fun z => by
        obtain ⟨u, hu, e⟩ := (h _).mp z
        cases e
        exact q hu)]
  rw [e]
  refine ⟨_, upd_same, fun k => ?_⟩
  rw [Bool.or_eq_true, h k]
  constructor
  · rintro (⟨u, hu, e⟩ | e)
    · exact ⟨u, List.mem_append_left _ hu, e⟩
    · exact ⟨t, by simp, of_decide_eq_true e⟩
  · rintro ⟨u, hu, e⟩
    rcases List.mem_append.mp hu with hu | hu
    · exact .inl ⟨u, hu, e⟩
    · rw [List.mem_singleton.mp hu] at e
      exact .inr (decide_eq_true e)
/-! ### sorted of a set of texts -/
theorem strs_of {P : Program} {w : World} {S : Key → Bool} {L : List Str} (hS : ∀ k, S k = true ↔ ∃ t, t ∈ L ∧ k = Sum.inr t) : ∀ vs : List Value, (∀ v ∈ vs, ∃ k, (mixKind P w).is k v = true ∧ S k = true) → ∃ ts : List Str, StrsAre vs ts ∧ ∀ t, t ∈ ts → t ∈ L
  | [], _ => ⟨[], .nil, fun t h => by cases h⟩
  | v :: vs, h => by
    obtain ⟨k, h1, h2⟩ := h v (by simp)
    obtain ⟨t, ht, rfl⟩ := (hS k).mp h2
    obtain ⟨ts, h3, h4⟩ := strs_of hS vs fun u hu => h u (List.mem_cons_of_mem _ hu)
    rw [mixKind_is] at h1
    rcases keyIs_shape h1 with ⟨i, u, e, _⟩ | ⟨x, u, e, rfl⟩
    · cases e
    · have ex : t = x := Sum.inr.inj e
      subst ex
      exact ⟨t :: ts, .cons t u h3, fun y hy => by
        rcases List.mem_cons.mp hy with rfl | hy
        · exact ht
        · exact h4 y hy⟩
theorem strs_has {vs : List Value} {ts : List Str} (h : StrsAre vs ts) {t : Str} {u : Tok} (hm : Value.str t u ∈ vs) : t ∈ ts := by
  induction h with
  | nil => cases hm
  | cons y z _ ih =>
    rcases List.mem_cons.mp hm with e | hm
    · cases e; simp
    · exact List.mem_cons_of_mem _ (ih hm)
theorem sorted_sk {P : Program} {w : World} {A : Around} {E : Value → Shared → Prop} {s : Shared} {a : Addr} {S : Key → Bool} {L : List Str} {Q : Value → Shared → Prop} (x : Sk P w s.heap a S (nubL L).length) (hS : ∀ k, S k = true ↔ ∃ t, t ∈ L ∧ k = Sum.inr t) (hh : A.handled = none) (h64 : (nubL L).length < 64)
    (q : ∀ s' p (out : Array Value) (c : Nat) (ys : List Str), (∀ b o, s.heap.get? b = some o → s'.heap.get? b = some o) → s'.gens = s.gens → s'.os = s.os → s.heap.objs.size ≤ p → s'.heap.get? p = some (seqObj "list" out c) → StrsAre out.toList ys → ys.Perm (nubL L) → sortedS ys = true → Q (.ref p) s') :
    wpAny (model P w) A (call (.builtin "sorted") [.ref a]) Q E s := by
  obtain ⟨o, es, ep, t, ho, hex, hd, hel, hm, hb, hf, hn, hr, hl⟩ := x
  refine Calls.call_function_entry kind_sorted plain_sorted entry_sorted (args_sorted1 _) ?_
  unfold Builtin.«sorted»
  refine wpAny_bind (m := checkCount "sorted" 1 1 _) (wpAny_pure ?_)
  refine wpAny_bind (collect_set (A := A.in1) hh ⟨o, ho, hex.1, hd⟩ hf hb hr hl fun s1 vs k1 hz g1 o1 pm => ?_)
  have hvl : vs.length = (nubL L).length := by rw [pm.length_eq, List.length_map, Array.length_toList]; exact hn
  obtain ⟨ts, hts, htL⟩ := strs_of (P := P) (w := w) hS vs fun v hv => by
    obtain ⟨e, he, ev⟩ := List.mem_map.mp (pm.mem_iff.mp hv)
    obtain ⟨⟨k, h1, _⟩, _⟩ := hel e he
    rw [← ev]
    exact ⟨k, h1, (hm k).mpr ⟨e, he, h1⟩⟩
  have htl : ts.length = vs.length := (StrsAre.len_eq hts).symm
  have hLt : ∀ t, t ∈ nubL L → t ∈ ts := fun t ht => by
    obtain ⟨e, he, h1⟩ := (hm (Sum.inr t)).mp ((hS _).mpr ⟨t, nubL_mem.mp ht, rfl⟩)
    have hv : e.2 ∈ vs := pm.mem_iff.mpr (List.mem_map_of_mem he)
    rw [mixKind_is] at h1
    rcases keyIs_shape h1 with ⟨i, u, e', _⟩ | ⟨y, u, e', ev⟩
    · cases e'
    · rw [Sum.inr.inj e']
      rw [ev] at hv
      exact strs_has hts hv
  have hnd : ts.Nodup := cover_nd (nubL_nd L) hLt (by omega)
  have hperm : ts.Perm (nubL L) := (List.perm_ext_iff_of_nodup hnd (nubL_nd L)).mpr fun t => ⟨fun h => nubL_mem.mpr (htL t h), hLt t⟩
  refine wpAny_bind (wpAny_newList ?_ (by rw [hvl, sizeLine_eq]; omega))
  have hoL : (s1.heap.push (seqObj "list" vs.toArray 0)).get? s1.heap.objs.size = some (seqObj "list" vs.toArray 0) := Heap.get?_push_size _ rfl
  refine wpAny_bind (wpAny_holding (wpAny_call_entry slot_list_sort ⟨_, hoL, rfl⟩ entry_list_sort (list_sort_treeK strKind_oneLt hoL hts.keysOf (fun v₁ v₂ rest e => keyKind_strs (by rw [← e]; exact hts)) (by rw [hvl]; exact h64) fun st' hp hs => ?_) (args_list_sort _)))
  obtain ⟨ys, y1, y2, y3⟩ := sorted_out_str hts hp hs
  obtain ⟨c, hc⟩ := sortedHeap_at (vs := vs) (out := (arrOf st').map (·.2)) hoL
  refine ⟨_, rfl, wpAny_pure ⟨_, rfl, q _ s1.heap.objs.size _ c ys (fun b u e => ?_) g1 o1 hz hc y1 (y2.trans hperm) y3⟩⟩
  have r := k1 b u e
  have hlt := Heap.lt_size r
  show (sortedHeap (s1.heap.push (seqObj "list" vs.toArray 0)) s1.heap.objs.size vs _).get? b = some u
  rw [sortedHeap_old (Nat.ne_of_lt hlt) (by rw [size_push']; exact Nat.lt_succ_of_lt hlt)]
  exact Heap.get?_push_of_some _ r
def rSortSk (P : Program) (w : World) : List V → Hp → VK → Prop := fun xs H Q => ∃ (a : Addr) (L : List Str), xs = [V.ref a] ∧ TxK P w H a L ∧ (nubL L).length < 64 ∧ ∀ (ys : List Str) (p : Addr), ys.Perm (nubL L) → sortedS ys = true → H p = none → Q (.ref p) (upd H p (.lst (ys.map V.str)))
theorem cr_sortSk {X : Cx} (hc : X.calm = true) : CallR X (.builtin "sorted") (rSortSk X.prog X.w) := by
  intro pins s σ H vs us Q I r h
  obtain ⟨a, L, rfl, ⟨S, ha, hS⟩, h64, q⟩ := h
  rw [Vals.ref1 r]
  refine sorted_sk (sk_get I ha) hS (I.ok.hd hc) h64 fun s' p out c ys k g o hp hg hi hpm hs => ?_
  have hlen : (ys.map V.str).length ≤ sizeLine := by rw [List.length_map, hpm.length_eq, sizeLine_eq]; omega
  have hn : H p = none := I.hok.fresh hp
  have J : Inv X pins σ (upd H p (.lst (ys.map V.str))) { s with heap := s'.heap, gens := s'.gens, drawn := s'.drawn, toks := s'.toks } :=
    I.call (ch := []) (Un.laid k hp hn) (I.hok.laid k hp ⟨hlen, out.toList, c, vals_of_strs hi, hg⟩) (by rw [g]; exact I.bare) (fun _ z => nomatch z)
  have e : s' = { s with heap := s'.heap, gens := s'.gens, drawn := s'.drawn, toks := s'.toks } := by
    cases s'
    cases s
    cases o
    rfl
  rw [e]
  exact ⟨.ref p, _, J, rfl, q ys p hpm hs hn⟩
end Sw
set_option Elab.async false
set_option maxRecDepth 100000
set_option maxHeartbeats 4000000
namespace Sw
open PySem L2 PySem.Spec PyProof.Rows
/-! ### set(l) of a list of texts -/
def TxSk (P : Program) (w : World) (h : Heap) (a : Addr) (L : List Str) : Prop := ∃ S, Sk P w h a S (nubL L).length ∧ ∀ k, S k = true ↔ ∃ t, t ∈ L ∧ k = Sum.inr t
theorem TxSk.keep {P : Program} {w : World} {h h' : Heap} {a : Addr} {L : List Str} (x : TxSk P w h a L) (k : ∀ o, h.get? a = some o → h'.get? a = some o) : TxSk P w h' a L := by
  obtain ⟨S, h1, h2⟩ := x
  exact ⟨S, h1.keep k, h2⟩
theorem TxSk.more {P : Program} {w : World} {h : Heap} {a : Addr} {L : List Str} {S : Key → Bool} (t : Str) (hS : ∀ k, S k = true ↔ ∃ t, t ∈ L ∧ k = Sum.inr t) (x : Sk P w h a (fun j => S j || decide (j = Sum.inr t)) (if S (Sum.inr t) = true then (nubL L).length else (nubL L).length + 1)) : TxSk P w h a (L ++ [t]) := by
  have e : (if S (Sum.inr t) = true then (nubL L).length else (nubL L).length + 1) = (nubL (L ++ [t])).length := by
    rw [nub_add]
    by_cases q : t ∈ L
    · rw [if_pos q, if_pos ((hS _).mpr ⟨t, q, rfl⟩)]
    · rw [if_neg q, if_neg (fun z => by
        obtain ⟨u, hu, e⟩ := (hS _).mp z
        cases e
        exact q hu)]
  rw [e] at x
  refine ⟨_, x, fun k => ?_⟩
  rw [Bool.or_eq_true, hS k]
  constructor
  · rintro (⟨u, hu, e⟩ | e)
    · exact ⟨u, List.mem_append_left _ hu, e⟩
    · exact ⟨t, by simp, of_decide_eq_true e⟩
  · rintro ⟨u, hu, e⟩
    rcases List.mem_append.mp hu with hu | hu
    · exact .inl ⟨u, hu, e⟩
    · rw [List.mem_singleton.mp hu] at e
      exact .inr (decide_eq_true e)
section
variable {P : Program} {w : World} {A : Around} {E : Value → Shared → Prop} {s : Shared}
theorem set_grows {I : Addr} {fp wr : List Addr} {G : Array GenState → Array GenState → Prop} {n : Nat} {Pv : Nat → Value → Prop} {St : Nat → Shared → Prop} {R : Result → Shared → Prop} (W : WalksS P w A.in1 I fp wr G n Pv St) (D : Addr) (nD : D ∉ fp) (xs : List Str) (hn : n = xs.length) (hb : xs.length + 1 < scanBound) (hv : ∀ i v, Pv i v → ∃ t u, xs[i]? = some t ∧ v = .str t u) :
    ∀ (m i : Nat) (s : Shared), m = n - i → i ≤ n → St i s → TxSk P w s.heap D (xs.take i) → (∀ s', Moved (D :: wr) G s s' → TxSk P w s'.heap D xs → R (.ok (.ret .none)) s') → codeAny (model P w) A (.builtin "set.update.loop" ⟨[.ref D, .ref I], []⟩) R s := by
  have nW : D ∉ wr := fun z => nD (W.sub _ z)
  have wider : ∀ b ∈ wr, b ∈ D :: wr := fun b z => List.mem_cons_of_mem _ z
  intro m
  induction m with
  | zero =>
    intro i s hm hi st x k
    have ei : i = n := by omega
    subst ei
    refine codeAny_builtin F.entry_set_update_loop ?_
    rw [Around.under_plainId F.plain_set_update_loop _]
    show wpAny _ A.in1 (pyNext (.ref I) >>= _) _ _ s
    refine wpAny_bind (W.done s _ _ st fun s' mv => ?_)
    rw [List.take_of_length_le (by omega)] at x
    exact wpAny_pure (k s' (mv.mono wider) (x.keep fun o e => mv.heap D o nW e))
  | succ m ih =>
    intro i s hm hi st ⟨S, x, hS⟩ k
    refine codeAny_builtin F.entry_set_update_loop ?_
    rw [Around.under_plainId F.plain_set_update_loop _]
    show wpAny _ A.in1 (pyNext (.ref I) >>= _) _ _ s
    refine wpAny_bind (W.item i s _ _ (by omega) st fun v s' pv st' mv => ?_)
    obtain ⟨t, u, ht, rfl⟩ := hv i v pv
    have x' := x.keep (h' := s'.heap) fun o e => mv.heap D o nW e
    show wpAny _ A.in1 (holding [Value.str t u] (setAdd D (.str t u)) >>= _) _ _ s'
    refine wpAny_bind (wpAny_holding ?_)
    unfold setAdd
    have ik : (mixKind P w).is (Sum.inr t) (.str t u) = true := by rw [mixKind_is]; exact keyIs_str t u
    have hle : (nubL (xs.take i)).length ≤ xs.length := Nat.le_trans (nub_len_le _) (by rw [List.length_take]; omega)
    refine wpAny_holding (wpAny_bind ((mixKind P w).pyHash ik ?_))
    refine sk_add_hashed (s := { s' with toks := s'.toks + 1 }) ik rfl x' (by omega) fun h' sb y => ?_
    have y' : TxSk P w h' D (xs.take (i + 1)) := by
      rw [List.take_add_one, ht]
      exact TxSk.more t hS y
    refine wpAny_pure ⟨plainId_quiet F.plain_set_update_loop _, ih (i + 1) _ (by omega) (by omega) (W.frame _ s' _ _ st' (Nat.le_succ _) fun b hb o e => ?_) y' fun s'' mv2 z => ?_⟩
    · exact (sb.2 b fun q => nD (q ▸ hb)).trans e
    · exact k s'' (Moved.trans W.gtrans ((mv.mono wider).then_heap (Nat.le_succ _) fun b o hb e => (sb.2 b fun q => hb (by rw [q]; exact List.mem_cons_self)).trans e) mv2) z
abbrev newSet (w : World) : Obj := { cls := .type "set", dict := none, data := .set #[] 0 (.fresh 0 0 (!w.params.followText "set-order")) }
set_option maxRecDepth 100000 in
set_option maxHeartbeats 3200000 in
theorem call_set_tx {l : Addr} {items : Array Value} (xs : List Str) {Q : Value → Shared → Prop} (hh : A.handled = none) (hl : s.heap.IsList l items) (hx : StrsAre items.toList xs) (hb : xs.length + 1 < scanBound)
    (k : ∀ (h' : Heap) (tk : Nat), TxSk P w h' s.heap.objs.size xs → (∀ b o, s.heap.get? b = some o → h'.get? b = some o) → Q (.ref s.heap.objs.size) { s with heap := h', toks := tk }) :
    wpAny (model P w) A (call (.type "set") [.ref l]) Q E s := by
  have sz : items.size = xs.length := by
    have := StrsAre.len_eq hx
    rwa [Array.length_toList] at this
  obtain ⟨c, tl, hmro⟩ := F.called_set.mro
  have g1 := F.called_set.made
  have g2 := F.called_set.sub
  refine wpAny_call (codeAny_of_tree ?_)
  show wpAny _ _ (callAny (.type "set") _) _ _ _
  refine wpAny_pure ⟨Code.quiet_builtin _ (by decide +kernel), codeAny_builtin F.entry_type_call ?_⟩
  rw [Around.under_plain (weight_type_call_type "set" [.ref l] []) rfl]
  have g3 := F.called_set.notType
  have g4 := F.called_set.canCreate
  have g5 := F.typeCall_set_1 (.ref l)
  repeat (any_goals (first | assumption | wp_step))
  refine codeAny_mono (code_set_led1 (.ref l) (E := E) (Q₁ := fun obj s₁ => obj = .ref s.heap.objs.size ∧ s₁ = { s with heap := s.heap.push (newSet w) }) ⟨rfl, rfl⟩) fun r s₁ hr => ?_
  cases r with
  | error e => exact hr
  | ok fl =>
    cases fl with
    | ret obj =>
      obtain ⟨rfl, rfl⟩ := hr
      have aS : (s.heap.push (newSet w)).get? s.heap.objs.size = some (newSet w) := Heap.get?_push_size _ rfl
      have tS : Shared.TypeIs { s with heap := s.heap.push (newSet w) } (.ref s.heap.objs.size) "set" := ⟨_, aS, rfl⟩
      have g6 := F.called_set.init.lookup
      have g7 := F.called_set.init.bind (.ref s.heap.objs.size)
      repeat (any_goals (first | assumption | wp_step))
      refine codeAny_mono (codeAny_call_builtin (R := wants (fun r s₂ => r = .none ∧ ∃ h' tk, s₂ = { s with heap := h', toks := tk } ∧ TxSk P w h' s.heap.objs.size xs ∧ (∀ b o, s.heap.get? b = some o → h'.get? b = some o)) E) F.called_set.init.plain F.entry_set_init (check_set_init_1 tS ?_)) fun r₂ s₂ hr₂ => ?_
      · obtain ⟨ol, hol, hcl, nl, hdl⟩ := hl
        obtain ⟨ocls, odict, odata, oslots⟩ := ol
        simp only at hcl hdl
        subst hcl
        subst hdl
        have al : (s.heap.push (newSet w)).get? l = some { cls := .type "list", dict := odict, data := .seq items nl, slots := oslots } := Heap.get?_push_of_some _ hol
        have g8 := PySem.F.sub_list_set
        have g9 := PySem.F.sub_list_frozenset
        have g10 : (Value.type "list" == Value.type "dict") = false := by decide
        have isl : (s.heap.push (newSet w)).IsList l items := ⟨_, al, rfl, nl, rfl⟩
        unfold Builtin.«set.__init__» noKeywords Builtin.Frozenset.updateFrom
        generalize hPI : pyIter = PI
        wp_walk
        subst hPI
        refine wpAny_pyIter_list isl ?_
        refine wpAny_bind (wpAny_runValue ?_)
        have lS : l < s.heap.objs.size := Heap.lt_size hol
        have hz : (s.heap.push (newSet w)).objs.size = s.heap.objs.size + 1 := Heap.size_push ..
        have hd3 : A.in1.in1.in1.handled = none := by simp [hh]
        have nI : l ≠ (s.heap.push (newSet w)).objs.size := by rw [hz]; exact Nat.ne_of_lt (Nat.lt_succ_of_lt lS)
        have nF : s.heap.objs.size ∉ [(s.heap.push (newSet w)).objs.size, l] := by
          rw [hz]
          simp only [List.mem_cons, List.not_mem_nil, or_false, not_or]
          exact ⟨Nat.ne_of_lt (Nat.lt_succ_self _), Nat.ne_of_gt lS⟩
        have hval : ∀ (i : Nat) (v : Value), items[i]? = some v → ∃ t u, xs[i]? = some t ∧ v = .str t u := fun i v hv => by
          have hi : i < xs.length := by rw [← sz]; exact (Array.getElem?_eq_some_iff.mp hv).1
          obtain ⟨u, e⟩ := SS.strs_at hx i v (by rw [Array.getElem?_toList]; exact hv)
          refine ⟨xs[i], u, List.getElem?_eq_getElem hi, ?_⟩
          rw [e, List.getD_eq_getElem?_getD, List.getElem?_eq_getElem hi]
          rfl
        refine set_grows ((Walks.list hd3 _ l nI items).toS) s.heap.objs.size nF xs sz hb hval (items.size - 0) 0 _ (by omega) (Nat.zero_le _) ⟨⟨_, Heap.get?_push_size _ rfl, rfl, rfl⟩, (isl.push _)⟩ ?hS0 ?hR
        case hS0 =>
          have f0 := Sk.fresh P w s.heap
          exact ⟨_, f0.keep fun o e => Heap.get?_push_of_some _ e, fun k => ⟨fun z => (by cases z), fun ⟨t, ht, _⟩ => (by simp at ht)⟩⟩
        case hR =>
          intro s' mv y
          obtain ⟨h', g2', d', tk', os'⟩ := s'
          have eg : g2' = s.gens := mv.gens
          have ed : d' = s.drawn := mv.drawn
          have eo : os' = s.os := mv.os
          subst eg
          subst ed
          subst eo
          show wpAny _ _ _ _ _ _
          refine wpAny_pure ?_
          show wpAny _ _ (ret Value.none) _ _ _
          refine wpAny_pure ⟨rfl, h', tk', rfl, y, fun b o e => ?_⟩
          have b0 : b < s.heap.objs.size := Heap.lt_size e
          refine mv.heap b o ?_ (Heap.get?_push_of_some _ (Heap.get?_push_of_some _ e))
          rw [hz]
          simp only [List.mem_cons, List.not_mem_nil, or_false, not_or]
          exact ⟨Nat.ne_of_lt b0, Nat.ne_of_lt (Nat.lt_succ_of_lt b0)⟩
      · cases r₂ with
        | error e => exact hr₂
        | ok fl₂ =>
          cases fl₂ with
          | ret r =>
            obtain ⟨rfl, h', tk, rfl, y, kk⟩ := hr₂
            repeat (any_goals (first | assumption | wp_step))
            exact k _ _ y kk
          | _ => exact hr₂.elim
    | _ => exact hr.elim
end
def rSetTx (P : Program) (w : World) (K : PySem.W.Frag) : List V → Hp → VK → Prop := fun vs H Q => ∃ (a : Addr) (xs : List Str), vs = [V.ref a] ∧ SqL K H a (xs.map V.str) ∧ xs.length ≤ 4000 ∧ ∀ (H' : Hp) (p : Addr), Same H H' → H p = none → TxK P w H' p xs → Q (.ref p) H'
theorem cr_setTx {X : Cx} (hc : X.calm = true) : CallR X (.type "set") (rSetTx X.prog X.w X.K) := by
  intro pins s σ H vs us Q I r h
  obtain ⟨a, xs, rfl, hs, hl, q⟩ := h
  obtain ⟨its, rv, pl, _⟩ := I.list hs
  rw [Vals.ref1 r]
  refine call_set_tx xs (I.ok.hd hc) pl.isList (by simpa using rv.strs) (by unfold scanBound; omega) fun h' tk ⟨S, y, hS⟩ kk => ?_
  have np : H s.heap.objs.size = none := I.hok.fresh (Nat.le_refl _)
  exact ⟨.ref _, upd H s.heap.objs.size (SkO X.prog X.w s.heap.objs.size S (nubL xs).length), I.laid (t' := tk) kk (Nat.le_refl _) (sk_new y), rfl, q _ _ (.new np) np ⟨S, upd_same, hS⟩⟩
end Sw
set_option Elab.async false
set_option maxRecDepth 100000
set_option maxHeartbeats 4000000
namespace Sw
open PySem L2 PySem.Spec PyProof.Rows
theorem szb {n : Nat} (h : n ≤ 16000000) : n < sizeLine := by rw [sizeLine_eq]; omega
theorem szl {n : Nat} (h : n ≤ 16000000) : n ≤ sizeLine := by rw [sizeLine_eq]; omega
/-! ### a thing's type, by its data -/
def tyN : PyData → String
  | .none => "NoneType"
  | .bool _ => "bool"
  | .int _ => "int"
  | .str _ => "str"
  | .list _ => "list"
  | .tuple _ => "tuple"
  | .dict _ => "dict"
theorem tyX {K : PySem.W.Frag} {H : Hp} {v : V} {d : PyData} (h : Dp K H v d) : TyX K H v (.type (tyN d)) := by
  cases h with
  | non => exact .base .non
  | bl b => exact .base (.bl b)
  | int i => exact .base (.int i)
  | str x => exact .base (.str x)
  | lst h1 h2 =>
    rcases h1 with (h1 | ⟨o, h1⟩) | ⟨o, its, n, e, c, _⟩
    · exact .base (.lst h1)
    · exact .base (.frz h1)
    · exact .kList e c
  | tup h1 h2 =>
    rcases h1 with (h1 | ⟨o, h1⟩) | ⟨o, its, n, e, c, _⟩
    · exact .base (.tup h1)
    · exact .fTuple h1
    · exact .kTuple e c
/-- the answer of isinstance for the built-in class T -/
theorem isD (K : PySem.W.Frag) (T : String) (f : PyData → Bool) (h1 : kitB "NoneType" T = some (f .none)) (h2 : ∀ b, kitB "bool" T = some (f (.bool b))) (h3 : ∀ i, kitB "int" T = some (f (.int i))) (h4 : ∀ t, kitB "str" T = some (f (.str t)))
    (h5 : ∀ l, kitB "list" T = some (f (.list l))) (h6 : ∀ l, kitB "tuple" T = some (f (.tuple l))) {H : Hp} {v : V} {d : PyData} (h : Dp K H v d) : PySem.W.kitOne K (.type (tyN d)) (.type T) = some (f d) := by
  cases h with
  | non => exact kit_ty h1
  | bl b => exact kit_ty (h2 b)
  | int i => exact kit_ty (h3 i)
  | str x => exact kit_ty (h4 x)
  | lst _ _ => exact kit_ty (h5 _)
  | tup _ _ => exact kit_ty (h6 _)
def isStrD : PyData → Bool
  | .str _ => true
  | _ => false
def isTupD : PyData → Bool
  | .tuple _ => true
  | _ => false
def isLstD : PyData → Bool
  | .list _ => true
  | _ => false
def isBoolD : PyData → Bool
  | .bool _ => true
  | _ => false
def isIntD : PyData → Bool
  | .int _ => true
  | .bool _ => true
  | _ => false
theorem isStr {K : PySem.W.Frag} {H : Hp} {v : V} {d : PyData} (h : Dp K H v d) : PySem.W.kitOne K (.type (tyN d)) (.type "str") = some (isStrD d) :=
  isD K "str" isStrD (by decide +kernel) (fun _ => (by decide +kernel : kitB "bool" "str" = some false)) (fun _ => (by decide +kernel : kitB "int" "str" = some false)) (fun _ => (by decide +kernel : kitB "str" "str" = some true)) (fun _ => (by decide +kernel : kitB "list" "str" = some false)) (fun _ => (by decide +kernel : kitB "tuple" "str" = some false)) h
theorem isTup {K : PySem.W.Frag} {H : Hp} {v : V} {d : PyData} (h : Dp K H v d) : PySem.W.kitOne K (.type (tyN d)) (.type "tuple") = some (isTupD d) :=
  isD K "tuple" isTupD (by decide +kernel) (fun _ => (by decide +kernel : kitB "bool" "tuple" = some false)) (fun _ => (by decide +kernel : kitB "int" "tuple" = some false)) (fun _ => (by decide +kernel : kitB "str" "tuple" = some false)) (fun _ => (by decide +kernel : kitB "list" "tuple" = some false)) (fun _ => (by decide +kernel : kitB "tuple" "tuple" = some true)) h
theorem isLst {K : PySem.W.Frag} {H : Hp} {v : V} {d : PyData} (h : Dp K H v d) : PySem.W.kitOne K (.type (tyN d)) (.type "list") = some (isLstD d) :=
  isD K "list" isLstD (by decide +kernel) (fun _ => (by decide +kernel : kitB "bool" "list" = some false)) (fun _ => (by decide +kernel : kitB "int" "list" = some false)) (fun _ => (by decide +kernel : kitB "str" "list" = some false)) (fun _ => (by decide +kernel : kitB "list" "list" = some true)) (fun _ => (by decide +kernel : kitB "tuple" "list" = some false)) h
theorem isBool {K : PySem.W.Frag} {H : Hp} {v : V} {d : PyData} (h : Dp K H v d) : PySem.W.kitOne K (.type (tyN d)) (.type "bool") = some (isBoolD d) :=
  isD K "bool" isBoolD (by decide +kernel) (fun _ => (by decide +kernel : kitB "bool" "bool" = some true)) (fun _ => (by decide +kernel : kitB "int" "bool" = some false)) (fun _ => (by decide +kernel : kitB "str" "bool" = some false)) (fun _ => (by decide +kernel : kitB "list" "bool" = some false)) (fun _ => (by decide +kernel : kitB "tuple" "bool" = some false)) h
theorem isInt {K : PySem.W.Frag} {H : Hp} {v : V} {d : PyData} (h : Dp K H v d) : PySem.W.kitOne K (.type (tyN d)) (.type "int") = some (isIntD d) :=
  isD K "int" isIntD (by decide +kernel) (fun _ => (by decide +kernel : kitB "bool" "int" = some true)) (fun _ => (by decide +kernel : kitB "int" "int" = some true)) (fun _ => (by decide +kernel : kitB "str" "int" = some false)) (fun _ => (by decide +kernel : kitB "list" "int" = some false)) (fun _ => (by decide +kernel : kitB "tuple" "int" = some false)) h
/-! ### is, is not of truths -/
section
variable {X : Cx}
def rIsB (n : Bool) : R2 := fun x y H Q => ∃ a b, x = .bl a ∧ y = .bl b ∧ Q (.bl (if n then !decide (a = b) else decide (a = b))) H
theorem bool_beq (a b : Bool) : (Value.bool a == Value.bool b) = decide (a = b) := by cases a <;> cases b <;> rfl
theorem op_isB : OpR X (compareOp .Is) (rIsB false) := by
  intro pins s σ H x y v u Q I rx ry h
  obtain ⟨a, b, rfl, rfl, q⟩ := h
  cases (show v = Value.bool a from rx)
  cases (show u = Value.bool b from ry)
  exact wpAny_is_plain rfl (fin_bl I q (bool_beq a b).symm)
theorem op_notB : OpR X (compareOp .IsNot) (rIsB true) := by
  intro pins s σ H x y v u Q I rx ry h
  obtain ⟨a, b, rfl, rfl, q⟩ := h
  cases (show v = Value.bool a from rx)
  cases (show u = Value.bool b from ry)
  exact wpAny_isNot_plain rfl (fin_bl I q (congrArg not (bool_beq a b).symm))
end
/-! ### walks over a text's signs -/
theorem gw_str {x : Str} {go : Bool} {g : TG} {te : TE} {σ0 : L2.St} {vs : List Nat} {QT QF : Hp → Prop} {H : Hp} (Pv : Nat → Hp → Prop) (h0 : Pv 0 H)
    (hs : ∀ i c H, x.cps.toList[i]? = some c → Pv i H → g (.str ⟨#[c]⟩) σ0 H fun σ2 H2 => wipe σ2 vs = σ0 ∧ te σ2 H2 fun y H3 => ∃ b, y = .bl b ∧ if b = go then Pv (i + 1) H3 else QF H3) (hd : ∀ H, Pv x.cps.toList.length H → QT H) :
    ∃ W : Nat → Nat → Hp → Prop, (∃ m, W 0 m H) ∧ GWalk go (Its x) g te σ0 vs QT QF W := by
  have hl : x.cps.toList.length = x.cps.size := by simp
  refine ⟨fun i m H => i ≤ x.cps.size ∧ m = x.cps.size - i ∧ Pv i H, ⟨_, Nat.zero_le _, rfl, h0⟩, ?_⟩
  rintro i m H ⟨hi, rfl, hp⟩
  by_cases e : i = x.cps.size
  · exact .inl ⟨by show x.cps.size ≤ i; omega, hd H (by rw [hl, ← e]; exact hp)⟩
  · refine .inr ⟨by show i < x.cps.size; omega, Pv (i + 1), fun H' hq => ⟨_, by omega, by omega, rfl, hq⟩, fun v H' hy => ?_⟩
    obtain ⟨rfl, c, hc, rfl⟩ := hy
    exact hs i c _ (by rw [Array.getElem?_toList]; exact hc) hp
theorem lc_str {x : Str} {g : TG} {tt : TT} {te : TE} {vs : List Nat} {σ : L2.St} {H1 : Hp} {D : Addr} {Qd : Hp → Prop} (Pv : Nat → Hp → Prop) (h0 : Pv 0 (upd H1 D (.lst [])))
    (hs : ∀ i c H, x.cps.toList[i]? = some c → Pv i H → g (.str ⟨#[c]⟩) (wipe σ vs) H fun σ2 H2 => wipe σ2 vs = wipe σ vs ∧ tt σ2 H2 fun b H3 => if b = true then te σ2 H3 fun y H4 => ∃ acc, H4 D = some (.lst acc) ∧ acc.length < sizeLine ∧ Pv (i + 1) (upd H4 D (.lst (acc ++ [y]))) else Pv (i + 1) H3)
    (hd : ∀ H, Pv x.cps.toList.length H → Qd H) : ∃ W : Nat → Nat → Hp → Prop, (∃ m, W 0 m (upd H1 D (.lst []))) ∧ ∀ i m H, W i m H →
      ((Its x).stop i H ∧ Qd H) ∨ ((Its x).go i H ∧ ∃ Nx : Hp → Prop, (∀ H', Nx H' → ∃ m', m' < m ∧ W (i + 1) m' H') ∧ ∀ v H', (Its x).yld i H v H' → g v (wipe σ vs) H' fun σ2 H2 => wipe σ2 vs = wipe σ vs ∧ tt σ2 H2 fun b H3 =>
        if b = true then te σ2 H3 fun y H4 => ∃ acc, H4 D = some (.lst acc) ∧ acc.length < sizeLine ∧ Nx (upd H4 D (.lst (acc ++ [y]))) else Nx H3) := by
  have hl : x.cps.toList.length = x.cps.size := by simp
  refine ⟨fun i m H => i ≤ x.cps.size ∧ m = x.cps.size - i ∧ Pv i H, ⟨_, Nat.zero_le _, rfl, h0⟩, ?_⟩
  rintro i m H ⟨hi, rfl, hp⟩
  by_cases e : i = x.cps.size
  · exact .inl ⟨by show x.cps.size ≤ i; omega, hd H (by rw [hl, ← e]; exact hp)⟩
  · refine .inr ⟨by show i < x.cps.size; omega, Pv (i + 1), fun H' hq => ⟨_, by omega, by omega, rfl, hq⟩, fun v H' hy => ?_⟩
    obtain ⟨rfl, c, hc, rfl⟩ := hy
    exact hs i c _ (by rw [Array.getElem?_toList]; exact hc) hp
/-! ### t * k of a tuple, of any tuple -/
theorem tuple_mulOne (l : Addr) (items : Array Value) (n : Nat) (dd : Option Addr) (sl : Array (Option Value)) (x : Int) (u : Tok) (c0 : (decide (x < -(2 ^ 63)) || decide (x ≥ 2 ^ 63)) = false) (c1 : (items.isEmpty || x == 1) = true) :
    Meets (Builtin.«tuple.__mul__» ⟨[.ref l, .int x u], []⟩) (fun _ R s => s.heap.get? l = some { cls := .type "tuple", dict := dd, data := .seq items n, slots := sl } ∧ R (.ok (.ret (Value.ref l))) s) :=
  .of_wp fun prog w A R s h => by
    obtain ⟨hp, g, d, tk, os⟩ := s
    obtain ⟨hl, h⟩ := h
    have f1 := AutoSeq1.idx_int
    wp_walk using wpAny_loadPart' hl
    repeat (first
      | (refine wpAny_ite_false (decide_eq_false (by rw [c0]; exact Bool.false_ne_true)) ?_; wp_walk using wpAny_loadPart' hl)
      | (refine wpAny_ite_true (decide_eq_true c1) ?_; wp_walk using wpAny_loadPart' hl))
    exact ⟨_, rfl, h⟩
def rRepA (K : PySem.W.Frag) : R2 := fun x y H Q => ∃ l k xs, x = .ref l ∧ y = .int k ∧ SqT K H l xs ∧ 1 ≤ k ∧ k ≤ 1000 ∧ xs.length ≤ 1000 ∧ ((xs = [] ∨ k = 1) → Q (.ref l) H) ∧ (∀ p, H p = none → Q (.ref p) (upd H p (.tup (List.replicate k.toNat xs).flatten)))
section
variable {X : Cx}
theorem op_repA : OpR X (binaryOp .Mult) (rRepA X.K) := by
  intro pins s σ H x y v u Q I rx ry h
  obtain ⟨l, k, xs, rfl, rfl, hT, h1, h2, hz, q1, q2⟩ := h
  by_cases hc : xs = [] ∨ k = 1
  · cases rx
    obtain ⟨t, rfl⟩ := ry
    obtain ⟨its, r, ⟨⟨cls, dd, data, sl⟩, ho, hcl, n, hd⟩, hs⟩ := I.tuple hT
    simp only at hcl hd
    subst hcl hd
    have hle : its.length = xs.length := r.length.symm
    have c0 : (decide (k < -(2 ^ 63)) || decide (k ≥ 2 ^ 63)) = false := by
      rw [decide_eq_false (by omega), decide_eq_false (by omega)] <;> rfl
    have c1 : (its.toArray.isEmpty || k == 1) = true := by
      rcases hc with hc | hc
      · rw [hc] at hle
        have e := List.eq_nil_of_length_eq_zero hle
        rw [e]
        rfl
      · rw [hc, Bool.or_eq_true]
        exact .inr rfl
    refine wpAny_binaryOp_repeat_ref (T := "tuple") (U := "int") (by decide) ⟨_, ho, rfl⟩ (fun s' => typeIs_int s' k t) noFill_tuple_mul F.fills_int_mul F.slot_int_rmul repeat_tuple F.slot_int_index.lookup
      (call_meets F.slot_int_rmul (typeIs_int s k t) F.entry_int_rmul (F.args_int_rmul_2 _ _) (int_rmul_tuple k t l its.toArray n dd sl)
        ⟨ho, rfl, ⟨_, ho, rfl⟩, call_meets F.slot_tuple_mul ⟨_, ho, rfl⟩ F.entry_tuple_mul (F.args_tuple_mul_2 _ _) (tuple_mulOne l its.toArray n dd sl k t c0 c1) ⟨ho, ?_⟩⟩)
    exact ⟨.ref l, H, I, rfl, q1 hc⟩
  · exact op_repT pins s σ H _ _ v u Q I rx ry ⟨l, k, xs, rfl, rfl, hT, fun e => hc (.inl e), by omega, h2, hz, q2⟩
end
/-! ### a def that holds generator expressions -/
section
variable {P : Program} {w : World} {K : PySem.W.Frag} {mg : Str → Option Value} {base : Heap}
structure DefTab (K : PySem.W.Frag) (mg : Str → Option Value) (base : Heap) (x : Str) (st : Stmt) (ps : List Str) (T : Addr) : Prop where
  ex : ∃ (f : Addr) (oc : Value) (od : Option Addr) (kV doc pm : Value) (an : Option Addr) (c : Addr) (ct : Value) (osl : Array (Option Value)),
    K.lookup f = some ⟨oc, od, .func (PySem.W.fnOf x x (defArgs st) (defBody st) (defScope st) .none kV doc pm an (.ref c) ct), osl⟩ ∧ PySem.W.codeIn K (.ref c) x = true ∧ PySem.W.keepIn K (.ref f) = true ∧ mg x = some (.ref f) ∧
      Binds K (PySem.W.fnOf x x (defArgs st) (defBody st) (defScope st) .none kV doc pm an (.ref c) ct) ps [] ∧ GxR.TabB base mg c T
theorem DefTab.ok {x : Str} {st : Stmt} {N ps : List Str} {k : Nat} {sp : Sp} {T : Addr} (F : DefTab K mg base x st ps T) (S : FnScope N ps (defScope st)) (len : ∀ vs H Q E, sp vs H Q E → vs.length = ps.length)
    (hbody : ∀ (f c : Addr) (A : Around) (outer : List Env) (s : Shared) (H : Hp) (vs : List V) (Q : VK) (E : XK), GxR.TabB base mg c T → Room k (A.deeper (envOfC x (defScope st) s.heap.objs.size f (.ref c))) → sp vs H Q E →
      ∃ t, PSs (cxOf CX0 P w K mg base N x (defScope st) f (.ref c) A outer s H E).nox (defBody st) t ∧ t { nx := fun _ H' => Q .non H', rt := Q } (start N vs) H) : DefOk P w K mg base x (k + 1) ps sp := by
  obtain ⟨f, oc, od, kV, doc, pm, an, c, ct, osl, lk, hcd, kp, hm, hb, TB⟩ := F.ex
  refine ⟨f, _, fn_of lk hcd S len fun A outer s H vs Q E hr hsp => ?_, hm, kp, hb⟩
  obtain ⟨t, h, q⟩ := hbody f c A outer s H vs Q E TB hr hsp
  exact ⟨t, h.nox, q⟩
end
end Sw
set_option Elab.async false
set_option maxRecDepth 100000
set_option maxHeartbeats 4000000
namespace Sw
open PySem L2 PySem.Spec PyProof.Rows HT
/-! ### t[::-1] of a tuple -/
theorem adjust_rev (n : Nat) : Builtin.Slice.sliceAdjust none none (-1) (n : Int) = ((n : Int) - 1, -1) := by
  have h1 : ((-1 : Int) < 0) := by omega
  unfold Builtin.Slice.sliceAdjust
  simp only [h1, if_true]
theorem places_rev (n : Nat) : Builtin.Slice.slicePlaces ((n : Int) - 1) (-1) (-1) = n := by
  unfold Builtin.Slice.slicePlaces
  have h1 : ¬ ((-1 : Int) > 0) := by omega
  simp only [h1, if_false]
  split
  · have e : ((n : Int) - 1 - -1 - 1) / (- -1) + 1 = n := by
      have : (- -1 : Int) = 1 := by omega
      rw [this, Int.ediv_one]
      omega
    rw [e]
    omega
  · omega
theorem fm_congr {α β : Type} {f g : α → Option β} : ∀ {l : List α}, (∀ x, x ∈ l → f x = g x) → l.filterMap f = l.filterMap g
  | [], _ => rfl
  | a :: l, h => by
    rw [List.filterMap_cons, List.filterMap_cons, h a List.mem_cons_self, fm_congr (l := l) fun x hx => h x (List.mem_cons_of_mem _ hx)]
theorem pick_rev (xs : Array Value) : ((List.range xs.size).filterMap fun (k : Nat) => xs[(((xs.size : Int) - 1) + (k : Int) * (-1)).toNat]?).toArray = xs.toList.reverse.toArray := by
  have e1 : ((List.range xs.size).filterMap fun (k : Nat) => xs[(((xs.size : Int) - 1) + (k : Int) * (-1)).toNat]?) = ((List.range xs.size).map (fun k => xs.size - 1 - k)).filterMap (xs[·]?) := by
    rw [List.filterMap_map]
    refine fm_congr fun k hk => ?_
    have hk' : k < xs.size := List.mem_range.mp hk
    have : ((((xs.size : Int) - 1) + (k : Int) * (-1)).toNat) = xs.size - 1 - k := by omega
    rw [this]
    rfl
  rw [e1, PySem.W.krv_range, List.filterMap_reverse, PySem.W.krv_all]
section
variable {prog : Program} {w : World} {A : Around} {E : Value → Shared → Prop} {s : Shared}
theorem slicePart_neg {v : Value} {o : Option Int} {Q : Option Int → Shared → Prop} (p : IsPart v o) (h : Q o s) : wpAny (model prog w) A (Builtin.Slice.slicePartIndex v) Q E s := slicePart_ p h
theorem sliceApplied_rev {sl : Addr} {vs : Value} {n : Nat} {Q : Int × Int × Nat → Shared → Prop} (hs : s.heap.IsSliceOf sl .none .none vs) (ps : IsPart vs (some (-1)))
    (h : Q (((n : Int) - 1), -1, n) s) : wpAny (model prog w) A (Builtin.Slice.sliceApplied (.ref sl) (pure (n : Int))) Q E s := by
  obtain ⟨os, hos, hcs, hds⟩ := id hs
  unfold Builtin.Slice.sliceApplied Builtin.Slice.sliceFields
  refine wpAny_bind (wpAny_bind (wpAny_field hos hds (x := .none) rfl (wpAny_bind (wpAny_field hos hds (x := .none) rfl (wpAny_bind (wpAny_field hos hds (x := vs) rfl (wpAny_pure ?_)))))))
  refine wpAny_bind (slicePart_ ps ?_)
  show wpAny _ _ (if ((-1 : Int) == 0) = true then _ else _) _ _ s
  rw [if_neg (by decide)]
  refine wpAny_bind (slicePart_ .none (wpAny_bind (slicePart_ .none (wpAny_bind (wpAny_pure ?_)))))
  show wpAny _ _ (match Builtin.Slice.sliceAdjust none none (-1) (n : Int) with | (lo, hi) => pure (lo, (-1 : Int), Builtin.Slice.slicePlaces lo hi (-1))) _ _ s
  rw [adjust_rev n]
  show wpAny _ _ (pure ((n : Int) - 1, (-1 : Int), Builtin.Slice.slicePlaces ((n : Int) - 1) (-1) (-1))) _ _ s
  rw [places_rev]
  exact wpAny_pure h
theorem getItem_tuple_rev {t sl : Addr} {items : Array Value} {vs : Value} {Q : Value → Shared → Prop} (ht : IsTup s.heap t items) (hs : s.heap.IsSliceOf sl .none .none vs) (ps : IsPart vs (some (-1)))
    (h : Q (.ref s.heap.objs.size) { s with heap := s.heap.push { cls := .type "tuple", data := .seq items.toList.reverse.toArray } })
    (hsz : items.size ≤ sizeLine) : wpAny (model prog w) A (getItem (.ref t) (.ref sl)) Q E s := by
  have htake : sizeOk (.seq items.toList.reverse.toArray) := by
    show items.toList.reverse.toArray.size ≤ sizeLine
    rw [List.size_toArray, List.length_reverse, Array.length_toList]
    exact hsz
  obtain ⟨os, hos, hcs, hds⟩ := id hs
  have hTs : s.TypeIs (.ref sl) "slice" := ⟨os, hos, hcs⟩
  unfold getItem
  try with_reducible refine wpAny_holding ?_
  first | refine wpAny_bind (wpAny_pure ?_) | skip
  refine wpAny_bind (wpAny_sequenceKey ht.typeIs (by decide) ?_)
  refine wpAny_bind (wpAny_callSpecial?_slot (name := Str.ofString "__getitem__") ht.typeIs PyProof.Rows.slot_tuple_getitem
    (wpAny_call_entry PyProof.Rows.slot_tuple_getitem ht.typeIs entry_tuple_getitem ?_ (args_tuple_getitem _ _)))
  show wpAny _ _ (Builtin.Tuple.tupleItemsOf (.ref t) >>= _) _ _ s
  refine wpAny_bind (tupleItemsOf_ ht ?_)
  refine wpAny_bind (wpAny_typeOf hTs ?_)
  rw [if_pos (by decide)]
  refine wpAny_bind (sliceApplied_rev hs ps ?_)
  have hno : ¬ ((((items.size : Int) - 1) == 0 && (-1 : Int) == 1 && items.size == items.size) = true) := by
    intro q
    rw [Bool.and_eq_true, Bool.and_eq_true] at q
    exact absurd q.1.2 (by decide)
  show wpAny _ _ (if ((((items.size : Int) - 1) == 0 && (-1 : Int) == 1 && items.size == items.size) = true) then _ else _) _ _ s
  rw [if_neg hno, pick_rev]
  first
    | exact wpAny_bind (m := Builtin.Tuple.tupleExact _) (wpAny_newObj_type (wpAny_pure ⟨_, rfl, wpAny_pure h⟩) htake)
    | exact wpAny_bind (m := Builtin.Tuple.tupleExact _) (wpAny_newObj_type (wpAny_bind (wpAny_pure (wpAny_pure ⟨_, rfl, wpAny_pure h⟩))) htake)
    | exact wpAny_bind (wpAny_bind (m := Builtin.Tuple.tupleExact _) (wpAny_newObj_type (wpAny_pure (wpAny_pure ⟨_, rfl, wpAny_pure h⟩)) htake))
    | exact wpAny_bind (wpAny_bind (m := Builtin.Tuple.tupleExact _) (wpAny_newObj_type (wpAny_pure ⟨_, rfl, wpAny_pure h⟩) htake))
end
section
variable {X : Cx}
/-- t[::-1] of a tuple: a new tuple -/
def tRevT (K : PySem.W.Frag) (te : TE) : TE := fun σ H Q => te σ H fun x H1 => ∃ a xs, x = .ref a ∧ SqT K H1 a xs ∧ ∀ p, H1 p = none → Q (.ref p) (upd H1 p (.tup xs.reverse))
theorem pe_revT {e : Expr} {te : TE} {k : Nat} {p1 p2 p3 pos : Pos} (he : PE X e te) : PE X (.Subscript e (.Slice none none (some (.UnaryOp .USub (.Constant (.int 1) k p1) p2)) p3) pos) (tRevT X.K te) := by
  refine ⟨fun pins s σ H Q I h => ?_⟩
  refine Subscript_ (thn (he.run pins s σ H _ I h) fun v s1 ⟨x, H1, I1, r1, q1⟩ => ?_)
  obtain ⟨a, xs, ex, hx, q⟩ := q1
  subst ex
  cases r1
  have hst : PO X (some (.UnaryOp .USub (.Constant (.int 1) k p1) p2)) (tPart (tUn (rU fun i => .int (-i)) (tC (.int 1)))) := po_some (pe_un un_neg pe_int)
  refine wpAny_Slice (thn (po_none.run pins s1 σ H1 (fun o H2 => o = none ∧ H2 = H1) I1 ⟨rfl, rfl⟩) fun vl s2 ⟨l, H2, I2, pl, el, e2⟩ => ?_)
  subst el e2
  refine thn (po_none.run pins s2 σ H2 (fun o H3 => o = none ∧ H3 = H2) I2 ⟨rfl, rfl⟩) fun vu s3 ⟨u, H3, I3, pu, eu, e3⟩ => ?_
  subst eu e3
  refine thn (hst.run pins s3 σ H3 (fun o H4 => o = some (-1) ∧ H4 = H3) I3 ⟨1, rfl, -1, rfl, rfl, rfl⟩) fun vs s4 ⟨o, H4, I4, ps, eo, e4⟩ => ?_
  subst eo e4
  cases pl
  cases pu
  have I5 : Inv X pins σ H4 { s4 with heap := s4.heap.push { cls := .type "slice", data := .fields #[.none, .none, vs] } } := I4.kept (t' := s4.toks) fun b ob q => Heap.get?_push_of_some _ q
  obtain ⟨its, r, ht, hz⟩ := I5.tuple hx
  have hlen := r.length
  have hz2 : its.length ≤ sizeLine := by first | exact hz | omega
  show wpAny (model X.prog X.w) X.A (subscriptTail e (.Slice none none (some (.UnaryOp .USub (.Constant (.int 1) k p1) p2)) p3) (.ref a) (.ref s4.heap.objs.size)) (EP X pins σ Q) X.xe { s4 with heap := s4.heap.push { cls := .type "slice", data := .fields #[.none, .none, vs] } }
  refine tail_any (ops := [.ref a, .ref s4.heap.objs.size]) ht.typeIs (PyProof.Rows.slot_tuple_getitem.lookup) ?_ (by with_unfolding_all rfl)
  refine getItem_tuple_rev ht (Heap.IsSliceOf.new _ .none .none vs) ps ?_ (by rw [List.size_toArray]; exact hz2)
  refine ⟨.ref _, _, I5.laid (t' := s4.toks) (o := .tup xs.reverse) (fun b ob q => Heap.get?_push_of_some _ q) (Nat.le_refl _) ?_, rfl, q _ (I5.hok.fresh (Nat.le_refl _))⟩
  exact ⟨by rw [List.length_reverse]; omega, _, r.reverse, _, Heap.get?_push_size _ rfl, rfl, 0, rfl⟩
end
end Sw
set_option Elab.async false
set_option maxRecDepth 100000
set_option maxHeartbeats 4000000
namespace Sw
open PySem L2 PySem.Spec PyProof.Rows
/-! ### walks told by an invariant over the turn -/
theorem for_enum {K : PySem.W.Frag} {a : Addr} {xs : List V} {g : TG} {tb : TS} {D : Ends} {σ : L2.St} {H : Hp} (Pv : Nat → L2.St → Hp → Prop) (h0 : Pv 0 σ H) (hl : ∀ i σ H, i ≤ xs.length → Pv i σ H → SqL K H a xs)
    (hs : ∀ i x T σ H, xs[i]? = some x → Pv i σ H → H T = none → g (.ref T) σ (upd H T (.tup [.int (i : Nat), x])) fun σ2 H2 => tb { D with nx := Pv (i + 1), ct := Pv (i + 1), bk := D.nx } σ2 H2) (hd : ∀ σ H, Pv xs.length σ H → D.nx σ H) :
    ∃ W : Nat → Nat → L2.St → Hp → Prop, (∃ m, W 0 m σ H) ∧ ∀ i m σ H, W i m σ H →
      ((Ite K a).stop i H ∧ D.nx σ H) ∨ ((Ite K a).go i H ∧ ∃ N : L2.St → Hp → Prop, (∀ σ' H', N σ' H' → ∃ m', m' < m ∧ W (i + 1) m' σ' H') ∧ ∀ x H', (Ite K a).yld i H x H' → g x σ H' fun σ2 H2 => tb { D with nx := N, ct := N, bk := D.nx } σ2 H2) := by
  refine ⟨fun i m σ H => m = xs.length - i ∧ i ≤ xs.length ∧ Pv i σ H, ⟨xs.length, by simp, Nat.zero_le _, h0⟩, ?_⟩
  rintro i m σ H ⟨rfl, hi, hp⟩
  have hL := hl i σ H hi hp
  by_cases e : i = xs.length
  · exact .inl ⟨⟨xs, hL, by omega⟩, hd σ H (by rw [← e]; exact hp)⟩
  · have hlt : i < xs.length := by omega
    refine .inr ⟨⟨xs, xs[i], hL, List.getElem?_eq_getElem hlt⟩, Pv (i + 1), fun σ' H' hq => ⟨_, by omega, rfl, hlt, hq⟩, fun x H' hy => ?_⟩
    obtain ⟨T, y, rfl, hT, rfl, hx⟩ := hy
    exact hs i y T σ H (hx xs hL) hp hT
theorem lc_enum {K : PySem.W.Frag} {a : Addr} {xs : List V} {g : TG} {tt : TT} {te : TE} {vs : List Nat} {σ : L2.St} {H1 : Hp} {D : Addr} {Qd : Hp → Prop} (Pv : Nat → Hp → Prop) (h0 : Pv 0 (upd H1 D (.lst []))) (hl : ∀ i H, i ≤ xs.length → Pv i H → SqL K H a xs)
    (hs : ∀ i x T H, xs[i]? = some x → Pv i H → H T = none → g (.ref T) (wipe σ vs) (upd H T (.tup [.int (i : Nat), x])) fun σ2 H2 => wipe σ2 vs = wipe σ vs ∧ tt σ2 H2 fun b H3 => if b = true then te σ2 H3 fun y H4 => ∃ acc, H4 D = some (.lst acc) ∧ acc.length < sizeLine ∧ Pv (i + 1) (upd H4 D (.lst (acc ++ [y]))) else Pv (i + 1) H3)
    (hd : ∀ H, Pv xs.length H → Qd H) : ∃ W : Nat → Nat → Hp → Prop, (∃ m, W 0 m (upd H1 D (.lst []))) ∧ ∀ i m H, W i m H →
      ((Ite K a).stop i H ∧ Qd H) ∨ ((Ite K a).go i H ∧ ∃ Nx : Hp → Prop, (∀ H', Nx H' → ∃ m', m' < m ∧ W (i + 1) m' H') ∧ ∀ x H', (Ite K a).yld i H x H' → g x (wipe σ vs) H' fun σ2 H2 => wipe σ2 vs = wipe σ vs ∧ tt σ2 H2 fun b H3 =>
        if b = true then te σ2 H3 fun y H4 => ∃ acc, H4 D = some (.lst acc) ∧ acc.length < sizeLine ∧ Nx (upd H4 D (.lst (acc ++ [y]))) else Nx H3) := by
  refine ⟨fun i m H => m = xs.length - i ∧ i ≤ xs.length ∧ Pv i H, ⟨xs.length, by simp, Nat.zero_le _, h0⟩, ?_⟩
  rintro i m H ⟨rfl, hi, hp⟩
  have hL := hl i H hi hp
  by_cases e : i = xs.length
  · exact .inl ⟨⟨xs, hL, by omega⟩, hd H (by rw [← e]; exact hp)⟩
  · have hlt : i < xs.length := by omega
    refine .inr ⟨⟨xs, xs[i], hL, List.getElem?_eq_getElem hlt⟩, Pv (i + 1), fun H' hq => ⟨_, by omega, rfl, hlt, hq⟩, fun x H' hy => ?_⟩
    obtain ⟨T, y, rfl, hT, rfl, hx⟩ := hy
    exact hs i y T H (hx xs hL) hp hT
/-- a dict's entries, the dict locked meanwhile -/
theorem for_items {d : Addr} {od : Obj} {kvs : List (Key × V)} {g : TG} {tb : TS} {D : Ends} {σ : L2.St} {H : Hp} (Pv : Nat → L2.St → Hp → Prop) (h0 : Pv 0 σ H) (hl : ∀ i σ H, i ≤ kvs.length → Pv i σ H → H d = some (.frz od (.dK kvs)))
    (hs : ∀ i k v T σ H, kvs[i]? = some (k, v) → Pv i σ H → H T = none → g (.ref T) σ (upd H T (.tup [kV k, v])) fun σ2 H2 => tb { D with nx := Pv (i + 1), ct := Pv (i + 1), bk := D.nx } σ2 H2) (hd : ∀ σ H, Pv kvs.length σ H → D.nx σ H) :
    ∃ W : Nat → Nat → L2.St → Hp → Prop, (∃ m, W 0 m σ H) ∧ ∀ i m σ H, W i m σ H →
      ((Iti d od kvs).stop i H ∧ D.nx σ H) ∨ ((Iti d od kvs).go i H ∧ ∃ N : L2.St → Hp → Prop, (∀ σ' H', N σ' H' → ∃ m', m' < m ∧ W (i + 1) m' σ' H') ∧ ∀ x H', (Iti d od kvs).yld i H x H' → g x σ H' fun σ2 H2 => tb { D with nx := N, ct := N, bk := D.nx } σ2 H2) := by
  refine ⟨fun i m σ H => m = kvs.length - i ∧ i ≤ kvs.length ∧ Pv i σ H, ⟨kvs.length, by simp, Nat.zero_le _, h0⟩, ?_⟩
  rintro i m σ H ⟨rfl, hi, hp⟩
  have hL := hl i σ H hi hp
  by_cases e : i = kvs.length
  · exact .inl ⟨⟨hL, by omega⟩, hd σ H (by rw [← e]; exact hp)⟩
  · have hlt : i < kvs.length := by omega
    refine .inr ⟨⟨hL, hlt⟩, Pv (i + 1), fun σ' H' hq => ⟨_, by omega, rfl, hlt, hq⟩, fun x H' hy => ?_⟩
    obtain ⟨T, k, v, hk, rfl, hT, rfl⟩ := hy
    exact hs i k v T σ H hk hp hT
/-! ### max(xs, default=d) of whole numbers -/
def rMaxD (K : PySem.W.Frag) : List V → List V → Hp → VK → Prop := fun vs zs H Q => ∃ (a : Addr) (ns : List Int) (d m : Int), vs = [V.ref a] ∧ zs = [V.int d] ∧ SqL K H a (ns.map V.int) ∧ (ns = [] → m = d) ∧ (∀ n r, ns = n :: r → m = r.foldl max n) ∧ Q (.int m) H
theorem depthInts : ∀ ns : List Int, PyData.depthAll (ns.map PyData.int) = 0
  | [] => by simp [PyData.depthAll]
  | n :: r => by simp [PyData.depthAll, PyData.depth, depthInts r]
theorem dpInts {K : PySem.W.Frag} {H : Hp} : ∀ ns : List Int, DpAll K H (ns.map V.int) (ns.map PyData.int)
  | [] => .nil
  | n :: r => .cons (.int n) (dpInts r)
theorem cr_maxD {X : Cx} (hc : X.calm = true) (hu : X.A.units + 64 < cLine) : CallRK X (.builtin "max") [Str.ofString "default"] (rMaxD X.K) := by
  intro pins s σ H vs zs us ws Q I r1 r2 h
  obtain ⟨a, ns, d, m, rfl, rfl, hs, q0, q1, q⟩ := h
  obtain ⟨its, rv, hl, _⟩ := I.list hs
  cases r1 with
  | cons x1 x2 =>
    cases x1
    cases x2
    cases r2 with
    | cons y1 y2 =>
      obtain ⟨td, rfl⟩ := y1
      cases y2
      obtain ⟨as, hr⟩ := Dp.readsAll I (ns.map PyData.int) (ns.map V.int) its (dpInts ns) rv
      have hal : PySem.W.AlikeAll (ns.map PyData.int) := ⟨fun x hx y hy => by
        obtain ⟨i, _, rfl⟩ := List.mem_map.mp hx
        obtain ⟨j, _, rfl⟩ := List.mem_map.mp hy
        rfl, fun x hx => by
        obtain ⟨i, _, rfl⟩ := List.mem_map.mp hx
        intro z
        cases z⟩
      have hun : X.A.units + 1 + PyData.depthAll (ns.map PyData.int) < cLine := by
        rw [depthInts]
        omega
      refine PySem.W.max_list_default (vs := its.toArray) (I.ok.hd hc) hl.isList (by simpa using hr) hal hun (fun e h' tk hk => ?_) (fun y ys i v h' tk bs e hv hrd hk => ?_)
      · have : ns = [] := by simpa using e
        exact ⟨.int d, H, I.kept hk, ⟨_, rfl⟩, by rw [← q0 this]; exact q⟩
      · cases ns with
        | nil => cases e
        | cons n r =>
          rw [List.map_cons] at e
          injection e with e1 e2
          subst e1 e2
          rw [PySem.W.maxD_ints] at hrd
          cases hrd
          exact ⟨.int _, H, I.kept hk, ⟨_, rfl⟩, by rw [← q1 n r rfl]; exact q⟩
end Sw
set_option Elab.async false
set_option maxRecDepth 100000
set_option maxHeartbeats 4000000
namespace PySem
open Sem (wp)
open AutoSeq1 (wpAny_loadPart')
/-! ### enumerate of a tuple, at the library's level -/
theorem meets_enumerate_newT (l : Addr) (items : Array Value) (n : Nat) (dct : Option Addr) (sl : Array (Option Value)) :
    Meets (Builtin.«enumerate.__new__» ⟨[.type "enumerate", .ref l], []⟩) (fun _ R s => s.heap.get? l = some { cls := .type "tuple", dict := dct, data := .seq items n, slots := sl } ∧
      R (.ok (.ret (.ref (s.heap.push { cls := .type "tuple_iterator", data := .fields #[.ref l, .int 0 0] }).objs.size)))
        { s with heap := (s.heap.push { cls := .type "tuple_iterator", data := .fields #[.ref l, .int 0 0] }).push { cls := .type "enumerate", data := .fields #[.none, .bool false, .ref s.heap.objs.size, rawInt 0, .none, .none] } }) :=
  .of_wp fun prog w A R s h => by
    obtain ⟨hp, g, d, tk, os⟩ := s; obtain ⟨hl, h⟩ := h
    have hsub := sub_enumerate
    have hL : Heap.IsTuple (Shared.heap ⟨hp, g, d, tk, os⟩) l items := ⟨_, hl, rfl, n, rfl⟩
    wp_walk using wpAny_loadPart' hl
    refine wpAny_stack_any fun st => wpAny_pure ?_
    split
    · rename_i c _ _ _ _ _
      cases (c == Value.type "enumerate")
      · wp_walk using wpAny_loadPart' hl, wpAny_pyIter_tuple hL
        exact ⟨_, rfl, h⟩
      · wp_walk using wpAny_loadPart' hl, wpAny_pyIter_tuple hL
        exact ⟨_, rfl, h⟩
    · wp_walk using wpAny_loadPart' hl, wpAny_pyIter_tuple hL
      exact ⟨_, rfl, h⟩
section
variable {prog : Program} {w : World} {A : Around} {E : Value → Shared → Prop} {s : Shared}
theorem call_enumerate_tuple {l : Addr} {items : Array Value} {Q : Value → Shared → Prop} (hL : s.heap.IsTuple l items)
    (h : ∀ h', IsEnum h' (s.heap.objs.size + 1) s.heap.objs.size 0 .none → h'.IsTupleIter s.heap.objs.size l 0 → h'.objs.size = s.heap.objs.size + 2 →
      (∀ b o, s.heap.get? b = some o → h'.get? b = some o) → Q (.ref (s.heap.objs.size + 1)) { s with heap := h' }) :
    wpAny (model prog w) A (call (.type "enumerate") [.ref l]) Q E s := by
  obtain ⟨⟨c, dct, dt, sl⟩, hl, hc, n, hd⟩ := hL
  replace hc : c = .type "tuple" := hc
  replace hd : dt = .seq items n := hd
  subst hc hd
  refine callType_new F.called_enumerate (by decide) (F.typeCall_enumerate_1 _) (F.newCall_enumerate_1 _) (fun obj => F.args_object_init_2 obj _) F.entry_enumerate_new
    (meets_enumerate_newT l items n dct sl) ⟨hl, ?_⟩
  have hz : (s.heap.push { cls := .type "tuple_iterator", data := .fields #[.ref l, .int 0 0] }).objs.size = s.heap.objs.size + 1 := Heap.size_push ..
  show _ ∧ _
  rw [hz]
  have he : IsEnum ((s.heap.push { cls := .type "tuple_iterator", data := .fields #[.ref l, .int 0 0] }).push
      { cls := .type "enumerate", data := .fields #[.none, .bool false, .ref s.heap.objs.size, rawInt 0, .none, .none] }) (s.heap.objs.size + 1) s.heap.objs.size 0 .none := by
    have := Heap.get?_push_size (s.heap.push { cls := .type "tuple_iterator", data := .fields #[.ref l, .int 0 0] })
      (o := { cls := .type "enumerate", data := .fields #[.none, .bool false, .ref s.heap.objs.size, rawInt 0, .none, .none] }) rfl
    rw [hz] at this; exact this
  refine ⟨⟨_, he, rfl⟩, h _ he ⟨_, Heap.get?_push_of_some _ (Heap.get?_push_size _ rfl), rfl, rfl⟩ (by rw [Heap.size_push, hz]) fun b o x => Heap.get?_push_of_some _ (Heap.get?_push_of_some _ x)⟩
end
end PySem
namespace Sw
open PySem L2 PySem.Spec PyProof.Rows HT
/-- the tuple at a, each item in a new pair -/
def IteT (K : PySem.W.Frag) (a : Addr) : It :=
  ⟨fun i H => ∃ (xs : List V) (x : V), SqT K H a xs ∧ xs[i]? = some x, fun i H v H' => ∃ T x, v = .ref T ∧ H T = none ∧ H' = upd H T (.tup [.int (i : Nat), x]) ∧ ∀ xs, SqT K H a xs → xs[i]? = some x, fun i H => ∃ xs : List V, SqT K H a xs ∧ xs.length ≤ i⟩
theorem turn_enumT {P : Program} {w : World} {K : PySem.W.Frag} {elts : List Expr} {kk : Nat} {tpos : Pos} (a e it : Addr) :
    Turn P w K (.Tuple elts kk tpos) (IteT K a) [e, it] e (fun i h => (∃ old, IsEnum h e it ((i : Nat) : Int) old) ∧ h.IsTupleIter it a i ∧ e ≠ it ∧ a ≠ it ∧ a ≠ e) where
  mem := by simp
  obj := fun i h st b hb => by
    obtain ⟨⟨old, he⟩, ⟨o, ho, hc, hd⟩, _⟩ := st
    have e' : b = e ∨ b = it := by simpa using hb
    rcases e' with z | z
    · rw [z]; exact ⟨_, he, fun v q => nomatch q⟩
    · rw [z]; exact ⟨o, ho, fun v q => by rw [hd] at q; cases q⟩
  keep := fun i h h' st k => let ⟨⟨old, he⟩, hi, hne⟩ := st; ⟨⟨old, k e (by simp) _ he⟩, hi.at fun o q => k it (by simp) o q, hne⟩
  item := by
    intro X hP hw hK hc i pins s σ H E I hf st hg
    subst hP hw hK
    obtain ⟨⟨old, he⟩, hit, hne, hai, hae⟩ := st
    obtain ⟨xs, x, hq, hx⟩ := hg
    obtain ⟨its, rv, p, hz⟩ := I.tuple hq
    obtain ⟨u, hu, ru⟩ := rv.get hx
    have hel : e < s.heap.objs.size := Heap.lt_size he
    have hil : it < s.heap.objs.size := by obtain ⟨_, q, _⟩ := hit; exact Heap.lt_size q
    have hlt : i < its.toArray.size := by
      have : its[i]? = some u := by simpa using hu
      obtain ⟨q, _⟩ := List.getElem?_eq_some_iff.mp this
      simpa using q
    have D := PySem.Draws.tuple (prog := X.prog) (w := X.w) (A := X.A.in1) (I.ok.hd hc) it a hai its.toArray
    refine wpAny_pyNext_enum_itemD D he ⟨hit, p⟩ hlt hne (by simp [hne, hae.symm]) fun y h' tk hy ho hst' hT hsz hk => ?_
    obtain ⟨hit', hp'⟩ := hst'
    have ey : y = u := by
      have : its.toArray[i]? = some u := by simpa using hu
      rw [this] at hy
      exact (Option.some.inj hy).symm
    subst ey
    refine ⟨_, rfl, wpAny_letOwnedTupleGo_enum (s := { s with heap := h', toks := tk + 1 }) ho fun h'' he' sb => ?_⟩
    have hT2 : h''.get? s.heap.objs.size = some { cls := .type "tuple", data := .seq #[.int i tk, y] } := (sb.2 _ (Nat.ne_of_gt hel)).trans hT
    have new : ObjOk X.prog X.w (upd H s.heap.objs.size (.tup [.int (i : Nat), x])) h'' s.heap.objs.size (.tup [.int (i : Nat), x]) :=
      ⟨by show 2 ≤ sizeLine; decide, [.int i tk, y], .cons ⟨_, rfl⟩ (.cons ru .nil), ⟨_, hT2, rfl, _, rfl⟩⟩
    have I1 : Inv X pins σ (upd H s.heap.objs.size (.tup [.int (i : Nat), x])) { s with heap := h'', toks := tk + 1 } :=
      I.turnedNew (ch := [e, it]) (fun b ob hb q => (sb.2 b (fun z => hb (by simp [z]))).trans (hk b ob (fun z => hb (by simp [z])) (fun z => hb (by simp [z])) q)) hf (Nat.le_refl _) new
    refine ⟨.ref s.heap.objs.size, _, I1, rfl, ⟨_, x, rfl, I.hok.fresh (Nat.le_refl _), rfl, fun ys hy => by rw [I.tuple_inj hy hq]; exact hx⟩, ⟨⟨y, ?_⟩, hit'.at fun o q => (sb.2 it (Ne.symm hne)).trans q, hne, hai, hae⟩, fun b hb => ?_⟩
    · have e1 : ((i + 1 : Nat) : Int) = (i : Int) + 1 := by omega
      rw [e1]; exact he'
    · have hb' : b < s.heap.objs.size := by
        have e' : b = e ∨ b = it := by simpa using hb
        rcases e' with z | z
        · rw [z]; exact hel
        · rw [z]; exact hil
      rw [upd_ne (Nat.ne_of_lt hb')]
      exact (hf b hb).1
  done := by
    intro X hP hw hK hc i pins s σ H E I hf st hg
    subst hP hw hK
    obtain ⟨⟨old, he⟩, hit, hne, hai, hae⟩ := st
    obtain ⟨xs, hq, hx⟩ := hg
    obtain ⟨its, rv, p, hz⟩ := I.tuple hq
    obtain ⟨f0, f1, f2, f3, f4, f5⟩ := hf it (by simp)
    have hl := rv.length
    have hle : xs.length ≤ i := hx
    have D := PySem.Draws.tuple (prog := X.prog) (w := X.w) (A := X.A.in1) (I.ok.hd hc) it a hai its.toArray
    have hT : s.TypeIs (.ref e) "enumerate" := ⟨_, he, rfl⟩
    unfold pyNext
    refine wpAny_bind (wpAny_attempt (wpAny_callSpecial?_slot (name := Str.ofString "__next__") hT F.slot_enumerate_next
      (wpAny_call_entry F.slot_enumerate_next hT F.entry_enumerate_next ?_ (F.args_enumerate_next_1 _))))
    show wpAny _ _ (field (.ref e) 2 >>= _) _ _ _
    refine wpAny_bind (wpAny_field he rfl (x := .ref it) rfl ?_)
    refine wpAny_bind (wpAny_nextOf_tuple_end (I.ok.hd hc) hit p (by simp; omega) fun h' x eb hx' => ?_)
    obtain ⟨o, ho, hc'⟩ := hx'
    refine wpAny_bind (wpAny_isInstance (T := "StopIteration") (b := true) ⟨o, ho, hc'⟩ isSubtype_stop ?_)
    exact wpAny_pure ⟨rfl, I.turned (t' := s.toks) (fun b o hb q => eb b o hb q) f0 f1 f3 f4 f5⟩
  self := fun A i s Q E st h => let ⟨⟨_, he⟩, _⟩ := st; wpAny_pyIter_enum he h
def iEnumT (K : PySem.W.Frag) (ta : TA) : TI := fun σ H R => ta σ H fun vs H1 => ∃ a xs, vs = [.ref a] ∧ SqT K H1 a xs ∧ R (IteT K a) H1
theorem pi_enumT {X : Cx} {e : Expr} {ta : TA} {p pos tpos : Pos} {elts : List Expr} {kk : Nat} (hg : Gl X "enumerate") (hm : X.mg "enumerate" = none) (ha : PA X [e] ta) (hs : starEach [e] X.env = [(false, eval e X.env)] := by rfl) :
    PI X (.Tuple elts kk tpos) (.Call (.Name "enumerate" p) [e] [] pos) (iEnumT X.K ta) := by
  refine ⟨fun pins s σ H R I h => ?_⟩
  refine Call_ (ld_blt I hg hm boot_enumerate (PyProof.Rows.callWith_type1 (thn (ha.run pos pins s σ H _ I h) fun us s1 ⟨vs, H1, I1, r1, q1⟩ => ?_) hs rfl))
  obtain ⟨a, xs, ex, hq, q⟩ := q1
  subst ex
  cases r1 with
  | cons r rr =>
    cases rr
    cases r
    obtain ⟨its, rv, p', hz⟩ := I1.tuple hq
    have hal : a < s1.heap.objs.size := by
      obtain ⟨o, ho, _⟩ := p'
      exact Heap.lt_size ho
    refine call_enumerate_tuple p' fun h' he hit hsz hk => wpAny_pyIter_enum he ?_
    have I2 : Inv X pins σ H1 { s1 with heap := h' } := I1.kept (t' := s1.toks) hk
    refine ⟨s1.heap.objs.size + 1, [s1.heap.objs.size + 1, s1.heap.objs.size], _, _, H1, rfl, I2, turn_enumT a (s1.heap.objs.size + 1) s1.heap.objs.size, ⟨⟨.none, he⟩, hit, Nat.succ_ne_self _, Nat.ne_of_lt hal, Nat.ne_of_lt (Nat.lt_succ_of_lt hal)⟩, fun b hb => ?_, q⟩
    have e' : b = s1.heap.objs.size + 1 ∨ b = s1.heap.objs.size := by simpa using hb
    have hle : s1.heap.objs.size ≤ b := by
      rcases e' with z | z
      · rw [z]; exact Nat.le_add_right _ _
      · rw [z]; exact Nat.le_refl _
    exact I1.fpOk hle (I1.hok.fresh hle)
theorem for_enumT {K : PySem.W.Frag} {a : Addr} {xs : List V} {g : TG} {tb : TS} {D : Ends} {σ : L2.St} {H : Hp} (Pv : Nat → L2.St → Hp → Prop) (h0 : Pv 0 σ H) (hl : ∀ i σ H, i ≤ xs.length → Pv i σ H → SqT K H a xs)
    (hs : ∀ i x T σ H, xs[i]? = some x → Pv i σ H → H T = none → g (.ref T) σ (upd H T (.tup [.int (i : Nat), x])) fun σ2 H2 => tb { D with nx := Pv (i + 1), ct := Pv (i + 1), bk := D.nx } σ2 H2) (hd : ∀ σ H, Pv xs.length σ H → D.nx σ H) :
    ∃ W : Nat → Nat → L2.St → Hp → Prop, (∃ m, W 0 m σ H) ∧ ∀ i m σ H, W i m σ H →
      ((IteT K a).stop i H ∧ D.nx σ H) ∨ ((IteT K a).go i H ∧ ∃ N : L2.St → Hp → Prop, (∀ σ' H', N σ' H' → ∃ m', m' < m ∧ W (i + 1) m' σ' H') ∧ ∀ x H', (IteT K a).yld i H x H' → g x σ H' fun σ2 H2 => tb { D with nx := N, ct := N, bk := D.nx } σ2 H2) := by
  refine ⟨fun i m σ H => m = xs.length - i ∧ i ≤ xs.length ∧ Pv i σ H, ⟨xs.length, by simp, Nat.zero_le _, h0⟩, ?_⟩
  rintro i m σ H ⟨rfl, hi, hp⟩
  have hL := hl i σ H hi hp
  by_cases e : i = xs.length
  · exact .inl ⟨⟨xs, hL, by omega⟩, hd σ H (by rw [← e]; exact hp)⟩
  · have hlt : i < xs.length := by omega
    refine .inr ⟨⟨xs, xs[i], hL, List.getElem?_eq_getElem hlt⟩, Pv (i + 1), fun σ' H' hq => ⟨_, by omega, rfl, hlt, hq⟩, fun x H' hy => ?_⟩
    obtain ⟨T, y, rfl, hT, rfl, hx⟩ := hy
    exact hs i y T σ H (hx xs hL) hp hT
end Sw
set_option Elab.async false
set_option maxRecDepth 100000
set_option maxHeartbeats 4000000
namespace Sw
open PySem L2 PySem.Spec PyProof.Rows
def top (i : Nat) : Stmt := PySem.Challenge.pw_soleway_k05_forms_written_and_read.main.body.getD i (.Pass ⟨0, 0, 0, 0⟩)
abbrev s_parts_of : Stmt := top 4
abbrev s_laid : Stmt := top 5
abbrev s_is_whole : Stmt := top 14
abbrev s_is_sign : Stmt := top 15
abbrev s_is_form : Stmt := top 16
abbrev s_is_piece : Stmt := top 17
abbrev s_are_parts : Stmt := top 18
abbrev s_are_counts : Stmt := top 19
abbrev s_signs_of : Stmt := top 20
abbrev s_form_text : Stmt := top 23
abbrev s_spelled : Stmt := top 24
abbrev s_read_form : Stmt := top 25
abbrev s_fits : Stmt := top 26
abbrev s_take : Stmt := top 27
abbrev s_put : Stmt := top 28
abbrev s_counts : Stmt := top 29
abbrev s_law_cell : Stmt := top 31
abbrev s_law_sign : Stmt := top 32
abbrev s_law_times : Stmt := top 33
abbrev s_law_form : Stmt := top 34
abbrev s_law_inner : Stmt := top 35
abbrev s_law_words : Stmt := top 36
abbrev s_law_whole : Stmt := top 37
abbrev s_law_word : Stmt := top 38
abbrev s_law_named : Stmt := top 39
abbrev s_law : Stmt := top 40
end Sw
set_option Elab.async false
set_option maxRecDepth 100000
set_option maxHeartbeats 4000000
namespace Sw
open PySem L2 PySem.Spec PyProof.Rows
section
variable {P : Program} {w : World} {K : PySem.W.Frag} {mg : Str → Option Value} {base : Heap}
abbrev n_parts_of : List Str := ["form"]
theorem sc_parts_of : FnScope n_parts_of ["form"] (defScope s_parts_of) := ⟨rfl, rfl, rfl, by decide +kernel, rfl, by decide +kernel, by decide +kernel⟩
def spParts (K : PySem.W.Frag) : Sp := fun vs H Q _ => ∃ v f, vs = [v] ∧ FmAt K H v f ∧ ∀ H' a ws, Same H H' → SqT K H' a ws → FmsAt K H' ws f.parts → Q (.ref a) H'
theorem kindNe {f : Fm} {x y : Str} (h : f.kind = x) (n : ¬ x = y) : decide (V.str f.kind = V.str y) = false := decide_eq_false fun e => n (by rw [← h]; exact V.str.inj e)
theorem ok_parts_of (F : DefAt K mg "parts_of" s_parts_of ["form"]) : DefOk P w K mg base "parts_of" 1 ["form"] (spParts K) := by
  refine F.ok sc_parts_of (fun vs H Q E h => ?_) (fun f cdv A outer s H vs Q E hr h => ?_)
  · obtain ⟨v, f, rfl, _⟩ := h
    rfl
  obtain ⟨v, f, rfl, hf, k⟩ := h
  refine ⟨_, (pss_cons (ps_if (pt_cmpR op_eq (pe_ix ix_tup (pv 0) pe_int (fun _ _ => rfl)) pe_str (nomark _)) (pss_one (ps_ret (pe_tup pa_nil))) pss_nil)
    (pss_cons (ps_if (pt_cmpR op_eq (pe_ix ix_tup (pv 0) pe_int (fun _ _ => rfl)) pe_str (nomark _)) (pss_one (ps_ret (pe_tup (pa_cons (pe_ix ix_tup (pv 0) pe_int (fun _ _ => rfl)) pa_nil)))) pss_nil)
    (pss_one (ps_ret (pe_ix ix_tup (pv 0) pe_int (fun _ _ => rfl)))))), ?_⟩
  cases f with
  | sign s =>
    obtain ⟨a, rfl, ht⟩ := fmSign hf
    refine ⟨_, rfl, a, _, 0, _, rfl, rfl, ht, atI_nat (j := 0) rfl, rfl, _, rfl, ?_⟩
    refine iteT ?_
    refine ⟨(by show 0 ≤ sizeLine; decide), fun p hp => ?_⟩
    exact k _ p [] (.new hp) (sT upd_same) .nil
  | row ps =>
    obtain ⟨a, b, vs, rfl, ht, hb, hv⟩ := fmRow hf
    refine ⟨_, rfl, a, _, 0, _, rfl, rfl, ht, atI_nat (j := 0) rfl, rfl, _, rfl, ?_⟩
    refine iteF ?_
    refine ⟨_, rfl, a, _, 0, _, rfl, rfl, ht, atI_nat (j := 0) rfl, rfl, _, rfl, ?_⟩
    refine iteF ?_
    refine ⟨_, rfl, a, _, 1, _, rfl, rfl, ht, atI_nat (j := 1) rfl, ?_⟩
    exact k _ b vs (Same.refl _) hb hv
  | pick ps =>
    obtain ⟨a, b, vs, rfl, ht, hb, hv⟩ := fmPick hf
    refine ⟨_, rfl, a, _, 0, _, rfl, rfl, ht, atI_nat (j := 0) rfl, rfl, _, rfl, ?_⟩
    refine iteF ?_
    refine ⟨_, rfl, a, _, 0, _, rfl, rfl, ht, atI_nat (j := 0) rfl, rfl, _, rfl, ?_⟩
    refine iteF ?_
    refine ⟨_, rfl, a, _, 1, _, rfl, rfl, ht, atI_nat (j := 1) rfl, ?_⟩
    exact k _ b vs (Same.refl _) hb hv
  | times p low high =>
    obtain ⟨a, u, rfl, ht, hp⟩ := fmTimes hf
    refine ⟨_, rfl, a, _, 0, _, rfl, rfl, ht, atI_nat (j := 0) rfl, rfl, _, rfl, ?_⟩
    refine iteF ?_
    refine ⟨_, rfl, a, _, 0, _, rfl, rfl, ht, atI_nat (j := 0) rfl, rfl, _, rfl, ?_⟩
    refine iteT ?_
    refine ⟨_, rfl, a, _, 1, _, rfl, rfl, ht, atI_nat (j := 1) rfl, (by show 1 ≤ sizeLine; decide), fun q hq => ?_⟩
    exact k _ q [u] (.new hq) (sT upd_same) (.cons (dpS (.new hq) hp) .nil)
end
end Sw
set_option Elab.async false
set_option maxRecDepth 100000
set_option maxHeartbeats 4000000
namespace Sw
open PySem L2 PySem.Spec PyProof.Rows
/-! ### the pieces of a form, laid -/
mutual
def Fm.size : Fm → Nat
  | .sign _ => 1
  | .row ps => 1 + Fm.sizes ps
  | .pick ps => 1 + Fm.sizes ps
  | .times p _ _ => 1 + p.size
def Fm.sizes : List Fm → Nat
  | [] => 0
  | p :: ps => p.size + Fm.sizes ps
end
theorem Fm.size_eq (f : Fm) : f.size = 1 + Fm.sizes f.parts := by
  cases f <;> simp [Fm.size, Fm.parts, Fm.sizes]
theorem Fm.size_pos (f : Fm) : 0 < f.size := by rw [Fm.size_eq]; omega
def starts : List Fm → Nat → List Nat
  | [], _ => []
  | p :: ps, n => n :: starts ps (n + p.size)
mutual
def laidF : Fm → Nat → List (Fm × List Nat)
  | .sign s, _ => [(.sign s, [])]
  | .row ps, n => (.row ps, starts ps (n + 1)) :: laidFs ps (n + 1)
  | .pick ps, n => (.pick ps, starts ps (n + 1)) :: laidFs ps (n + 1)
  | .times p l h, n => (.times p l h, [n + 1]) :: laidF p (n + 1)
def laidFs : List Fm → Nat → List (Fm × List Nat)
  | [], _ => []
  | p :: ps, n => laidF p n ++ laidFs ps (n + p.size)
end
theorem laidF_eq (f : Fm) (n : Nat) : laidF f n = (f, starts f.parts (n + 1)) :: laidFs f.parts (n + 1) := by
  cases f <;> simp [laidF, Fm.parts, starts, laidFs]
mutual
theorem laidF_length : ∀ (f : Fm) (n : Nat), (laidF f n).length = f.size
  | .sign s, n => by simp [laidF, Fm.size]
  | .row ps, n => by simp [laidF, Fm.size, laidFs_length ps]; omega
  | .pick ps, n => by simp [laidF, Fm.size, laidFs_length ps]; omega
  | .times p l h, n => by simp [laidF, Fm.size, laidF_length p]; omega
theorem laidFs_length : ∀ (ps : List Fm) (n : Nat), (laidFs ps n).length = Fm.sizes ps
  | [], n => by simp [laidFs, Fm.sizes]
  | p :: ps, n => by simp [laidFs, Fm.sizes, laidF_length p, laidFs_length ps]
end
abbrev Lay := List (Fm × List Nat)
def addk (n : Nat) (t : Fm × List Nat) : Fm × List Nat := (t.1, t.2 ++ [n])
/-- what comes of the pieces told and the pieces ahead -/
def comp : Lay → List (Fm × Nat) → Lay
  | T, [] => T
  | T, (p, ar) :: S => comp (T.modify ar (addk T.length) ++ laidF p T.length) S
theorem modify_mid {α : Type} (A B : List α) (x : α) (f : α → α) : (A ++ x :: B).modify A.length f = A ++ f x :: B := by
  induction A with
  | nil => rfl
  | cons a A ih => simp [List.modify_succ_cons, ih]
theorem comp_parts (p : Fm) (n : Nat) (T0 : Lay) (h0 : T0.length = n) : ∀ (ps : List Fm) (ks : List Nat) (R : Lay) (S : List (Fm × Nat)),
    comp (T0 ++ (p, ks) :: R) (ps.map (fun q => (q, n)) ++ S) = comp (T0 ++ (p, ks ++ starts ps (n + 1 + R.length)) :: (R ++ laidFs ps (n + 1 + R.length))) S
  | [], ks, R, S => by simp [starts, laidFs]
  | q :: qs, ks, R, S => by
    have hl : (T0 ++ (p, ks) :: R).length = n + 1 + R.length := by simp [h0]; omega
    show comp ((T0 ++ (p, ks) :: R).modify n (addk (T0 ++ (p, ks) :: R).length) ++ laidF q (T0 ++ (p, ks) :: R).length) (qs.map (fun q => (q, n)) ++ S) = _
    have e : (T0 ++ (p, ks) :: R).modify n (addk (n + 1 + R.length)) = T0 ++ (p, ks ++ [n + 1 + R.length]) :: R := by
      rw [← h0, modify_mid]
      rfl
    rw [hl, e, List.append_assoc, List.cons_append, comp_parts p n T0 h0 qs]
    have l2 : n + 1 + (R ++ laidF q (n + 1 + R.length)).length = n + 1 + R.length + q.size := by rw [List.length_append, laidF_length]; omega
    rw [l2]
    simp [starts, laidFs, List.append_assoc]
theorem comp_step (T : Lay) (p : Fm) (ar : Nat) (S : List (Fm × Nat)) : comp T ((p, ar) :: S) = comp (T.modify ar (addk T.length) ++ [(p, [])]) (p.parts.map (fun q => (q, T.length)) ++ S) := by
  have h := comp_parts p T.length (T.modify ar (addk T.length)) (by simp) p.parts [] [] S
  rw [h]
  show comp (T.modify ar (addk T.length) ++ laidF p T.length) S = _
  rw [laidF_eq]
  simp
theorem comp_length : ∀ (T : Lay) (S : List (Fm × Nat)), (comp T S).length = T.length + Fm.sizes (S.map (·.1))
  | T, [] => by simp [comp, Fm.sizes]
  | T, (p, ar) :: S => by
    rw [comp, comp_length _ S]
    simp [laidF_length, Fm.sizes]
    omega
theorem sizes_append : ∀ (a b : List Fm), Fm.sizes (a ++ b) = Fm.sizes a + Fm.sizes b
  | [], b => by simp [Fm.sizes]
  | p :: a, b => by simp [Fm.sizes, sizes_append a b]; omega

/-! ### the same in the heap -/
theorem fmsMap {K : PySem.W.Frag} {H H' : Hp} (s : ∀ a xs, Rd H a (.tup xs) → Rd H' a (.tup xs)) : (∀ (f : Fm) (v : V), FmAt K H v f → FmAt K H' v f) := by
  have key : ∀ (a : Addr) (xs : List V), SqT K H a xs → SqT K H' a xs := fun a xs h => by
    rcases h with h | h
    · exact .inl (s _ _ h)
    · exact .inr h
  intro f
  induction f using Fm.rec (motive_2 := fun fs => ∀ vs, FmsAt K H vs fs → FmsAt K H' vs fs) with
  | sign x => intro v h; obtain ⟨a, rfl, h1⟩ := fmSign h; exact .tup (key _ _ h1) (.cons (.str _) (.cons (.str _) .nil))
  | row ps ih => intro v h; obtain ⟨a, b, vs, rfl, h1, h2, h3⟩ := fmRow h; exact .tup (key _ _ h1) (.cons (.str _) (.cons (.tup (key _ _ h2) (ih _ h3)) .nil))
  | pick ps ih => intro v h; obtain ⟨a, b, vs, rfl, h1, h2, h3⟩ := fmPick h; exact .tup (key _ _ h1) (.cons (.str _) (.cons (.tup (key _ _ h2) (ih _ h3)) .nil))
  | times p l u ih => intro v h; obtain ⟨a, w, rfl, h1, h2⟩ := fmTimes h; exact .tup (key _ _ h1) (.cons (.str _) (.cons (ih _ h2) (.cons (.int _) (.cons (highDp u) .nil))))
  | nil => rename_i h; cases dpNil h; exact .nil
  | cons p ps ih1 ih2 => rename_i h; obtain ⟨v, us, rfl, h1, h2⟩ := dpCons h; exact .cons (ih1 _ h1) (ih2 _ h2)
theorem fmsAll {K : PySem.W.Frag} {H H' : Hp} (s : ∀ a xs, Rd H a (.tup xs) → Rd H' a (.tup xs)) : ∀ (fs : List Fm) (vs : List V), FmsAt K H vs fs → FmsAt K H' vs fs
  | [], _, h => by cases dpNil h; exact .nil
  | f :: fs, _, h => by
    obtain ⟨v, us, rfl, h1, h2⟩ := dpCons h
    exact .cons (fmsMap s f v h1) (fmsAll s fs us h2)
theorem keepTup {H : Hp} {p : Addr} {xs : List V} {o : HO} (h : H p = some (.lst xs)) : ∀ a ys, Rd H a (.tup ys) → Rd (upd H p o) a (.tup ys) := fun a ys r => by
  have n : a ≠ p := by
    rintro rfl
    rcases r with r | ⟨o, r⟩ <;> (rw [h] at r; cases r)
  rcases r with r | ⟨o, r⟩
  · exact .inl (by rw [upd_ne n]; exact r)
  · exact .inr ⟨o, by rw [upd_ne n]; exact r⟩
theorem sqTW {K : PySem.W.Frag} {H : Hp} {p a : Addr} {xs ys : List V} {o : HO} (h : H p = some (.lst xs)) (t : SqT K H a ys) : SqT K (upd H p o) a ys := by
  rcases t with t | t
  · exact .inl (keepTup h _ _ t)
  · exact .inr t
/-- a list may be written: forms stay -/
theorem fmW {K : PySem.W.Frag} {H : Hp} {p : Addr} {xs : List V} {o : HO} (h : H p = some (.lst xs)) {f : Fm} {v : V} (hf : FmAt K H v f) : FmAt K (upd H p o) v f := by
  refine fmsMap (fun a ys r => ?_) f v hf
  have n : a ≠ p := by
    rintro rfl
    rcases r with r | ⟨o, r⟩ <;> (rw [h] at r; cases r)
  rcases r with r | ⟨o, r⟩
  · exact .inl (by rw [upd_ne n]; exact r)
  · exact .inr ⟨o, by rw [upd_ne n]; exact r⟩
abbrev Row := Addr × V × Addr
def kidsV (ks : List Nat) : List V := ks.map fun (n : Nat) => V.int (n : Int)
structure RowsAt (K : PySem.W.Frag) (H : Hp) (rs : List Row) (T : Lay) : Prop where
  len : rs.length = T.length
  at_ : ∀ (i : Nat) (r : Row) (t : Fm × List Nat), rs[i]? = some r → T[i]? = some t → H r.1 = some (.tup [r.2.1, .ref r.2.2]) ∧ FmAt K H r.2.1 t.1 ∧ H r.2.2 = some (.lst (kidsV t.2))
theorem RowsAt.same {K : PySem.W.Frag} {H H' : Hp} {rs : List Row} {T : Lay} (R : RowsAt K H rs T) (s : Same H H') : RowsAt K H' rs T :=
  ⟨R.len, fun i r t h1 h2 => by obtain ⟨a, b, c⟩ := R.at_ i r t h1 h2; exact ⟨s _ _ a, dpS s b, s _ _ c⟩⟩
/-- another list is written -/
theorem RowsAt.other {K : PySem.W.Frag} {H : Hp} {rs : List Row} {T : Lay} {p : Addr} {xs : List V} {o : HO} (R : RowsAt K H rs T) (hp : H p = some (.lst xs)) (n : ∀ r, r ∈ rs → r.2.2 ≠ p) : RowsAt K (upd H p o) rs T :=
  ⟨R.len, fun i r t h1 h2 => by
    obtain ⟨a, b, c⟩ := R.at_ i r t h1 h2
    exact ⟨by rw [upd_ne (ne_of a hp (by intro z; cases z))]; exact a, fmW hp b, by rw [upd_ne (n r (List.mem_of_getElem? h1))]; exact c⟩⟩
theorem kidsV_app (ks : List Nat) (n : Nat) : kidsV (ks ++ [n]) = kidsV ks ++ [V.int (n : Int)] := by simp [kidsV]
/-- the list of one piece's numbers grows -/
theorem RowsAt.grow {K : PySem.W.Frag} {H : Hp} {rs : List Row} {T : Lay} {ar n : Nat} {r : Row} {t : Fm × List Nat} (R : RowsAt K H rs T) (h1 : rs[ar]? = some r) (h2 : T[ar]? = some t) (nd : (rs.map (·.2.2)).Nodup) :
    RowsAt K (upd H r.2.2 (.lst (kidsV t.2 ++ [V.int (n : Int)]))) rs (T.modify ar (addk n)) := by
  refine ⟨by rw [List.length_modify]; exact R.len, fun i r' t' g1 g2 => ?_⟩
  obtain ⟨a, b, c⟩ := R.at_ ar r t h1 h2
  rw [List.getElem?_modify] at g2
  obtain ⟨t0, g3, g4⟩ : ∃ t0, T[i]? = some t0 ∧ (if ar = i then addk n t0 else t0) = t' := by
    cases e : T[i]? with
    | none => rw [e] at g2; cases g2
    | some t0 => rw [e] at g2; exact ⟨t0, rfl, by simpa using g2⟩
  obtain ⟨a', b', c'⟩ := R.at_ i r' t0 g1 g3
  have hb : FmAt K (upd H r.2.2 (.lst (kidsV t.2 ++ [V.int (n : Int)]))) r'.2.1 t0.1 := fmW c b'
  have ha : upd H r.2.2 (.lst (kidsV t.2 ++ [V.int (n : Int)])) r'.1 = some (.tup [r'.2.1, .ref r'.2.2]) := by rw [upd_ne (ne_of a' c (by intro z; cases z))]; exact a'
  by_cases hi : ar = i
  · subst hi
    rw [if_pos rfl] at g4
    subst g4
    cases h1.symm.trans g1
    cases h2.symm.trans g3
    refine ⟨ha, hb, ?_⟩
    rw [upd_same]
    show some (HO.lst _) = some (HO.lst (kidsV (t.2 ++ [n])))
    rw [kidsV_app]
  · rw [if_neg hi] at g4
    subst g4
    have ne : r'.2.2 ≠ r.2.2 := fun q => hi (nd_ix nd (by rw [List.getElem?_map, h1]; rfl) (by rw [List.getElem?_map, g1]; exact congrArg some q))
    exact ⟨ha, hb, by rw [upd_ne ne]; exact c'⟩
/-- one more piece -/
theorem RowsAt.snoc {K : PySem.W.Frag} {H : Hp} {rs : List Row} {T : Lay} {r : Row} {t : Fm × List Nat} (R : RowsAt K H rs T) (a : H r.1 = some (.tup [r.2.1, .ref r.2.2])) (b : FmAt K H r.2.1 t.1) (c : H r.2.2 = some (.lst (kidsV t.2))) : RowsAt K H (rs ++ [r]) (T ++ [t]) := by
  refine ⟨by rw [List.length_append, List.length_append, R.len]; rfl, fun i r' t' g1 g2 => ?_⟩
  by_cases hi : i < rs.length
  · rw [List.getElem?_append_left hi] at g1
    rw [List.getElem?_append_left (by rw [← R.len]; exact hi)] at g2
    exact R.at_ i r' t' g1 g2
  · rw [List.getElem?_append_right (by omega)] at g1
    rw [List.getElem?_append_right (by rw [← R.len]; omega), ← R.len] at g2
    have h0 : i - rs.length = 0 := by
      cases e : i - rs.length with
      | zero => rfl
      | succ j => rw [e] at g1; simp at g1
    rw [h0] at g1 g2
    cases g1
    cases g2
    exact ⟨a, b, c⟩
/-- the pieces ahead: pairs of a form and the number of the piece around it -/
abbrev StkAt (K : PySem.W.Frag) (H : Hp) (as : List Addr) (S : List (Fm × Nat)) : Prop := Paired (fun a s => ∃ u, H a = some (.tup [u, .int (s.2 : Int)]) ∧ FmAt K H u s.1) as S
theorem pairedMap {α β : Type} {F G : α → β → Prop} : ∀ {l₁ : List α} {l₂ : List β}, Paired F l₁ l₂ → (∀ a b, F a b → G a b) → Paired G l₁ l₂
  | _, _, .nil, _ => .nil
  | _, _, .cons r t, f => .cons (f _ _ r) (pairedMap t f)
theorem pairedApp {α β : Type} {F : α → β → Prop} : ∀ {a₁ : List α} {b₁ : List β} {a₂ : List α} {b₂ : List β}, Paired F a₁ b₁ → Paired F a₂ b₂ → Paired F (a₁ ++ a₂) (b₁ ++ b₂)
  | _, _, _, _, .nil, g => g
  | _, _, _, _, .cons r t, g => .cons r (pairedApp t g)
theorem StkAt.same {K : PySem.W.Frag} {H H' : Hp} {as : List Addr} {S : List (Fm × Nat)} (R : StkAt K H as S) (s : Same H H') : StkAt K H' as S := pairedMap R fun a b ⟨u, h1, h2⟩ => ⟨u, s _ _ h1, dpS s h2⟩
theorem StkAt.w {K : PySem.W.Frag} {H : Hp} {as : List Addr} {S : List (Fm × Nat)} {p : Addr} {xs : List V} {o : HO} (R : StkAt K H as S) (hp : H p = some (.lst xs)) : StkAt K (upd H p o) as S :=
  pairedMap R fun a b ⟨u, h1, h2⟩ => ⟨u, by rw [upd_ne (ne_of h1 hp (by intro z; cases z))]; exact h1, fmW hp h2⟩
/-- what laid tells: a list of pairs -/
def LaidAt (K : PySem.W.Frag) (H : Hp) (a : Addr) (T : Lay) : Prop := ∃ rs : List Row, H a = some (.lst (rs.map fun r => V.ref r.1)) ∧ RowsAt K H rs T
theorem LaidAt.same {K : PySem.W.Frag} {H H' : Hp} {a : Addr} {T : Lay} (h : LaidAt K H a T) (s : Same H H') : LaidAt K H' a T := by
  obtain ⟨rs, h1, h2⟩ := h
  exact ⟨rs, s _ _ h1, h2.same s⟩
end Sw
set_option Elab.async false
set_option maxRecDepth 100000
set_option maxHeartbeats 4000000
namespace Sw
open PySem L2 PySem.Spec PyProof.Rows
/-! ### is_sign, is_row -/
def letter (c : Nat) : Bool := decide (97 ≤ c) && decide (c ≤ 122)
def signS (t : Str) : Bool := decide (1 ≤ t.length) && decide (t.length ≤ 6) && t.cps.toList.all letter
def signD : PyData → Bool
  | .str t => signS t
  | _ => false
def rowD : PyData → Bool
  | .tuple ds => ds.all signD
  | _ => false
theorem lt_one (a b : Nat) : decide ([a] < [b]) = decide (a < b) := by
  by_cases h : a < b
  · rw [decide_eq_true h]; exact decide_eq_true (List.Lex.rel h)
  · rw [decide_eq_false h]
    refine decide_eq_false fun z => ?_
    cases z with
    | rel q => exact h q
    | cons q => cases q
section
variable {P : Program} {w : World} {K : PySem.W.Frag} {mg : Str → Option Value} {base : Heap}
abbrev n_is_sign : List Str := ["thing", "letter"]
theorem sc_is_sign : FnScope n_is_sign ["thing"] (defScope s_is_sign) := ⟨rfl, rfl, rfl, by decide +kernel, rfl, by decide +kernel, by decide +kernel⟩
def spIsSign (K : PySem.W.Frag) (T : Addr) : Sp := fun vs H Q _ => ∃ v d, vs = [v] ∧ Dp K H v d ∧ (∀ t, d = .str t → t.length ≤ 1000) ∧ H T = some (TabE T) ∧ Q (.bl (signD d)) H
theorem ok_is_sign {T : Addr} (F : DefTab K mg base "is_sign" s_is_sign ["thing"] T) (b_all : mg "all" = none) (b_isinstance : mg "isinstance" = none) (b_len : mg "len" = none) (b_str : mg "str" = none) (g_ml : ∃ t, mg "_MOST_LETTERS" = some (.int 6 t)) :
    DefOk P w K mg base "is_sign" 2 ["thing"] (spIsSign K T) := by
  obtain ⟨tml, g_ml⟩ := g_ml
  refine F.ok sc_is_sign (fun vs H Q E h => ?_) (fun f c A outer s H vs Q E TB hr h => ?_)
  · obtain ⟨_, _, rfl, _⟩ := h
    rfl
  obtain ⟨v, d, rfl, hd, hl, hT, k⟩ := h
  refine ⟨_, (pss_cons (ps_if (PW.pt (pw_or (pt_not (pt_val (pe_callB call_isi (by rfl) b_isinstance (by decide +kernel) (pa_cons (pv 0) (pa_cons (pe_bltn (v := .ty "str") (by rfl) b_str (by decide +kernel) rfl) pa_nil))))) (pw_or1 (pt_not (pt_chain op_le op_le pe_int (pe_callB call_len_str (by rfl) b_len PySem.boot_len (pa_cons (pv 0) pa_nil)) (pe_glob (v := .int 6) rfl g_ml ⟨_, rfl⟩)))))) (pss_one (ps_ret pe_bl)) pss_nil)
    (pss_one (ps_ret (pe_allG rfl hr rfl b_all sc_is_sign.nd TB rfl (blkOk_by (own := [("letter", 1)]) (N := n_is_sign) (sc := defScope s_is_sign) (by decide +kernel)) ⟨rfl, by decide +kernel, by rfl⟩ (pi_str (pv 0)) (fun _ _ _ _ _ _ _ _ => (pg_name (i := 1) sc_is_sign.nd rfl (Or.inl rfl))) (fun _ _ _ _ _ _ _ _ => (pe_chain op_le_str op_le_str pe_str (pv 1) pe_str)))))), ?_⟩
  refine ⟨v, rfl, v, .ty "str", _, _, _, rfl, .ty _, tyX hd, isStr hd, _, rfl, ?_⟩
  by_cases hs : ∃ t, d = .str t
  · obtain ⟨t, rfl⟩ := hs
    cases hd
    have hlt := hl t rfl
    refine iteF ?_
    refine ⟨_, rfl, t, rfl, szl (by omega), _, _, rfl, rfl, _, rfl, ?_⟩
    have body : decide (1 ≤ t.length) = true → decide (t.length ≤ 6) = true → tGen T (iStr (tVar 0)) (gName 1) (tChain (fun x y H Q => ∃ i j, x = V.str i ∧ y = V.str j ∧ Q (V.bl !decide (j.cps.toList < i.cps.toList)) H)
        (fun x y H Q => ∃ i j, x = V.str i ∧ y = V.str j ∧ Q (V.bl !decide (j.cps.toList < i.cps.toList)) H) (tC (V.str (Str.ofString "a"))) (tVar 1) (tC (V.str (Str.ofString "z")))) [1] true (L2.start n_is_sign [V.str t]) H Q := fun h1 h6 => by
      refine ⟨_, rfl, t, rfl, hT, ?_⟩
      refine gw_str (fun i H' => H' = H ∧ (t.cps.toList.take i).all letter = true) ⟨rfl, by rfl⟩ ?_ ?_
      · rintro i cc H' hc ⟨rfl, ha⟩
        have hgo : ∀ b, b = letter cc → ∃ b_1, V.bl b = V.bl b_1 ∧ if b_1 = true then (H' = H' ∧ (t.cps.toList.take (i + 1)).all letter = true) else Q (.bl (!true)) H' := fun b eb => by
          subst eb
          refine ⟨_, rfl, ?_⟩
          cases e : letter cc with
          | true =>
            rw [if_pos rfl]
            refine ⟨rfl, ?_⟩
            rw [List.take_add_one, hc, List.all_append, ha]
            show (true && (letter cc && true)) = true
            rw [e]
            rfl
          | false =>
            rw [if_neg Bool.false_ne_true]
            have e2 : signS t = false := by
              unfold signS
              have : t.cps.toList.all letter = false := List.all_eq_false.mpr ⟨cc, List.mem_of_getElem? hc, by rw [e]; exact Bool.false_ne_true⟩
              rw [this, Bool.and_false]
            have k2 : Q (.bl (signS t)) H' := k
            rw [e2] at k2
            exact k2
        refine ⟨rfl, _, rfl, _, _, rfl, rfl, _, rfl, ?_⟩
        have ea : (!decide (([cc] : List Nat) < [97])) = decide (97 ≤ cc) := by
          rw [lt_one]
          by_cases q : cc < 97
          · rw [decide_eq_true q, decide_eq_false (by omega)]; rfl
          · rw [decide_eq_false q, decide_eq_true (by omega)]; rfl
        have ez : (!decide (([122] : List Nat) < [cc])) = decide (cc ≤ 122) := by
          rw [lt_one]
          by_cases q : 122 < cc
          · rw [decide_eq_true q, decide_eq_false (by omega)]; rfl
          · rw [decide_eq_false q, decide_eq_true (by omega)]; rfl
        show if (!decide (([cc] : List Nat) < [97])) = true then _ else _
        rw [ea]
        by_cases q : 97 ≤ cc
        · rw [decide_eq_true q, if_pos rfl]
          refine ⟨_, _, rfl, rfl, ?_⟩
          show ∃ b, V.bl (!decide (([122] : List Nat) < [cc])) = V.bl b ∧ _
          rw [ez]
          exact hgo _ (by unfold letter; rw [decide_eq_true q, Bool.true_and])
        · rw [decide_eq_false q, if_neg Bool.false_ne_true]
          exact hgo _ (by unfold letter; rw [decide_eq_false q, Bool.false_and])
      · rintro H' ⟨rfl, ha⟩
        rw [List.take_length] at ha
        have k2 : Q (.bl (signS t)) H' := k
        unfold signS at k2
        rw [h1, h6, ha] at k2
        exact k2
    have e1 : decide ((1 : Int) ≤ (t.length : Int)) = decide (1 ≤ t.length) := by
      by_cases q : 1 ≤ t.length
      · rw [decide_eq_true q, decide_eq_true (by omega)]
      · rw [decide_eq_false q, decide_eq_false (by omega)]
    have e6 : decide ((t.length : Int) ≤ 6) = decide (t.length ≤ 6) := by
      by_cases q : t.length ≤ 6
      · rw [decide_eq_true q, decide_eq_true (by omega)]
      · rw [decide_eq_false q, decide_eq_false (by omega)]
    have no : (decide (1 ≤ t.length) && decide (t.length ≤ 6)) = false → Q (.bl false) H := fun e => by
      have k2 : Q (.bl (signS t)) H := k
      unfold signS at k2
      rw [e] at k2
      exact k2
    rw [e1]
    cases h1 : decide (1 ≤ t.length) with
    | true =>
      rw [if_pos rfl]
      refine ⟨_, _, rfl, rfl, ?_⟩
      show ∃ k, V.bl (decide ((t.length : Int) ≤ 6)) = .bl k ∧ _
      rw [e6]
      cases h6 : decide (t.length ≤ 6) with
      | true => exact ⟨_, rfl, iteF (body h1 h6)⟩
      | false => exact ⟨_, rfl, iteT (no (by rw [h1, h6]; rfl))⟩
    | false =>
      rw [if_neg Bool.false_ne_true]
      exact ⟨_, rfl, iteT (no (by rw [h1]; rfl))⟩
  · have e : isStrD d = false := by cases d <;> first | rfl | exact absurd ⟨_, rfl⟩ hs
    rw [e]
    refine iteT ?_
    have e2 : signD d = false := by cases d <;> first | rfl | exact absurd ⟨_, rfl⟩ hs
    show Q _ _
    rw [← e2]
    exact k
end
end Sw
set_option Elab.async false
set_option maxRecDepth 100000
set_option maxHeartbeats 4000000
namespace Sw
open PySem L2 PySem.Spec PyProof.Rows
/-! ### data of bounded size -/
mutual
def bdD : PyData → Bool
  | .str t => decide (t.length ≤ 1000)
  | .tuple l => decide (l.length ≤ 10000) && bdDs l
  | .list l => decide (l.length ≤ 10000) && bdDs l
  | _ => true
def bdDs : List PyData → Bool
  | [] => true
  | d :: ds => bdD d && bdDs ds
end
theorem bdDs_mem : ∀ {ds : List PyData}, bdDs ds = true → ∀ {d : PyData}, d ∈ ds → bdD d = true
  | [], _, d, h => by cases h
  | x :: ds, h, d, hm => by
    rw [bdDs, Bool.and_eq_true] at h
    rcases List.mem_cons.mp hm with rfl | hm
    · exact h.1
    · exact bdDs_mem h.2 hm
theorem bdTup {ds : List PyData} (h : bdD (.tuple ds) = true) : ds.length ≤ 10000 ∧ bdDs ds = true := by
  rw [bdD, Bool.and_eq_true] at h
  exact ⟨of_decide_eq_true h.1, h.2⟩
/-- a whole number -/
def wholeD (d : PyData) : Bool := isIntD d && !isBoolD d
section
variable {P : Program} {w : World} {K : PySem.W.Frag} {mg : Str → Option Value} {base : Heap}
abbrev n_is_whole : List Str := ["thing"]
theorem sc_is_whole : FnScope n_is_whole ["thing"] (defScope s_is_whole) := ⟨rfl, rfl, rfl, by decide +kernel, rfl, by decide +kernel, by decide +kernel⟩
def spWhole (K : PySem.W.Frag) : Sp := fun vs H Q _ => ∃ v d, vs = [v] ∧ Dp K H v d ∧ Q (.bl (wholeD d)) H
theorem ok_is_whole (F : DefAt K mg "is_whole" s_is_whole ["thing"]) (b_isinstance : mg "isinstance" = none) (b_int : mg "int" = none) (b_bool : mg "bool" = none) : DefOk P w K mg base "is_whole" 1 ["thing"] (spWhole K) := by
  refine F.ok sc_is_whole (fun vs H Q E h => ?_) (fun f cdv A outer s H vs Q E hr h => ?_)
  · obtain ⟨_, _, rfl, _⟩ := h
    rfl
  obtain ⟨v, d, rfl, hd, k⟩ := h
  refine ⟨_, (pss_one (ps_ret (pe_and (pe_callB call_isi (by rfl) b_isinstance (by decide +kernel) (pa_cons (pv 0) (pa_cons (pe_bltn (v := .ty "int") (by rfl) b_int (by decide +kernel) rfl) pa_nil))) (pe_one (pe_not (pe_callB call_isi (by rfl) b_isinstance (by decide +kernel) (pa_cons (pv 0) (pa_cons (pe_bltn (v := .ty "bool") (by rfl) b_bool (by decide +kernel) rfl) pa_nil)))))))), ?_⟩
  refine ⟨_, rfl, v, .ty "int", _, _, _, rfl, .ty _, tyX hd, isInt hd, ?_⟩
  unfold wholeD at k
  cases e : isIntD d with
  | false =>
    rw [e] at k
    exact ⟨_, rfl, iteF k⟩
  | true =>
    rw [e, Bool.true_and] at k
    exact ⟨_, rfl, iteT ⟨_, rfl, v, .ty "bool", _, _, _, rfl, .ty _, tyX hd, isBool hd, _, rfl, k⟩⟩
end
end Sw
set_option Elab.async false
set_option maxRecDepth 100000
set_option maxHeartbeats 4000000
namespace Sw
open PySem L2 PySem.Spec PyProof.Rows
/-! ### a piece of a form, told by its data -/
def partsOkD (few : Nat) : PyData → Bool
  | .tuple l => decide (few ≤ l.length) && decide (l.length ≤ 8)
  | _ => false
def numD (a b : Int) : PyData → Bool
  | .int i => decide (a ≤ i) && decide (i ≤ b)
  | _ => false
def hiD (l : Int) : PyData → Bool
  | .none => true
  | .int i => decide ((if (1 : Int) > l then 1 else l) ≤ i) && decide (i ≤ 12)
  | _ => false
def countsD : PyData → PyData → Bool
  | .int l, h => decide (0 ≤ l) && decide (l ≤ 12) && hiD l h
  | _, _ => false
def isTx (s : Str) : PyData → Bool
  | .str t => t == s
  | _ => false
def pieceD : PyData → Bool
  | .tuple l => match l with
    | [x, y] => if isTx "times" x then false else if isTx "sign" x then signD y else if isTx "row" x then partsOkD 0 y else isTx "pick" x && partsOkD 1 y
    | [x, _, l, h] => isTx "times" x && countsD l h
    | _ => false
  | _ => false
theorem eqv_tx (s : Str) (d : PyData) : PyData.eqv d (.str s) = isTx s d := by
  cases d <;> simp [PyData.eqv, isTx]
theorem layAll_mem : ∀ {l : List PyData} {d : PyData}, PyData.canLayAll0 l = true → d ∈ l → d.canLay0 = true
  | x :: l, d, h, hm => by
    rw [PyData.canLayAll0, Bool.and_eq_true] at h
    rcases List.mem_cons.mp hm with rfl | hm
    · exact h.1
    · exact layAll_mem h.2 hm
theorem depAll_mem : ∀ {l : List PyData} {d : PyData}, d ∈ l → d.depth ≤ PyData.depthAll l
  | x :: l, d, hm => by
    rw [PyData.depthAll]
    rcases List.mem_cons.mp hm with rfl | hm
    · omega
    · have := depAll_mem hm
      omega
theorem shMem {l : List PyData} {d : PyData} (h : SeqAt.shaped (.tuple l) = true) (hm : d ∈ l) : SeqAt.shaped d = true := by
  unfold SeqAt.shaped at h ⊢
  rw [Bool.and_eq_true] at h ⊢
  obtain ⟨h1, h2⟩ := h
  rw [PyData.canLay0] at h1
  refine ⟨layAll_mem h1 hm, decide_eq_true ?_⟩
  have := of_decide_eq_true h2
  have h3 := depAll_mem hm
  rw [PyData.depth] at this
  omega
theorem iteT' {c A B : Prop} [Decidable c] (hc : c) (h : A) : if c then A else B := by rw [if_pos hc]; exact h
theorem iteF' {c A B : Prop} [Decidable c] (hc : ¬ c) (h : B) : if c then A else B := by rw [if_neg hc]; exact h
theorem dpTupL {K : PySem.W.Frag} {H : Hp} {v : V} {ds : List PyData} (h : Dp K H v (.tuple ds)) : ∃ a xs, v = .ref a ∧ SqT K H a xs ∧ DpAll K H xs ds ∧ xs.length = ds.length := by
  obtain ⟨a, xs, h1, h2, h3⟩ := dpTup h
  exact ⟨a, xs, h1, h2, h3, dpsLen h3⟩
section
variable {P : Program} {w : World} {K : PySem.W.Frag} {mg : Str → Option Value} {base : Heap}
abbrev n_are_parts : List Str := ["thing", "fewest"]
theorem sc_are_parts : FnScope n_are_parts ["thing", "fewest"] (defScope s_are_parts) := ⟨rfl, rfl, rfl, by decide +kernel, rfl, by decide +kernel, by decide +kernel⟩
def spAreP (K : PySem.W.Frag) : Sp := fun vs H Q _ => ∃ (v : V) (d : PyData) (few : Nat), vs = [v, .int (few : Int)] ∧ Dp K H v d ∧ Q (.bl (partsOkD few d)) H
theorem ok_are_parts (F : DefAt K mg "_are_parts" s_are_parts ["thing", "fewest"]) (b_isinstance : mg "isinstance" = none) (b_len : mg "len" = none) (b_tuple : mg "tuple" = none) (g_MP : ∃ t, mg "MOST_PARTS" = some (.int 8 t)) : DefOk P w K mg base "_are_parts" 1 ["thing", "fewest"] (spAreP K) := by
  obtain ⟨tm, g_MP⟩ := g_MP
  refine F.ok sc_are_parts (fun vs H Q E h => ?_) (fun f cdv A outer s H vs Q E hr h => ?_)
  · obtain ⟨_, _, _, rfl, _⟩ := h
    rfl
  obtain ⟨v, d, few, rfl, hd, k⟩ := h
  refine ⟨_, (pss_one (ps_ret (pe_and (pe_callB call_isi (by rfl) b_isinstance (by decide +kernel) (pa_cons (pv 0) (pa_cons (pe_bltn (v := .ty "tuple") (by rfl) b_tuple (by decide +kernel) rfl) pa_nil))) (pe_one (pe_chain op_le op_le (pv 1) (pe_callB call_len_seq (by rfl) b_len PySem.boot_len (pa_cons (pv 0) pa_nil)) (pe_glob (v := .int 8) rfl g_MP ⟨_, rfl⟩)))))), ?_⟩
  refine ⟨_, rfl, v, .ty "tuple", _, _, _, rfl, .ty _, tyX hd, isTup hd, ?_⟩
  cases d with
  | tuple ds =>
    obtain ⟨a, xs, rfl, ha, hxs, hl⟩ := dpTupL hd
    refine ⟨_, rfl, iteT ?_⟩
    refine ⟨_, rfl, _, rfl, a, xs, rfl, .inr ha, _, _, rfl, rfl, _, rfl, ?_⟩
    rw [hl]
    have k : Q (.bl (decide (few ≤ ds.length) && decide (ds.length ≤ 8))) H := k
    by_cases h : few ≤ ds.length
    · refine iteT' (decide_eq_true (by omega)) ⟨_, _, rfl, rfl, ?_⟩
      rw [decide_eq_true h, Bool.true_and] at k
      have e : decide ((ds.length : Int) ≤ 8) = decide (ds.length ≤ 8) := by
        by_cases q : ds.length ≤ 8
        · rw [decide_eq_true q]; exact decide_eq_true (by omega)
        · rw [decide_eq_false q]; exact decide_eq_false (by omega)
      show Q (.bl (decide ((ds.length : Int) ≤ 8))) H
      rw [e]
      exact k
    · refine iteF' (by rw [decide_eq_false (by omega)]; decide) ?_
      rw [decide_eq_false h, Bool.false_and] at k
      exact k
  | _ => exact ⟨_, rfl, iteF k⟩
end
end Sw
set_option Elab.async false
set_option maxRecDepth 100000
set_option maxHeartbeats 4000000
namespace Sw
open PySem L2 PySem.Spec PyProof.Rows
section
variable {P : Program} {w : World} {K : PySem.W.Frag} {mg : Str → Option Value} {base : Heap}
abbrev n_are_counts : List Str := ["low", "high"]
theorem sc_are_counts : FnScope n_are_counts ["low", "high"] (defScope s_are_counts) := ⟨rfl, rfl, rfl, by decide +kernel, rfl, by decide +kernel, by decide +kernel⟩
def spAreC (K : PySem.W.Frag) : Sp := fun vs H Q _ => ∃ v u l h, vs = [v, u] ∧ Dp K H v l ∧ Dp K H u h ∧ Q (.bl (countsD l h)) H
theorem ok_are_counts (F : DefAt K mg "_are_counts" s_are_counts ["low", "high"]) (d_is_whole : DefOk P w K mg base "is_whole" 1 ["thing"] (spWhole K)) (b_max : mg "max" = none) (g_MC : ∃ t, mg "_MOST_COUNT" = some (.int 12 t)) : DefOk P w K mg base "_are_counts" 2 ["low", "high"] (spAreC K) := by
  obtain ⟨tm, g_MC⟩ := g_MC
  refine F.ok sc_are_counts (fun vs H Q E h => ?_) (fun f cdv A outer s H vs Q E hr h => ?_)
  · obtain ⟨_, _, _, _, rfl, _⟩ := h
    rfl
  obtain ⟨v, u, l, h, rfl, hl, hh, k⟩ := h
  refine ⟨_, (pss_cons (ps_if (PW.pt (pw_or (pt_not (pt_val (pe_callD d_is_whole (hr.mono (by decide)) rfl (pa_cons (pv 0) pa_nil)))) (pw_or1 (pt_not (pt_chain op_le op_le pe_int (pv 0) (pe_glob (v := .int 12) rfl g_MC ⟨_, rfl⟩)))))) (pss_one (ps_ret pe_bl)) pss_nil)
    (pss_cons (ps_if (pt_cmp (pc_isN (pv 1)) rfl) (pss_one (ps_ret pe_bl)) pss_nil)
    (pss_one (ps_ret (pe_and (pe_callD d_is_whole (hr.mono (by decide)) rfl (pa_cons (pv 1) pa_nil)) (pe_one (pe_chain op_le op_le (pe_callB (call_max2 rfl) (by rfl) b_max (by decide +kernel) (pa_cons (pv 0) (pa_cons pe_int pa_nil))) (pv 1) (pe_glob (v := .int 12) rfl g_MC ⟨_, rfl⟩)))))))), ?_⟩
  refine ⟨_, rfl, v, l, rfl, hl, _, rfl, ?_⟩
  cases l with
  | int i =>
    cases hl
    have k : Q (.bl (decide (0 ≤ i) && decide (i ≤ 12) && hiD i h)) H := k
    refine iteF ?_
    refine ⟨_, rfl, _, _, rfl, rfl, ?_⟩
    by_cases h0 : (0 : Int) ≤ i
    · refine ⟨_, rfl, iteT' (decide_eq_true h0) ?_⟩
      refine ⟨_, _, rfl, rfl, ?_⟩
      refine ⟨_, rfl, ?_⟩
      by_cases h12 : i ≤ 12
      · refine iteF' (by rw [decide_eq_true h12]; decide) ?_
        rw [decide_eq_true h0, decide_eq_true h12, Bool.true_and, Bool.true_and] at k
        refine ⟨_, rfl, ?_⟩
        cases h with
        | none =>
          cases hh
          exact ⟨_, rfl, iteT k⟩
        | int j =>
          cases hh
          refine ⟨_, rfl, iteF ?_⟩
          refine ⟨_, rfl, .int j, .int j, rfl, .int j, ⟨true, rfl, iteT ?_⟩⟩
          refine ⟨_, rfl, i, 1, rfl, _, rfl, _, _, rfl, rfl, _, rfl, ?_⟩
          have k : Q (.bl (decide ((if (1 : Int) > i then 1 else i) ≤ j) && decide (j ≤ 12))) H := k
          by_cases q : (if (1 : Int) > i then 1 else i) ≤ j
          · refine iteT' (decide_eq_true q) ?_
            rw [decide_eq_true q, Bool.true_and] at k
            exact ⟨_, _, rfl, rfl, k⟩
          · refine iteF' (by rw [decide_eq_false q]; decide) ?_
            rw [decide_eq_false q, Bool.false_and] at k
            exact k
        | bool b =>
          cases hh
          refine ⟨_, rfl, iteF ?_⟩
          exact ⟨_, rfl, .bl b, .bool b, rfl, .bl b, ⟨_, rfl, iteF k⟩⟩
        | str b =>
          cases hh
          refine ⟨_, rfl, iteF ?_⟩
          exact ⟨_, rfl, _, .str b, rfl, .str b, ⟨_, rfl, iteF k⟩⟩
        | list b =>
          obtain ⟨a, rfl⟩ : ∃ a, u = V.ref a := by cases hh; exact ⟨_, rfl⟩
          refine ⟨_, rfl, iteF ?_⟩
          exact ⟨_, rfl, .ref a, .list b, rfl, hh, ⟨_, rfl, iteF k⟩⟩
        | tuple b =>
          obtain ⟨a, rfl⟩ : ∃ a, u = V.ref a := by cases hh; exact ⟨_, rfl⟩
          refine ⟨_, rfl, iteF ?_⟩
          exact ⟨_, rfl, .ref a, .tuple b, rfl, hh, ⟨_, rfl, iteF k⟩⟩
        | dict b => cases hh
      · refine iteT' (by rw [decide_eq_false h12]; decide) ?_
        rw [decide_eq_false h12, Bool.and_false, Bool.false_and] at k
        exact k
    · refine ⟨_, rfl, iteF' (by rw [decide_eq_false h0]; decide) ?_⟩
      rw [decide_eq_false h0, Bool.false_and, Bool.false_and] at k
      exact ⟨_, rfl, iteT k⟩
  | _ => exact iteT k
end
end Sw
set_option Elab.async false
set_option maxRecDepth 100000
set_option maxHeartbeats 4000000
namespace Sw
open PySem L2 PySem.Spec PyProof.Rows
section
variable {P : Program} {w : World} {K : PySem.W.Frag} {mg : Str → Option Value} {base : Heap}
abbrev n_is_piece : List Str := ["thing"]
theorem sc_is_piece : FnScope n_is_piece ["thing"] (defScope s_is_piece) := ⟨rfl, rfl, rfl, by decide +kernel, rfl, by decide +kernel, by decide +kernel⟩
def spIsP (K : PySem.W.Frag) (T : Addr) : Sp := fun vs H Q _ => ∃ v d, vs = [v] ∧ Dp K H v d ∧ bdD d = true ∧ SeqAt.shaped d = true ∧ H T = some (TabE T) ∧ Q (.bl (pieceD d)) H
theorem shS (s : Str) (h : PyData.strOk s = true) : SeqAt.shaped (.str s) = true := by
  unfold SeqAt.shaped
  rw [PyData.canLay0, h]
  rfl
theorem eqS {K : PySem.W.Frag} {H : Hp} {x : V} {d : PyData} {s : Str} {Q : VK} (h : Dp K H x d) (hd : SeqAt.shaped d = true) (hs : PyData.strOk s = true) (k : Q (.bl (isTx s d)) H) : rEqD K x (.str s) H Q :=
  ⟨d, .str s, h, .str _, hd, shS s hs, by rw [eqv_tx]; exact k⟩
theorem ok_is_piece {T : Addr} (F : DefAt K mg "_is_piece" s_is_piece ["thing"]) (d__are_counts : DefOk P w K mg base "_are_counts" 2 ["low", "high"] (spAreC K)) (d__are_parts : DefOk P w K mg base "_are_parts" 1 ["thing", "fewest"] (spAreP K)) (d_is_sign : DefOk P w K mg base "is_sign" 2 ["thing"] (spIsSign K T))
    (b_isinstance : mg "isinstance" = none) (b_len : mg "len" = none) (b_tuple : mg "tuple" = none) : DefOk P w K mg base "_is_piece" 3 ["thing"] (spIsP K T) := by
  refine F.ok sc_is_piece (fun vs H Q E h => ?_) (fun f cdv A outer s H vs Q E hr h => ?_)
  · obtain ⟨_, _, rfl, _⟩ := h
    rfl
  obtain ⟨v, d, rfl, hd, hb, hsh, hT, k⟩ := h
  refine ⟨_, (pss_cons (ps_if (PW.pt (pw_or (pt_not (pt_val (pe_callB call_isi (by rfl) b_isinstance (by decide +kernel) (pa_cons (pv 0) (pa_cons (pe_bltn (v := .ty "tuple") (by rfl) b_tuple (by decide +kernel) rfl) pa_nil))))) (pw_or1 (pt_cmpR op_lt (pe_callB call_len_seq (by rfl) b_len PySem.boot_len (pa_cons (pv 0) pa_nil)) pe_int (nomark _))))) (pss_one (ps_ret pe_bl)) pss_nil)
    (pss_cons (ps_if (pt_cmpR (op_eqD hr.units) (pe_ix ix_tup (pv 0) pe_int (fun _ _ => rfl)) pe_str (nomark _)) (pss_one (ps_ret (pe_and (pe_cmpR op_eq (pe_callB call_len_seq (by rfl) b_len PySem.boot_len (pa_cons (pv 0) pa_nil)) pe_int (nomark _)) (pe_one (pe_callD d__are_counts (hr.mono (by decide)) rfl (pa_cons (pe_ix ix_tup (pv 0) pe_int (fun _ _ => rfl)) (pa_cons (pe_ix ix_tup (pv 0) pe_int (fun _ _ => rfl)) pa_nil))))))) pss_nil)
    (pss_cons (ps_if (pt_cmpR op_ne (pe_callB call_len_seq (by rfl) b_len PySem.boot_len (pa_cons (pv 0) pa_nil)) pe_int (nomark _)) (pss_one (ps_ret pe_bl)) pss_nil)
    (pss_cons (ps_if (pt_cmpR (op_eqD hr.units) (pe_ix ix_tup (pv 0) pe_int (fun _ _ => rfl)) pe_str (nomark _)) (pss_one (ps_ret (pe_callD d_is_sign (hr.mono (by decide)) rfl (pa_cons (pe_ix ix_tup (pv 0) pe_int (fun _ _ => rfl)) pa_nil)))) pss_nil)
    (pss_cons (ps_if (pt_cmpR (op_eqD hr.units) (pe_ix ix_tup (pv 0) pe_int (fun _ _ => rfl)) pe_str (nomark _)) (pss_one (ps_ret (pe_callD d__are_parts (hr.mono (by decide)) rfl (pa_cons (pe_ix ix_tup (pv 0) pe_int (fun _ _ => rfl)) (pa_cons pe_int pa_nil))))) pss_nil)
    (pss_one (ps_ret (pe_and (pe_cmpR (op_eqD hr.units) (pe_ix ix_tup (pv 0) pe_int (fun _ _ => rfl)) pe_str (nomark _)) (pe_one (pe_callD d__are_parts (hr.mono (by decide)) rfl (pa_cons (pe_ix ix_tup (pv 0) pe_int (fun _ _ => rfl)) (pa_cons pe_int pa_nil)))))))))))), ?_⟩
  have ok1 : PyData.strOk "times" = true := by decide +kernel
  have ok2 : PyData.strOk "sign" = true := by decide +kernel
  have ok3 : PyData.strOk "row" = true := by decide +kernel
  have ok4 : PyData.strOk "pick" = true := by decide +kernel
  by_cases htp : ∃ ds, d = .tuple ds
  · obtain ⟨ds, rfl⟩ := htp
    obtain ⟨a, xs, rfl, ha, hxs, hl⟩ := dpTupL hd
    obtain ⟨hb1, hb2⟩ := bdTup hb
    refine ⟨_, rfl, .ref a, .ty "tuple", _, _, _, rfl, .ty _, tyX hd, isTup hd, _, rfl, iteF ?_⟩
    refine ⟨_, rfl, a, xs, rfl, .inr ha, _, _, rfl, rfl, _, rfl, ?_⟩
    rw [hl]
    match ds, hxs, hl with
    | [], _, _ => exact iteT k
    | [_], _, _ => exact iteT k
    | d0 :: d1 :: dr, hxs, hl =>
      obtain ⟨x0, xr, rfl, p0, hxr⟩ := dpCons hxs
      obtain ⟨x1, xr, rfl, p1, hxr⟩ := dpCons hxr
      have sh0 := shMem hsh (d := d0) (by simp)
      refine iteF' (by rw [decide_eq_false (by simp only [List.length_cons]; omega)]; decide) ?_
      refine ⟨_, rfl, a, _, 0, _, rfl, rfl, ha, atI_nat (j := 0) rfl, ?_⟩
      refine ⟨d0, .str _, p0, .str _, sh0, shS _ ok1, _, rfl, ?_⟩
      rw [eqv_tx]
      cases et : isTx "times" d0 with
      | true =>
        refine iteT ?_
        refine ⟨_, rfl, a, _, rfl, .inr ha, rfl, ?_⟩
        match dr, hxr, hl, k with
        | [], hxr, hl, k =>
          have k : Q (.bl (if isTx "times" d0 then false else if isTx "sign" d0 then signD d1 else if isTx "row" d0 then partsOkD 0 d1 else isTx "pick" d0 && partsOkD 1 d1)) H := k
          rw [et, if_pos rfl] at k
          exact ⟨_, rfl, iteF' (by rw [decide_eq_false (by rw [hl]; intro z; cases z)]; decide) k⟩
        | [_], hxr, hl, k => exact ⟨_, rfl, iteF' (by rw [decide_eq_false (by rw [hl]; intro z; cases z)]; decide) k⟩
        | [d2, d3], hxr, hl, k =>
          obtain ⟨x2, xr, rfl, p2, hxr⟩ := dpCons hxr
          obtain ⟨x3, xr, rfl, p3, hxr⟩ := dpCons hxr
          have e := dpNil hxr
          subst e
          have k : Q (.bl (isTx "times" d0 && countsD d2 d3)) H := k
          rw [et, Bool.true_and] at k
          refine ⟨_, rfl, iteT ?_⟩
          refine ⟨_, rfl, a, _, 2, _, rfl, rfl, ha, atI_nat (j := 2) rfl, _, rfl, a, _, 3, _, rfl, rfl, ha, atI_nat (j := 3) rfl, ?_⟩
          exact ⟨x2, x3, d2, d3, rfl, p2, p3, k⟩
        | _ :: _ :: _ :: _, hxr, hl, k => exact ⟨_, rfl, iteF' (by rw [decide_eq_false (by rw [hl]; simp only [List.length_cons]; intro z; have := V.int.inj z; omega)]; decide) k⟩
      | false =>
        refine iteF ?_
        refine ⟨_, rfl, a, _, rfl, .inr ha, rfl, _, rfl, ?_⟩
        match dr, hxr, hl, k with
        | [d2, d3], hxr, hl, k =>
          have k : Q (.bl (isTx "times" d0 && countsD d2 d3)) H := k
          rw [et, Bool.false_and] at k
          exact iteT' (by rw [hl, decide_eq_false (by intro z; cases z)]; rfl) k
        | [_], _, hl, k => exact iteT' (by rw [hl, decide_eq_false (by intro z; cases z)]; rfl) k
        | _ :: _ :: _ :: _, _, hl, k => exact iteT' (by rw [hl, decide_eq_false (by simp only [List.length_cons]; intro z; have := V.int.inj z; omega)]; decide) k
        | [], hxr, hl, k =>
          have e := dpNil hxr
          subst e
          have k : Q (.bl (if isTx "times" d0 then false else if isTx "sign" d0 then signD d1 else if isTx "row" d0 then partsOkD 0 d1 else isTx "pick" d0 && partsOkD 1 d1)) H := k
          rw [et, if_neg (by decide)] at k
          refine iteF' (by rw [decide_eq_true (by rfl)]; decide) ?_
          refine ⟨_, rfl, a, _, 0, _, rfl, rfl, ha, atI_nat (j := 0) rfl, ?_⟩
          refine ⟨d0, .str _, p0, .str _, sh0, shS _ ok2, _, rfl, ?_⟩
          rw [eqv_tx]
          cases e2 : isTx "sign" d0 with
          | true =>
            rw [e2, if_pos rfl] at k
            refine iteT ?_
            refine ⟨_, rfl, a, _, 1, _, rfl, rfl, ha, atI_nat (j := 1) rfl, ?_⟩
            refine ⟨x1, d1, rfl, p1, fun t e => ?_, hT, k⟩
            subst e
            have := bdDs_mem hb2 (d := .str t) (by simp)
            rw [bdD] at this
            exact of_decide_eq_true this
          | false =>
            rw [e2, if_neg (by decide)] at k
            refine iteF ?_
            refine ⟨_, rfl, a, _, 0, _, rfl, rfl, ha, atI_nat (j := 0) rfl, ?_⟩
            refine ⟨d0, .str _, p0, .str _, sh0, shS _ ok3, _, rfl, ?_⟩
            rw [eqv_tx]
            cases e3 : isTx "row" d0 with
            | true =>
              rw [e3, if_pos rfl] at k
              refine iteT ?_
              refine ⟨_, rfl, a, _, 1, _, rfl, rfl, ha, atI_nat (j := 1) rfl, ?_⟩
              exact ⟨x1, d1, 0, rfl, p1, k⟩
            | false =>
              rw [e3, if_neg (by decide)] at k
              refine iteF ?_
              refine ⟨_, rfl, a, _, 0, _, rfl, rfl, ha, atI_nat (j := 0) rfl, ?_⟩
              refine ⟨d0, .str _, p0, .str _, sh0, shS _ ok4, _, rfl, ?_⟩
              rw [eqv_tx]
              cases e4 : isTx "pick" d0 with
              | true =>
                rw [e4, Bool.true_and] at k
                refine iteT ?_
                refine ⟨_, rfl, a, _, 1, _, rfl, rfl, ha, atI_nat (j := 1) rfl, ?_⟩
                exact ⟨x1, d1, 1, rfl, p1, k⟩
              | false =>
                rw [e4, Bool.false_and] at k
                exact iteF k
  · have kf : Q (.bl false) H := by
      cases d with
      | tuple ds => exact absurd ⟨ds, rfl⟩ htp
      | _ => exact k
    have ef : isTupD d = false := by
      cases d with
      | tuple ds => exact absurd ⟨ds, rfl⟩ htp
      | _ => rfl
    refine ⟨_, rfl, v, .ty "tuple", _, _, _, rfl, .ty _, tyX hd, isTup hd, _, rfl, ?_⟩
    rw [ef]
    exact iteT kf
end
end Sw
set_option Elab.async false
set_option maxRecDepth 100000
set_option maxHeartbeats 4000000
namespace Sw
open PySem L2 PySem.Spec PyProof.Rows
section
variable {P : Program} {w : World} {K : PySem.W.Frag} {mg : Str → Option Value} {base : Heap}
abbrev n_laid : List Str := ["form", "told", "ahead", "piece", "around", "number", "part"]
theorem sc_laid : FnScope n_laid ["form"] (defScope s_laid) := ⟨rfl, rfl, rfl, by decide +kernel, rfl, by decide +kernel, by decide +kernel⟩
def spLaid (K : PySem.W.Frag) : Sp := fun vs H Q _ => ∃ v f, vs = [v] ∧ FmAt K H v f ∧ f.size ≤ 1000000 ∧ ∀ H' a, Same H H' → H a = none → LaidAt K H' a (laidF f 0) → Q (.ref a) H'
theorem len_sizes : ∀ ps : List Fm, ps.length ≤ Fm.sizes ps
  | [] => Nat.le_refl 0
  | x :: xs => by
    have := len_sizes xs
    have := x.size_pos
    simp [Fm.sizes]
    omega
/-- the parts are put ahead, the first one last -/
theorem laid_push {D : Ends} {v0 vt ov : Option V} {aA : Addr} {n : Nat} {o6 : Option V} {H : Hp} {p : Fm} {uu : V} {base0 : List V} (hu : FmAt K H uu p) (ha : H aA = some (.lst base0)) (hz : base0.length + p.parts.length ≤ 16000000)
    (hd : ∀ H' as o6', But aA H H' → H' aA = some (.lst (base0 ++ (as.map V.ref).reverse)) → StkAt K H' as (p.parts.map fun q => (q, n)) → D.nx [v0, vt, some (.ref aA), some uu, ov, some (.int (n : Int)), o6'] H') :
    tFor (iTup K (tRevT K (tCall (spParts K) [] E0 (tCons (tVar 3) tNil)))) (gName 6) (tDrop (tBM K "list" rAppend (tVar 2) (tCons (tTup (tCons (tVar 6) (tCons (tVar 5) tNil))) tNil))) D [v0, vt, some (.ref aA), some uu, ov, some (.int (n : Int)), o6] H := by
  refine ⟨_, rfl, uu, p, rfl, hu, fun H1 a ws s1 ht hw => ⟨a, ws, rfl, ht, fun q hq => ⟨q, rfl, ⟨_, sT upd_same⟩, ?_⟩⟩⟩
  have s2 : Same H1 (upd H1 q (.tup ws.reverse)) := .new hq
  have hl := dpsLen hw
  rw [Fm.dats_map, List.length_map] at hl
  refine for_tup (K := K) (a := q) (xs := ws.reverse) (fun i σ H' => ∃ as o6', σ = [v0, vt, some (.ref aA), some uu, ov, some (.int (n : Int)), o6'] ∧ But aA H H' ∧ SqT K H' q ws.reverse ∧ FmsAt K H' ws p.parts ∧ H' aA = some (.lst (base0 ++ (as.map V.ref).reverse)) ∧ StkAt K H' as ((p.parts.map fun x => (x, n)).drop (ws.length - i)))
    ⟨[], o6, rfl, .of (s1.trans s2), sT upd_same, dpsS s2 hw, ?_, ?_⟩ (fun i σ H' _ ⟨_, _, _, _, h, _⟩ => h) ?_ ?_
  · have := s2 _ _ (s1 _ _ ha)
    simpa using this
  · rw [List.drop_eq_nil_of_le (by simp [hl])]
    exact .nil
  · rintro i x σ H' hx ⟨as, o6', rfl, b1, hq', hw', ha', hs'⟩
    have hi : i < ws.length := by
      have := (List.getElem?_eq_some_iff.mp hx).1
      simpa using this
    have hx2 : ws[ws.length - 1 - i]? = some x := by rw [List.getElem?_reverse hi] at hx; exact hx
    obtain ⟨d, hd1, hd2⟩ := dpsAtV hw' hx2
    rw [Fm.dats_map, List.getElem?_map] at hd1
    obtain ⟨y, hy1, hy2⟩ : ∃ y, p.parts[ws.length - 1 - i]? = some y ∧ y.dat = d := by
      cases e : p.parts[ws.length - 1 - i]? with
      | none => rw [e] at hd1; cases hd1
      | some y => rw [e] at hd1; exact ⟨y, rfl, Option.some.inj hd1⟩
    subst hy2
    have hlas : as.length ≤ p.parts.length := by
      have e1 : as.length = ((p.parts.map fun x => (x, n)).drop (ws.length - i)).length := Paired.length hs'
      rw [e1, List.length_drop, List.length_map]
      omega
    -- ahead.append((part, number))
    refine ⟨_, rfl, .inl ⟨rfl, _, sL ha'⟩, _, rfl, _, rfl, (by show 2 ≤ sizeLine; decide), fun t ht => ?_⟩
    have s3 : Same H' (upd H' t (.tup [x, .int (n : Int)])) := .new ht
    refine ⟨aA, _, _, rfl, rfl, s3 _ _ ha', szb (by simp; omega), ?_⟩
    have hta : aA ≠ t := ne_of_none ha' ht
    have hb : But aA H (upd (upd H' t (.tup [x, .int (n : Int)])) aA (.lst (base0 ++ (as.map V.ref).reverse ++ [.ref t]))) := .upd (b1.trans (.of s3))
    refine ⟨t :: as, some x, rfl, hb, ?_, ?_, ?_, ?_⟩
    · exact sqTW (s3 _ _ ha') (s3.sqT hq')
    · exact fmsAll (keepTup (s3 _ _ ha')) _ _ (dpsS s3 hw')
    · rw [upd_same]
      simp
    · have e : (p.parts.map fun x => (x, n)).drop (ws.length - (i + 1)) = (y, n) :: (p.parts.map fun x => (x, n)).drop (ws.length - i) := by
        have h1 : ws.length - (i + 1) < (p.parts.map fun x => (x, n)).length := by rw [List.length_map]; omega
        rw [List.drop_eq_getElem_cons h1]
        have h2 : ws.length - (i + 1) + 1 = ws.length - i := by omega
        rw [h2]
        congr 1
        have h3 : (p.parts.map fun x => (x, n))[ws.length - (i + 1)]? = some (y, n) := by
          rw [List.getElem?_map, show ws.length - (i + 1) = ws.length - 1 - i by omega, hy1]
          rfl
        exact Option.some.inj ((List.getElem?_eq_getElem h1).symm.trans h3)
      rw [e]
      refine .cons ⟨x, ?_, ?_⟩ ?_
      · rw [upd_ne hta.symm, upd_same]
      · exact fmW (s3 _ _ ha') (dpS s3 hd2)
      · exact StkAt.w (StkAt.same hs' s3) (s3 _ _ ha')
  · rintro σ H' ⟨as, o6', rfl, b1, _, _, ha', hs'⟩
    refine hd H' as o6' b1 ha' ?_
    have e : ws.length - ws.reverse.length = 0 := by simp
    rw [e] at hs'
    exact hs'
theorem ok_laid (F : DefAt K mg "laid" s_laid ["form"]) (d_parts_of : DefOk P w K mg base "parts_of" 1 ["form"] (spParts K)) (b_len : mg "len" = none) : DefOk P w K mg base "laid" 2 ["form"] (spLaid K) := by
  refine F.ok sc_laid (fun vs H Q E h => ?_) (fun f cdv A outer s H vs Q E hr h => ?_)
  · obtain ⟨v, f, rfl, _⟩ := h
    rfl
  obtain ⟨v, f, rfl, hf, hsz, k⟩ := h
  refine ⟨_, (pss_cons (ps_set (i := 1) sc_laid.nd rfl (Or.inl rfl) (pe_lst pa_nil))
    (pss_cons (ps_set (i := 2) sc_laid.nd rfl (Or.inl rfl) (pe_lst (pa_cons (pe_tup (pa_cons (pv 0) (pa_cons pe_int pa_nil))) pa_nil)))
    (pss_cons (ps_while PassesOwn.never (pt_truth (pv 2) (by intro _; rfl)) (pss_cons (ps_asg (pe_bm0 PySem.F.plainAttrs_list PySem.F.slot_list_pop PySem.F.type_list_pop mt_pop (pv 2)) (pg_tup rfl (pgs_cons (pg_name (i := 3) sc_laid.nd rfl (Or.inl rfl)) (pgs_cons (pg_name (i := 4) sc_laid.nd rfl (Or.inl rfl)) pgs_nil))))
    (pss_cons (ps_set (i := 5) sc_laid.nd rfl (Or.inl rfl) (pe_callB call_len_seq (by rfl) b_len PySem.boot_len (pa_cons (pv 1) pa_nil)))
    (pss_cons (ps_expr (pe_bm PySem.F.plainAttrs_list PySem.F.slot_list_append PySem.F.type_list_append mt_append (pv 1) (pa_cons (pe_tup (pa_cons (pv 3) (pa_cons (pe_lst pa_nil) pa_nil))) pa_nil)))
    (pss_cons (ps_if (pt_cmpR op_gt (pv 5) pe_int (nomark _)) (pss_one (ps_expr (pe_bm PySem.F.plainAttrs_list PySem.F.slot_list_append PySem.F.type_list_append mt_append (pe_ix ix_tup (pe_ix ix_list (pv 1) (pv 4) (fun _ _ => rfl)) pe_int (fun _ _ => rfl)) (pa_cons (pv 5) pa_nil)))) pss_nil)
    (pss_one (ps_for PassesOwn.never rfl (pi_tup (pe_revT (pe_callD d_parts_of hr rfl (pa_cons (pv 3) pa_nil)))) (pg_name (i := 6) sc_laid.nd rfl (Or.inl rfl))
      (pss_one (ps_expr (pe_bm PySem.F.plainAttrs_list PySem.F.slot_list_append PySem.F.type_list_append mt_append (pv 2) (pa_cons (pe_tup (pa_cons (pv 6) (pa_cons (pv 5) pa_nil))) pa_nil)))))))))))
    (pss_one (ps_ret (pv 1)))))), ?_⟩
  refine ⟨(by show 0 ≤ sizeLine; decide), fun tA htA => ?_⟩
  have s1 : Same H (upd H tA (.lst [])) := .new htA
  refine ⟨_, rfl, (by show 2 ≤ sizeLine; decide), fun q0 hq0 => ⟨(by show 1 ≤ sizeLine; decide), fun aA haA => ?_⟩⟩
  have s2 : Same (upd H tA (.lst [])) (upd (upd H tA (.lst [])) q0 (.tup [v, .int 0])) := .new hq0
  have s3 : Same (upd (upd H tA (.lst [])) q0 (.tup [v, .int 0])) (upd (upd (upd H tA (.lst [])) q0 (.tup [v, .int 0])) aA (.lst [.ref q0])) := .new haA
  have hA0 : H aA = none := s1.free (s2.free haA)
  refine ⟨fun m σ H1 => ∃ (T : Lay) (S : List (Fm × Nat)) (rs : List Row) (as : List Addr) (o3 o4 o5 o6 : Option V), σ = [some v, some (.ref tA), some (.ref aA), o3, o4, o5, o6] ∧ m = Fm.sizes (S.map (·.1)) ∧ Same H H1 ∧ comp T S = laidF f 0 ∧
      H1 tA = some (.lst (rs.map fun r => V.ref r.1)) ∧ RowsAt K H1 rs T ∧ (rs.map (·.2.2)).Nodup ∧ (∀ r, r ∈ rs → H r.2.2 = none ∧ r.2.2 ≠ tA ∧ r.2.2 ≠ aA) ∧ H1 aA = some (.lst (as.map V.ref).reverse) ∧ StkAt K H1 as S ∧ (∀ s, s ∈ S → s.2 < T.length ∨ s.2 = 0) ∧ (∀ t, t ∈ T → t.2.length ≤ T.length),
    ⟨_, [], [(f, 0)], [], [q0], none, none, none, none, rfl, rfl, s1.trans (s2.trans s3), ?_, ?_, ⟨rfl, fun i r t h => by simp at h⟩, List.nodup_nil, (fun r h => by simp at h), ?_, ?_, ?_, (fun t h => by simp at h)⟩, ?_⟩
  · simp [comp]
  · exact s3 _ _ (s2 _ _ upd_same)
  · rw [upd_same]
    rfl
  · refine .cons ⟨v, s3 _ _ upd_same, ?_⟩ .nil
    exact dpS (s1.trans (s2.trans s3)) hf
  · intro s hs
    simp at hs
    subst hs
    exact .inr rfl
  rintro m σ H1 ⟨T, S, rs, as, o3, o4, o5, o6, rfl, hm, g1, hc, hT, hR, nd, hfr, hA, hS, hlt, hkl⟩
  have hcl := congrArg List.length hc
  rw [comp_length, laidF_length] at hcl
  have htne : tA ≠ aA := fun e => by
    have z := s3 _ _ (s2 _ _ (upd_same (H := H) (a := tA) (o := .lst [])))
    rw [e] at z
    rw [upd_same] at z
    cases z
  cases hS with
  | nil =>
    refine ⟨_, rfl, false, .inl ⟨_, sL hA, rfl⟩, ?_⟩
    refine iteF ?_
    refine ⟨_, rfl, ?_⟩
    have e : T = laidF f 0 := hc
    subst e
    exact k H1 tA g1 htA ⟨rs, hT, hR⟩
  | cons hd hS' =>
    rename_i a sp as' S'
    obtain ⟨p, ar⟩ := sp
    obtain ⟨u, ha, hu⟩ := hd
    have eA : (List.map V.ref (a :: as')).reverse = (as'.map V.ref).reverse ++ [.ref a] := by simp
    rw [eA] at hA
    refine ⟨_, rfl, true, .inl ⟨_, sL hA, by simp⟩, ?_⟩
    refine iteT ?_
    refine ⟨fun σ' H' => ∃ m', m' < m ∧ ∃ (T : Lay) (S : List (Fm × Nat)) (rs : List Row) (as : List Addr) (o3 o4 o5 o6 : Option V), σ' = [some v, some (.ref tA), some (.ref aA), o3, o4, o5, o6] ∧ m' = Fm.sizes (S.map (·.1)) ∧ Same H H' ∧ comp T S = laidF f 0 ∧
      H' tA = some (.lst (rs.map fun r => V.ref r.1)) ∧ RowsAt K H' rs T ∧ (rs.map (·.2.2)).Nodup ∧ (∀ r, r ∈ rs → H r.2.2 = none ∧ r.2.2 ≠ tA ∧ r.2.2 ≠ aA) ∧ H' aA = some (.lst (as.map V.ref).reverse) ∧ StkAt K H' as S ∧ (∀ s, s ∈ S → s.2 < T.length ∨ s.2 = 0) ∧ (∀ t, t ∈ T → t.2.length ≤ T.length),
      fun σ' H' h => h, ?_⟩
    -- piece, around = ahead.pop()
    have eL : ((as'.map V.ref).reverse ++ [V.ref a])[((as'.map V.ref).reverse ++ [V.ref a]).length - 1]? = some (V.ref a) := by simp
    have eD : ((as'.map V.ref).reverse ++ [V.ref a]).dropLast = (as'.map V.ref).reverse := by simp
    refine ⟨_, rfl, .inl ⟨rfl, _, sL hA⟩, aA, _, _, rfl, rfl, hA, eL, ?_⟩
    rw [eD]
    have ha2 : (upd H1 aA (.lst (as'.map V.ref).reverse)) a = some (.tup [u, .int (ar : Int)]) := by rw [upd_ne (ne_of ha hA (by intro z; cases z))]; exact ha
    have hT2 : (upd H1 aA (.lst (as'.map V.ref).reverse)) tA = some (.lst (rs.map fun r => V.ref r.1)) := by rw [upd_ne htne]; exact hT
    have hR2 : RowsAt K (upd H1 aA (.lst (as'.map V.ref).reverse)) rs T := hR.other hA fun r hr => (hfr r hr).2.2
    have hS2 : StkAt K (upd H1 aA (.lst (as'.map V.ref).reverse)) as' S' := StkAt.w hS' hA
    have hu2 : FmAt K (upd H1 aA (.lst (as'.map V.ref).reverse)) u p := fmW hA hu
    have g2 : Same H (upd H1 aA (.lst (as'.map V.ref).reverse)) := g1.mut hA0
    refine ⟨a, _, rfl, sT ha2, rfl, _, _, rfl, _, _, rfl, rfl, ?_⟩
    -- number = len(told)
    refine ⟨_, rfl, tA, _, rfl, .inl (sL hT2), ?_⟩
    have en : (rs.map fun r => V.ref r.1).length = T.length := by rw [List.length_map, hR.len]
    rw [en]
    generalize hH2 : upd H1 aA (.lst (as'.map V.ref).reverse) = H2 at *
    have hA2 : H2 aA = some (.lst (as'.map V.ref).reverse) := by rw [← hH2, upd_same]
    -- told.append((piece, []))
    refine ⟨_, rfl, .inl ⟨rfl, _, sL hT2⟩, _, rfl, (by show 0 ≤ sizeLine; decide), fun l hl => ⟨(by show 2 ≤ sizeLine; decide), fun t ht => ?_⟩⟩
    have c1 : Same H2 (upd H2 l (.lst [])) := .new hl
    have c2 : Same (upd H2 l (.lst [])) (upd (upd H2 l (.lst [])) t (.tup [u, .ref l])) := .new ht
    have c3 := c1.trans c2
    have hl3 : (upd (upd H2 l (.lst [])) t (.tup [u, .ref l])) l = some (.lst []) := c2 _ _ upd_same
    have ht3 : (upd (upd H2 l (.lst [])) t (.tup [u, .ref l])) t = some (.tup [u, .ref l]) := upd_same
    generalize hH3 : upd (upd H2 l (.lst [])) t (.tup [u, .ref l]) = H3 at *
    have ntl : tA ≠ l := ne_of_none hT2 hl
    have nal : aA ≠ l := ne_of_none hA2 hl
    have hl0 : H l = none := g2.free hl
    have ntt : tA ≠ t := ne_of (c3 _ _ hT2) ht3 (by intro z; cases z)
    have nat : aA ≠ t := ne_of (c3 _ _ hA2) ht3 (by intro z; cases z)
    have hnl : ∀ r, r ∈ rs → r.2.2 ≠ l := fun r hr e => by
      obtain ⟨i, hi⟩ := List.getElem?_of_mem hr
      have hi2 : i < T.length := by rw [← hR.len]; exact (List.getElem?_eq_some_iff.mp hi).1
      obtain ⟨_, _, z⟩ := hR2.at_ i r _ hi (List.getElem?_eq_getElem hi2)
      rw [e, hl] at z
      cases z
    refine ⟨tA, _, _, rfl, rfl, c3 _ _ hT2, szb (by rw [en]; omega), ?_⟩
    have hT3 := c3 _ _ hT2
    have hR4 : RowsAt K (upd H3 tA (.lst ((rs.map fun r => V.ref r.1) ++ [.ref t]))) rs T := (hR2.same c3).other hT3 fun r hr => (hfr r hr).2.1
    have hS4 : StkAt K (upd H3 tA (.lst ((rs.map fun r => V.ref r.1) ++ [.ref t]))) as' S' := StkAt.w (StkAt.same hS2 c3) hT3
    have hu4 : FmAt K (upd H3 tA (.lst ((rs.map fun r => V.ref r.1) ++ [.ref t]))) u p := fmW hT3 (dpS c3 hu2)
    have hl4 : (upd H3 tA (.lst ((rs.map fun r => V.ref r.1) ++ [.ref t]))) l = some (.lst []) := by rw [upd_ne ntl.symm]; exact hl3
    have ht4 : (upd H3 tA (.lst ((rs.map fun r => V.ref r.1) ++ [.ref t]))) t = some (.tup [u, .ref l]) := by rw [upd_ne ntt.symm]; exact ht3
    have hA4 : (upd H3 tA (.lst ((rs.map fun r => V.ref r.1) ++ [.ref t]))) aA = some (.lst (as'.map V.ref).reverse) := by rw [upd_ne htne.symm]; exact c3 _ _ hA2
    have hT4 : (upd H3 tA (.lst ((rs.map fun r => V.ref r.1) ++ [.ref t]))) tA = some (.lst ((rs.map fun r => V.ref r.1) ++ [.ref t])) := upd_same
    have g4 : Same H (upd H3 tA (.lst ((rs.map fun r => V.ref r.1) ++ [.ref t]))) := (g2.trans c3).mut htA
    generalize hH4 : upd H3 tA (.lst ((rs.map fun r => V.ref r.1) ++ [.ref t])) = H4 at *
    have e1 : ((rs.map fun r => V.ref r.1) ++ [V.ref t]) = ((rs ++ [(t, u, l)]).map fun r => V.ref r.1) := by simp
    -- behind the if
    have tail : ∀ H5 : Hp, Same H H5 → H5 tA = some (.lst ((rs.map fun r => V.ref r.1) ++ [.ref t])) → RowsAt K H5 rs (T.modify ar (addk T.length)) → StkAt K H5 as' S' → FmAt K H5 u p → H5 l = some (.lst []) → H5 t = some (.tup [u, .ref l]) → H5 aA = some (.lst (as'.map V.ref).reverse) →
        tFor (iTup K (tRevT K (tCall (spParts K) [] E0 (tCons (tVar 3) tNil)))) (gName 6) (tDrop (tBM K "list" rAppend (tVar 2) (tCons (tTup (tCons (tVar 6) (tCons (tVar 5) tNil))) tNil)))
          { nx := fun σ' H' => ∃ m', m' < m ∧ ∃ (T : Lay) (S : List (Fm × Nat)) (rs : List Row) (as : List Addr) (o3 o4 o5 o6 : Option V), σ' = [some v, some (.ref tA), some (.ref aA), o3, o4, o5, o6] ∧ m' = Fm.sizes (S.map (·.1)) ∧ Same H H' ∧ comp T S = laidF f 0 ∧
              H' tA = some (.lst (rs.map fun r => V.ref r.1)) ∧ RowsAt K H' rs T ∧ (rs.map (·.2.2)).Nodup ∧ (∀ r, r ∈ rs → H r.2.2 = none ∧ r.2.2 ≠ tA ∧ r.2.2 ≠ aA) ∧ H' aA = some (.lst (as.map V.ref).reverse) ∧ StkAt K H' as S ∧ (∀ s, s ∈ S → s.2 < T.length ∨ s.2 = 0) ∧ (∀ t, t ∈ T → t.2.length ≤ T.length),
            rt := Q, bk := fun σ' H' => tRet (tVar 1) { nx := fun _ H' => Q .non H', rt := Q } σ' H', ct := fun σ' H' => ∃ m', m' < m ∧ ∃ (T : Lay) (S : List (Fm × Nat)) (rs : List Row) (as : List Addr) (o3 o4 o5 o6 : Option V), σ' = [some v, some (.ref tA), some (.ref aA), o3, o4, o5, o6] ∧ m' = Fm.sizes (S.map (·.1)) ∧ Same H H' ∧ comp T S = laidF f 0 ∧
              H' tA = some (.lst (rs.map fun r => V.ref r.1)) ∧ RowsAt K H' rs T ∧ (rs.map (·.2.2)).Nodup ∧ (∀ r, r ∈ rs → H r.2.2 = none ∧ r.2.2 ≠ tA ∧ r.2.2 ≠ aA) ∧ H' aA = some (.lst (as.map V.ref).reverse) ∧ StkAt K H' as S ∧ (∀ s, s ∈ S → s.2 < T.length ∨ s.2 = 0) ∧ (∀ t, t ∈ T → t.2.length ≤ T.length) }
          [some v, some (.ref tA), some (.ref aA), some u, some (.int (ar : Int)), some (.int (T.length : Int)), o6] H5 := by
      intro H5 g5 hT5 hR5 hS5 hu5 hl5 ht5 hA5
      have hps : p.size = 1 + Fm.sizes p.parts := p.size_eq
      have hpl : p.parts.length ≤ Fm.sizes p.parts := len_sizes _
      have hsl : as'.length ≤ Fm.sizes (S'.map (·.1)) := by
        rw [Paired.length hS5, ← List.length_map (f := fun x : Fm × Nat => x.1)]
        exact len_sizes _
      simp only [List.map_cons, Fm.sizes] at hcl hm
      refine laid_push hu5 hA5 (by simp; omega) fun H6 as2 o6' b6 hA6 hS6 => ?_
      have e2 : ((as'.map V.ref).reverse ++ (as2.map V.ref).reverse) = ((as2 ++ as').map V.ref).reverse := by simp
      rw [e2] at hA6
      have ew : ∀ {x : Addr} {z : HO}, H5 x = some z → x ≠ aA → H6 x = some z := fun h n => b6 _ _ h n
      have kt : ∀ a xs, Rd H5 a (.tup xs) → Rd H6 a (.tup xs) := fun b xs r => by
        have n : b ≠ aA := by
          rintro rfl
          rcases r with r | ⟨o, r⟩ <;> (rw [hA5] at r; cases r)
        rcases r with r | ⟨o, r⟩
        · exact .inl (b6 _ _ r n)
        · exact .inr ⟨o, b6 _ _ r n⟩
      have hR6 : RowsAt K H6 (rs ++ [(t, u, l)]) (T.modify ar (addk T.length) ++ [(p, [])]) := by
        refine RowsAt.snoc ⟨hR5.len, fun i r t h1 h2 => ?_⟩ (ew ht5 nat.symm) (fmsMap kt _ _ hu5) (ew hl5 nal.symm)
        obtain ⟨x, y, z⟩ := hR5.at_ i r t h1 h2
        exact ⟨ew x (ne_of x hA5 (by intro z; cases z)), fmsMap kt _ _ y, ew z (hfr r (List.mem_of_getElem? h1)).2.2⟩
      refine ⟨_, ?_, T.modify ar (addk T.length) ++ [(p, [])], (p.parts.map fun q => (q, T.length)) ++ S', rs ++ [(t, u, l)], as2 ++ as', _, _, _, o6', rfl, rfl, (But.same (H := H) (p := aA) (fun b o e n => b6 b o (g5 b o e) n) hA0), ?_, ?_, hR6, ?_, ?_, hA6, pairedApp hS6 (pairedMap hS5 fun x y ⟨z, h1, h2⟩ => ⟨z, ew h1 (ne_of h1 hA5 (by intro z; cases z)), fmsMap kt _ _ h2⟩), ?_, ?_⟩
      · rw [hm, List.map_append, sizes_append, List.map_map]
        have : ((fun x => x.fst) ∘ fun q => (q, T.length)) = (id : Fm → Fm) := rfl
        rw [this, List.map_id]
        omega
      · rw [← comp_step]
        exact hc
      · rw [← e1]
        exact ew hT5 htne
      · rw [List.map_append, List.map_singleton]
        refine nd_snoc nd fun hm => ?_
        obtain ⟨r, hr, e⟩ := List.mem_map.mp hm
        exact hnl r hr e
      · intro r hr
        rcases List.mem_append.mp hr with hr | hr
        · exact hfr r hr
        · simp at hr
          subst hr
          exact ⟨hl0, ntl.symm, nal.symm⟩
      · intro s hs
        have hlen : (T.modify ar (addk T.length) ++ [(p, ([] : List Nat))]).length = T.length + 1 := by simp
        rw [hlen]
        rcases List.mem_append.mp hs with hs | hs
        · obtain ⟨q, _, e⟩ := List.mem_map.mp hs
          subst e
          exact .inl (Nat.lt_succ_self _)
        · rcases hlt s (List.mem_cons_of_mem _ hs) with h | h
          · exact .inl (Nat.lt_succ_of_lt h)
          · exact .inr h
      · intro t2 h2
        have hlen : (T.modify ar (addk T.length) ++ [(p, ([] : List Nat))]).length = T.length + 1 := by simp
        rw [hlen]
        rcases List.mem_append.mp h2 with h2 | h2
        · obtain ⟨i, hi⟩ := List.getElem?_of_mem h2
          rw [List.getElem?_modify] at hi
          cases e : T[i]? with
          | none => rw [e] at hi; cases hi
          | some t0 =>
            rw [e] at hi
            have h3 := hkl t0 (List.mem_of_getElem? e)
            have h4 : (if ar = i then addk T.length t0 else t0) = t2 := by simpa using hi
            rw [← h4]
            split
            · simp [addk]
              exact h3
            · omega
        · simp at h2
          subst h2
          simp
    -- if number > 0
    refine ⟨_, rfl, _, _, rfl, rfl, _, rfl, ?_⟩
    refine ite2 (fun c => ?_) (fun c => ?_)
    · have c' : 0 < T.length := by
        have := of_decide_eq_true c
        omega
      have har : ar < T.length := by
        rcases hlt (p, ar) List.mem_cons_self with h | h
        · exact h
        · have h' : ar = 0 := h
          omega
      obtain ⟨t1, ht1⟩ : ∃ t1, T[ar]? = some t1 := ⟨_, List.getElem?_eq_getElem har⟩
      obtain ⟨r1, hr1⟩ : ∃ r1, rs[ar]? = some r1 := ⟨_, List.getElem?_eq_getElem (by rw [hR.len]; exact har)⟩
      obtain ⟨x1, x2, x3⟩ := hR4.at_ ar r1 t1 hr1 ht1
      have hat : atI ((rs.map fun r => V.ref r.1) ++ [V.ref t]) (ar : Int) = some (V.ref r1.1) := atI_nat (by
        rw [List.getElem?_append_left (by rw [en]; exact har), List.getElem?_map, hr1]
        rfl)
      have hm1 := List.mem_of_getElem? hr1
      have hk2 : (kidsV t1.2).length < sizeLine := by
        have h1 := hkl t1 (List.mem_of_getElem? ht1)
        exact szb (by rw [kidsV, List.length_map]; omega)
      refine ⟨_, rfl, _, rfl, tA, _, _, _, rfl, rfl, sL hT4, hat, r1.1, _, _, _, rfl, rfl, sT x1, atI_nat (j := 1) rfl, .inl ⟨rfl, _, sL x3⟩, _, rfl, r1.2.2, _, _, rfl, rfl, x3, hk2, ?_⟩
      have hx := hfr r1 hm1
      refine tail _ (g4.mut hx.1) (by rw [upd_ne hx.2.1.symm]; exact hT4) (hR4.grow hr1 ht1 nd) (StkAt.w hS4 x3) (fmW x3 hu4) (by rw [upd_ne (hnl r1 hm1).symm]; exact hl4) (by rw [upd_ne (ne_of ht4 x3 (by intro z; cases z))]; exact ht4) (by rw [upd_ne hx.2.2.symm]; exact hA4)
    · have c' : T.length = 0 := by
        have := of_decide_eq_false (Bool.eq_false_iff.mpr c)
        omega
      have hT0 : T = [] := List.length_eq_zero_iff.mp c'
      refine tail H4 g4 hT4 ?_ hS4 hu4 hl4 ht4 hA4
      subst hT0
      have e0 : ([] : Lay).modify ar (addk ([] : Lay).length) = [] := by simp
      rw [e0]
      exact hR4
end
end Sw
set_option Elab.async false
set_option maxRecDepth 100000
set_option maxHeartbeats 8000000
namespace Sw
open PySem L2 PySem.Spec PyProof.Rows
theorem pairedLen {α β : Type} {F : α → β → Prop} {as : List α} {bs : List β} (h : Paired F as bs) : as.length = bs.length := Paired.length h
theorem pairedAtL {α β : Type} {F : α → β → Prop} : ∀ {l₁ : List α} {l₂ : List β} {i : Nat} {a : α}, Paired F l₁ l₂ → l₁[i]? = some a → ∃ b, l₂[i]? = some b ∧ F a b
  | _, _, _, _, .nil, h => by simp at h
  | _, _, 0, _, .cons r t, h => by simp at h; subst h; exact ⟨_, rfl, r⟩
  | _, _, i + 1, _, .cons r t, h => by
    simp at h
    obtain ⟨a, h1, h2⟩ := pairedAtL t h
    exact ⟨a, by simpa using h1, h2⟩
theorem fmsAtI {K : PySem.W.Frag} {H : Hp} {ws : List V} {fs : List Fm} {i : Nat} {v : V} (h : FmsAt K H ws fs) (hv : ws[i]? = some v) : ∃ f, fs[i]? = some f ∧ FmAt K H v f := by
  obtain ⟨d, h1, h2⟩ := dpsAtV h hv
  rw [Fm.dats_map, List.getElem?_map] at h1
  obtain ⟨f, hf, rfl⟩ := Option.map_eq_some_iff.mp h1
  exact ⟨f, hf, h2⟩
theorem fmsLen {K : PySem.W.Frag} {H : Hp} {ws : List V} {fs : List Fm} (h : FmsAt K H ws fs) : ws.length = fs.length := by
  have := dpsLen h
  rw [Fm.dats_map, List.length_map] at this
  exact this
theorem fm0 {K : PySem.W.Frag} {H : Hp} {v : V} {f : Fm} (h : FmAt K H v f) : ∃ a xs, v = .ref a ∧ SqT K H a xs ∧ xs[0]? = some (.str f.kind) := by
  cases f with
  | sign s => obtain ⟨a, rfl, h1⟩ := fmSign h; exact ⟨a, _, rfl, h1, rfl⟩
  | row ps => obtain ⟨a, b, vs, rfl, h1, _⟩ := fmRow h; exact ⟨a, _, rfl, h1, rfl⟩
  | pick ps => obtain ⟨a, b, vs, rfl, h1, _⟩ := fmPick h; exact ⟨a, _, rfl, h1, rfl⟩
  | times p l u => obtain ⟨a, b, rfl, h1, _⟩ := fmTimes h; exact ⟨a, _, rfl, h1, rfl⟩
def isSg (f : Fm) : Bool := decide (V.str f.kind = V.str "sign")
theorem isSg_sign (s : Str) : isSg (.sign s) = true := rfl
theorem isSg_row (ps : List Fm) : isSg (.row ps) = false := rfl
theorem isSg_pick (ps : List Fm) : isSg (.pick ps) = false := rfl
theorem isSg_times (p : Fm) (l : Nat) (u : Option Nat) : isSg (.times p l u) = false := rfl
def sgOf : Fm → Option Str
  | .sign s => some s
  | _ => none
def sgF (f : Fm) : List Str := ((laidF f 0).map (·.1)).filterMap sgOf
theorem catA {K : PySem.W.Frag} {H : Hp} {a b : Addr} {xs ys : List V} {Q : VK} (ha : SqT K H a xs) (hb : SqT K H b ys) (hl : xs.length + ys.length ≤ sizeLine) (k : ∀ (H' : Hp) (q : Addr), Same H H' → SqT K H' q (xs ++ ys) → Q (.ref q) H') : rCatA K (.ref a) (.ref b) H Q := by
  refine ⟨a, b, xs, ys, rfl, rfl, ha, hb, hl, fun e => ?_, fun _ e => ?_, fun _ _ p hp => k _ p (.new hp) (sT upd_same)⟩
  · subst e
    exact k H b (Same.refl _) hb
  · subst e
    exact k H a (Same.refl _) (by rw [List.append_nil]; exact ha)
mutual
def Fm.dp : Fm → Nat
  | .sign _ => 1
  | .row ps => 1 + Fm.dps ps
  | .pick ps => 1 + Fm.dps ps
  | .times p _ _ => 1 + p.dp
def Fm.dps : List Fm → Nat
  | [] => 0
  | p :: ps => max p.dp (Fm.dps ps)
end
theorem dps_mem : ∀ {ps : List Fm} {p : Fm}, p ∈ ps → p.dp ≤ Fm.dps ps
  | q :: ps, p, h => by
    rw [Fm.dps]
    rcases List.mem_cons.mp h with rfl | h
    · omega
    · have := dps_mem h
      omega
theorem dp_parts {f p : Fm} (h : p ∈ f.parts) : p.dp < f.dp := by
  cases f with
  | sign s => cases h
  | row ps => have := dps_mem (ps := ps) h; rw [Fm.dp]; omega
  | pick ps => have := dps_mem (ps := ps) h; rw [Fm.dp]; omega
  | times p l u => rw [List.mem_singleton.mp h, Fm.dp]; omega
theorem dp_pos (f : Fm) : 0 < f.dp := by cases f <;> simp [Fm.dp] <;> omega
theorem sizes_mem : ∀ {ps : List Fm} {p : Fm}, p ∈ ps → p.size ≤ Fm.sizes ps
  | q :: ps, p, h => by
    rw [Fm.sizes]
    rcases List.mem_cons.mp h with rfl | h
    · omega
    · have := sizes_mem h
      omega
theorem size_parts {f p : Fm} (h : p ∈ f.parts) : p.size < f.size := by
  have := sizes_mem h
  rw [Fm.size_eq f]
  omega
theorem parts_len (f : Fm) : f.parts.length < f.size := by
  have := len_sizes f.parts
  rw [Fm.size_eq f]
  omega
theorem filter_snoc {α : Type} (f : α → Bool) (l : List α) (p : α) : (l ++ [p]).filter f = l.filter f ++ (if f p = true then [p] else []) := by
  rw [List.filter_append]
  congr 1
  by_cases q : f p = true
  · rw [if_pos q, List.filter_cons_of_pos q]; rfl
  · rw [if_neg q, List.filter_cons_of_neg q]; rfl
theorem all_filter {α : Type} (f : α → Bool) (l : List α) : decide ((l.filter fun x => !f x).length = 0) = l.all f := by
  cases e : l.all f with
  | true =>
    refine decide_eq_true ?_
    rw [List.filter_eq_nil_iff.mpr fun x hx => by rw [List.all_eq_true.mp e x hx]; decide]
    rfl
  | false =>
    refine decide_eq_false fun z => ?_
    have z' := List.eq_nil_of_length_eq_zero z
    have : l.all f = true := List.all_eq_true.mpr fun x hx => by
      have := List.filter_eq_nil_iff.mp z' x hx
      simpa using this
    rw [e] at this
    cases this
theorem any_filter {α : Type} (f : α → Bool) (l : List α) : decide (0 < (l.filter f).length) = l.any f := by
  cases e : l.any f with
  | true =>
    obtain ⟨x, hx, q⟩ := List.any_eq_true.mp e
    exact decide_eq_true (List.length_pos_of_mem (List.mem_filter.mpr ⟨hx, q⟩))
  | false =>
    refine decide_eq_false fun z => ?_
    have : l.filter f = [] := List.filter_eq_nil_iff.mpr fun x hx q => by
      have : l.any f = true := List.any_eq_true.mpr ⟨x, hx, q⟩
      rw [e] at this
      cases this
    rw [this] at z
    exact absurd z (Nat.lt_irrefl _)
section
variable {P : Program} {w : World} {K : PySem.W.Frag} {mg : Str → Option Value} {base : Heap}
abbrev n_signs_of : List Str := ["form", "piece", "_"]
theorem sc_signs_of : FnScope n_signs_of ["form"] (defScope s_signs_of) := ⟨rfl, rfl, rfl, by decide +kernel, rfl, by decide +kernel, by decide +kernel⟩
def spSignsOf (K : PySem.W.Frag) : Sp := fun vs H Q _ => ∃ v f, vs = [v] ∧ FmAt K H v f ∧ f.size ≤ 1000 ∧ (nubL (sgF f)).length < 64 ∧ ∀ H' p ys, Same H H' → H' p = some (.lst (ys.map V.str)) → ys.Perm (nubL (sgF f)) → sortedS ys = true → Q (.ref p) H'
theorem ok_signs_of (F : DefAt K mg "signs_of" s_signs_of ["form"]) (d_laid : DefOk P w K mg base "laid" 2 ["form"] (spLaid K)) (b_sorted : mg "sorted" = none) : DefOk P w K mg base "signs_of" 3 ["form"] (spSignsOf K) := by
  refine F.ok sc_signs_of (fun vs H Q E h => ?_) (fun f cdv A outer s H vs Q E hr h => ?_)
  · obtain ⟨_, _, rfl, _⟩ := h
    rfl
  obtain ⟨v, fm, rfl, hf, hsz, h64, k⟩ := h
  refine ⟨_, (pss_one (ps_ret (pe_callB (cr_sortSk rfl) (by rfl) b_sorted (by decide +kernel) (pa_cons (pe_set1 (own := [("piece", 1), ("_", 2)]) (g := gTup K 2 (gCons (gName 1) (gCons (gName 2) gNil))) rfl sc_signs_of.nd (pi_list (pe_callD d_laid (hr.mono (by decide)) rfl (pa_cons (pv 0) pa_nil))) (blkOk_by (own := [("piece", 1), ("_", 2)]) (N := n_signs_of) (sc := defScope s_signs_of) (by decide +kernel)) (fun _ _ _ _ _ => (pg_tup rfl (pgs_cons (pg_name (i := 1) sc_signs_of.nd rfl (Or.inl rfl)) (pgs_cons (pg_name (i := 2) sc_signs_of.nd rfl (Or.inl rfl)) pgs_nil)))) (fun _ _ _ _ _ => (pts_one (pt_cmpR op_eq (pe_ix (r := rIxT K) ix_tup (pv 1) pe_int (fun _ _ => rfl)) pe_str (nomark _)))) (fun _ _ _ _ _ => (pe_ix (r := rIxT K) ix_tup (pv 1) pe_int (fun _ _ => rfl)))) pa_nil)))), ?_⟩
  refine ⟨_, rfl, v, fm, rfl, hf, by omega, fun H1 a s1 na ⟨rs, ha, hR⟩ => ⟨a, rfl, ⟨_, sL ha⟩, fun D nD => ?_⟩⟩
  have hlen : rs.length = fm.size := by rw [hR.len, laidF_length]
  refine cw_list (K := K) (a := a) (xs := rs.map fun r => V.ref r.1) (fun i H' => Same H1 H' ∧ TxK P w H' D ((((laidF fm 0).take i).map (·.1)).filterMap sgOf)) ⟨.new nD, TxK.nil⟩ (fun i H' _ ⟨g, _⟩ => sL (g _ _ ha)) ?_ ?_
  · rintro i x H2 hx ⟨s2, hD⟩
    rw [List.getElem?_map] at hx
    obtain ⟨r, hr1, rfl⟩ := Option.map_eq_some_iff.mp hx
    have hi := (List.getElem?_eq_some_iff.mp hr1).1
    obtain ⟨t, ht⟩ : ∃ t, (laidF fm 0)[i]? = some t := ⟨_, List.getElem?_eq_getElem (by rw [laidF_length]; omega)⟩
    obtain ⟨x1, x2, x3⟩ := hR.at_ i r t hr1 ht
    obtain ⟨ua, us, eu, hu1, hu2⟩ := fm0 x2
    rw [eu] at x1 x2
    refine ⟨r.1, _, rfl, s2.sqT (sT x1), rfl, _, _, rfl, _, _, rfl, rfl, rfl, ?_⟩
    refine ⟨_, rfl, ua, _, 0, _, rfl, rfl, s2.sqT hu1, atI_nat (j := 0) hu2, rfl, _, rfl, ?_⟩
    rw [List.take_add_one, ht, Option.toList_some, List.map_append, List.filterMap_append]
    have skip : sgOf t.1 = none → Same H1 H2 ∧ TxK P w H2 D ((((laidF fm 0).take i).map (·.1)).filterMap sgOf ++ List.filterMap sgOf [t.1]) := fun e => by
      refine ⟨s2, ?_⟩
      rw [List.filterMap_cons, e]
      simpa using hD
    have hlL : (nubL ((((laidF fm 0).take i).map (·.1)).filterMap sgOf)).length ≤ 1000 := by
      refine Nat.le_trans (nub_len_le _) (Nat.le_trans (List.length_filterMap_le _ _) ?_)
      rw [List.length_map, List.length_take]
      omega
    obtain ⟨t1, t2⟩ := t
    cases t1 with
    | row qs => exact iteF (skip rfl)
    | pick qs => exact iteF (skip rfl)
    | times p l h => exact iteF (skip rfl)
    | sign sg =>
      obtain ⟨a', e', h1⟩ := fmSign x2
      have ea : a' = ua := (V.ref.inj e').symm
      subst ea
      obtain ⟨S, hS1, hS2⟩ := hD
      refine iteT ⟨_, rfl, a', _, 1, _, rfl, rfl, s2.sqT h1, atI_nat (j := 1) rfl, Sum.inr sg, S, _, rfl, hS1, by unfold scanBound; omega, s2.mut nD, ?_⟩
      exact TxK.add sg S hS2
  · rintro H2 ⟨s2, hD⟩
    rw [List.length_map, hlen, List.take_of_length_le (by rw [laidF_length]; omega)] at hD
    refine ⟨D, sgF fm, rfl, hD, h64, fun ys p hp hs np => ?_⟩
    exact k _ p ys (s1.trans (s2.trans (.new np))) upd_same hp hs
end
end Sw
set_option Elab.async false
set_option maxRecDepth 100000
set_option maxHeartbeats 4000000
namespace Sw
open PySem L2 PySem.Spec PyProof.Rows
/-! ### what a piece is -/
theorem isTx_eq {s : Str} {d : PyData} (h : isTx s d = true) : d = .str s := by
  cases d with
  | str t => rw [isTx] at h; rw [eq_of_beq h]
  | _ => cases h
inductive Pc : PyData → Prop
  | sign (s : Str) (h : signS s = true) : Pc (.tuple [.str "sign", .str s])
  | row (ps : List PyData) (h : ps.length ≤ 8) : Pc (.tuple [.str "row", .tuple ps])
  | pick (ps : List PyData) (h1 : 1 ≤ ps.length) (h : ps.length ≤ 8) : Pc (.tuple [.str "pick", .tuple ps])
  | times (p : PyData) (l : Nat) (h : Option Nat) (hl : l ≤ 12) (hh : ∀ k, h = some k → max l 1 ≤ k ∧ k ≤ 12) : Pc (.tuple [.str "times", p, .int (l : Int), highD h])
theorem countsD_of {a b : PyData} (h : countsD a b = true) : ∃ (l : Nat) (u : Option Nat), a = .int (l : Int) ∧ b = highD u ∧ l ≤ 12 ∧ ∀ k, u = some k → max l 1 ≤ k ∧ k ≤ 12 := by
  cases a with
  | int i =>
    have h : (decide (0 ≤ i) && decide (i ≤ 12) && hiD i b) = true := h
    rw [Bool.and_eq_true, Bool.and_eq_true] at h
    obtain ⟨⟨h1, h2⟩, h3⟩ := h
    have h1 := of_decide_eq_true h1
    have h2 := of_decide_eq_true h2
    obtain ⟨l, rfl⟩ : ∃ l : Nat, i = (l : Int) := ⟨i.toNat, by omega⟩
    cases b with
    | none => exact ⟨l, none, rfl, rfl, by omega, fun k e => by cases e⟩
    | int j =>
      have h3 : (decide ((if (1 : Int) > (l : Int) then 1 else (l : Int)) ≤ j) && decide (j ≤ 12)) = true := h3
      rw [Bool.and_eq_true] at h3
      have h4 := of_decide_eq_true h3.1
      have h5 := of_decide_eq_true h3.2
      have h6 : 1 ≤ j ∧ (l : Int) ≤ j := by split at h4 <;> omega
      obtain ⟨m, rfl⟩ : ∃ m : Nat, j = (m : Int) := ⟨j.toNat, by omega⟩
      exact ⟨l, some m, rfl, rfl, by omega, fun k e => by cases e; omega⟩
    | _ => cases h3
  | _ => cases h
theorem countsD_mk {l : Nat} {u : Option Nat} (hl : l ≤ 12) (hh : ∀ k, u = some k → max l 1 ≤ k ∧ k ≤ 12) : countsD (.int (l : Int)) (highD u) = true := by
  show (decide ((0 : Int) ≤ (l : Int)) && decide ((l : Int) ≤ 12) && hiD (l : Int) (highD u)) = true
  rw [decide_eq_true (by omega), decide_eq_true (by omega)]
  cases u with
  | none => rfl
  | some k =>
    have := hh k rfl
    show (decide ((if (1 : Int) > (l : Int) then 1 else (l : Int)) ≤ (k : Int)) && decide ((k : Int) ≤ 12)) = true
    rw [decide_eq_true (by split <;> omega), decide_eq_true (by omega)]
    rfl
theorem pieceD_of {d : PyData} (h : pieceD d = true) : Pc d := by
  cases d with
  | tuple l =>
    match l, h with
    | [x, y], h =>
      have h : (if isTx "times" x then false else if isTx "sign" x then signD y else if isTx "row" x then partsOkD 0 y else isTx "pick" x && partsOkD 1 y) = true := h
      cases e1 : isTx "times" x with
      | true => rw [e1, if_pos rfl] at h; cases h
      | false =>
        rw [e1, if_neg (by decide)] at h
        cases e2 : isTx "sign" x with
        | true =>
          rw [e2, if_pos rfl] at h
          rw [isTx_eq e2]
          cases y with
          | str s => exact .sign s h
          | _ => cases h
        | false =>
          rw [e2, if_neg (by decide)] at h
          cases e3 : isTx "row" x with
          | true =>
            rw [e3, if_pos rfl] at h
            rw [isTx_eq e3]
            cases y with
            | tuple ps =>
              have h : (decide (0 ≤ ps.length) && decide (ps.length ≤ 8)) = true := h
              rw [Bool.and_eq_true] at h
              exact .row ps (of_decide_eq_true h.2)
            | _ => cases h
          | false =>
            rw [e3, if_neg (by decide), Bool.and_eq_true] at h
            obtain ⟨h1, h⟩ := h
            rw [isTx_eq h1]
            cases y with
            | tuple ps =>
              have h : (decide (1 ≤ ps.length) && decide (ps.length ≤ 8)) = true := h
              rw [Bool.and_eq_true] at h
              exact .pick ps (of_decide_eq_true h.1) (of_decide_eq_true h.2)
            | _ => cases h
    | [x, p, l, u], h =>
      have h : (isTx "times" x && countsD l u) = true := h
      rw [Bool.and_eq_true] at h
      rw [isTx_eq h.1]
      obtain ⟨n, m, rfl, rfl, h1, h2⟩ := countsD_of h.2
      exact .times p n m h1 h2
  | _ => cases h
theorem pieceD_mk {d : PyData} (h : Pc d) : pieceD d = true := by
  cases h with
  | sign s h => exact h
  | row ps h =>
    show (decide (0 ≤ ps.length) && decide (ps.length ≤ 8)) = true
    rw [decide_eq_true (by omega), decide_eq_true h]; rfl
  | pick ps h1 h =>
    show (decide (1 ≤ ps.length) && decide (ps.length ≤ 8)) = true
    rw [decide_eq_true h1, decide_eq_true h]; rfl
  | times p l u hl hh => exact countsD_mk hl hh
def tupL : PyData → List PyData
  | .tuple ps => ps
  | _ => []
def partsD : PyData → List PyData
  | .tuple l => match l with
    | [_, y] => tupL y
    | [_, p, _, _] => [p]
    | _ => []
  | _ => []
def timesD : PyData → Nat
  | .tuple [_, _, _, _] => 1
  | _ => 0
/-- the walk of is_form: fuel, what stands ahead -/
def wlk : Nat → List (PyData × Nat × Nat) → Bool
  | _, [] => true
  | 0, _ :: _ => false
  | n + 1, t :: S => if 12 < t.2.1 then false else if pieceD t.1 = true then (if 3 < t.2.2 + timesD t.1 then false else wlk n (((partsD t.1).map fun p => (p, t.2.1 + 1, t.2.2 + timesD t.1)).reverse ++ S)) else false
/-! ### forms within bounds -/
def hiN (l : Nat) : Option Nat → Bool
  | none => true
  | some k => decide (max l 1 ≤ k) && decide (k ≤ 12)
mutual
def Fm.pr : Fm → Bool
  | .sign s => signS s
  | .row ps => decide (ps.length ≤ 8) && Fm.prs ps
  | .pick ps => decide (1 ≤ ps.length) && decide (ps.length ≤ 8) && Fm.prs ps
  | .times p l h => decide (l ≤ 12) && hiN l h && p.pr
def Fm.prs : List Fm → Bool
  | [] => true
  | p :: ps => p.pr && Fm.prs ps
end
theorem prs_mem : ∀ {ps : List Fm} {p : Fm}, Fm.prs ps = true → p ∈ ps → p.pr = true
  | q :: ps, p, h, hm => by
    rw [Fm.prs, Bool.and_eq_true] at h
    rcases List.mem_cons.mp hm with rfl | hm
    · exact h.1
    · exact prs_mem h.2 hm
theorem prs_mk : ∀ {ps : List Fm}, (∀ p, p ∈ ps → p.pr = true) → Fm.prs ps = true
  | [], _ => rfl
  | p :: ps, h => by
    rw [Fm.prs, h p (by simp), prs_mk fun q hq => h q (List.mem_cons_of_mem _ hq)]
    rfl
mutual
def Fm.nst : Fm → Nat
  | .sign _ => 0
  | .row ps => Fm.nsts ps
  | .pick ps => Fm.nsts ps
  | .times p _ _ => 1 + p.nst
def Fm.nsts : List Fm → Nat
  | [] => 0
  | p :: ps => max p.nst (Fm.nsts ps)
end
theorem prPc {f : Fm} (h : f.pr = true) : Pc f.dat ∧ partsD f.dat = Fm.dats f.parts := by
  cases f with
  | sign s => exact ⟨.sign s h, rfl⟩
  | row ps =>
    rw [Fm.pr, Bool.and_eq_true] at h
    have := of_decide_eq_true h.1
    exact ⟨.row _ (by rw [Fm.dats_map, List.length_map]; exact this), rfl⟩
  | pick ps =>
    rw [Fm.pr, Bool.and_eq_true, Bool.and_eq_true] at h
    have h1 := of_decide_eq_true h.1.1
    have h2 := of_decide_eq_true h.1.2
    exact ⟨.pick _ (by rw [Fm.dats_map, List.length_map]; exact h1) (by rw [Fm.dats_map, List.length_map]; exact h2), rfl⟩
  | times p l u =>
    rw [Fm.pr, Bool.and_eq_true, Bool.and_eq_true] at h
    refine ⟨.times _ l u (of_decide_eq_true h.1.1) fun k e => ?_, rfl⟩
    have h2 := h.1.2
    rw [e, hiN, Bool.and_eq_true] at h2
    exact ⟨of_decide_eq_true h2.1, of_decide_eq_true h2.2⟩
theorem pr_parts {f : Fm} (h : f.pr = true) : ∀ p, p ∈ f.parts → p.pr = true := by
  cases f with
  | sign s => intro p hp; cases hp
  | row ps =>
    rw [Fm.pr, Bool.and_eq_true] at h
    exact fun p hp => prs_mem h.2 hp
  | pick ps =>
    rw [Fm.pr, Bool.and_eq_true] at h
    exact fun p hp => prs_mem h.2 hp
  | times p l u =>
    rw [Fm.pr, Bool.and_eq_true] at h
    intro q hq
    rw [List.mem_singleton.mp hq]
    exact h.2
/-! ### the walk of a form -/
def Fm.isT : Fm → Nat
  | .times _ _ _ => 1
  | _ => 0
theorem timesFm (f : Fm) : timesD f.dat = f.isT := by cases f <;> rfl
theorem nst_eq (f : Fm) : f.nst = f.isT + Fm.nsts f.parts := by
  cases f with
  | sign s => rfl
  | row ps => simp [Fm.nst, Fm.isT, Fm.parts]
  | pick ps => simp [Fm.nst, Fm.isT, Fm.parts]
  | times p l u => simp [Fm.nst, Fm.isT, Fm.parts, Fm.nsts]
theorem nsts_le : ∀ {ps : List Fm} {n : Nat}, Fm.nsts ps ≤ n ↔ ∀ p, p ∈ ps → p.nst ≤ n
  | [], n => by simp [Fm.nsts]
  | q :: ps, n => by
    rw [Fm.nsts]
    have := nsts_le (ps := ps) (n := n)
    constructor
    · intro h p hp
      rcases List.mem_cons.mp hp with rfl | hp
      · omega
      · exact this.mp (by omega) p hp
    · intro h
      have h1 := h q (by simp)
      have h2 := this.mpr fun p hp => h p (List.mem_cons_of_mem _ hp)
      omega
theorem dps_le : ∀ {ps : List Fm} {n : Nat}, Fm.dps ps ≤ n ↔ ∀ p, p ∈ ps → p.dp ≤ n
  | [], n => by simp [Fm.dps]
  | q :: ps, n => by
    rw [Fm.dps]
    have := dps_le (ps := ps) (n := n)
    constructor
    · intro h p hp
      rcases List.mem_cons.mp hp with rfl | hp
      · omega
      · exact this.mp (by omega) p hp
    · intro h
      have h1 := h q (by simp)
      have h2 := this.mpr fun p hp => h p (List.mem_cons_of_mem _ hp)
      omega
theorem size_pos (f : Fm) : 0 < f.size := by rw [Fm.size_eq]; omega
theorem dp_eq (f : Fm) : f.dp = 1 + Fm.dps f.parts := by
  cases f with
  | sign s => simp [Fm.dp, Fm.parts, Fm.dps]
  | row ps => simp [Fm.dp, Fm.parts]
  | pick ps => simp [Fm.dp, Fm.parts]
  | times p l u => simp [Fm.dp, Fm.parts, Fm.dps]
abbrev Wt := Fm × Nat × Nat
def wtD (t : Wt) : PyData × Nat × Nat := (t.1.dat, t.2.1, t.2.2)
theorem sizes_rev : ∀ l : List Fm, Fm.sizes l.reverse = Fm.sizes l
  | [] => rfl
  | p :: l => by
    rw [List.reverse_cons, sizes_append, sizes_rev l]
    simp [Fm.sizes]
    omega
/-- the walk tells exactly whether the bounds hold -/
theorem wlk_form : ∀ (n : Nat) (S : List Wt), (∀ t, t ∈ S → t.1.pr = true) → (wlk n (S.map wtD) = true ↔ Fm.sizes (S.map (·.1)) ≤ n ∧ ∀ t, t ∈ S → t.2.1 + t.1.dp ≤ 13 ∧ t.2.2 + t.1.nst ≤ 3)
  | n, [], _ => by cases n <;> simp [wlk, Fm.sizes]
  | 0, t :: S, hp => by
    have := size_pos t.1
    rw [List.map_cons, wlk, List.map_cons, Fm.sizes]
    constructor
    · intro h; cases h
    · intro h; omega
  | n + 1, t :: S, hp => by
    obtain ⟨f, deep, tm⟩ := t
    have hf := hp (f, deep, tm) (by simp)
    obtain ⟨h1, h2⟩ := prPc hf
    have hd := dp_pos f
    have hs := size_pos f
    rw [List.map_cons, wlk, List.map_cons, Fm.sizes]
    show (if 12 < deep then false else if pieceD f.dat = true then (if 3 < tm + timesD f.dat then false else wlk n (((partsD f.dat).map fun p => (p, deep + 1, tm + timesD f.dat)).reverse ++ S.map wtD)) else false) = true ↔ _
    rw [if_pos (pieceD_mk h1), timesFm, h2, Fm.dats_map]
    have hn := nst_eq f
    by_cases hdeep : 12 < deep
    · rw [if_pos hdeep]
      constructor
      · intro h; cases h
      · rintro ⟨-, h⟩
        have := (h (f, deep, tm) (by simp)).1
        dsimp only at this
        omega
    · rw [if_neg hdeep]
      by_cases ht : 3 < tm + f.isT
      · rw [if_pos ht]
        constructor
        · intro h; cases h
        · rintro ⟨-, h⟩
          have := (h (f, deep, tm) (by simp)).2
          dsimp only at this
          omega
      · rw [if_neg ht]
        have e : ((f.parts.map Fm.dat).map fun p => (p, deep + 1, tm + f.isT)).reverse ++ S.map wtD = (((f.parts.map fun p => ((p, deep + 1, tm + f.isT) : Wt)).reverse) ++ S).map wtD := by
          rw [List.map_append, List.map_reverse, List.map_map, List.map_map]
          rfl
        rw [e, wlk_form n _ ?_]
        · have esz : Fm.sizes (((f.parts.map fun p => ((p, deep + 1, tm + f.isT) : Wt)).reverse ++ S).map (·.1)) = Fm.sizes f.parts + Fm.sizes (S.map (·.1)) := by
            rw [List.map_append, sizes_append, List.map_reverse, List.map_map, sizes_rev]
            congr 2
            exact List.map_id _
          rw [esz]
          have hse := Fm.size_eq f
          have hde := dp_eq f
          constructor
          · rintro ⟨g1, g2⟩
            refine ⟨by show f.size + _ ≤ _; omega, fun t htm => ?_⟩
            rcases List.mem_cons.mp htm with rfl | htm
            · have a1 : Fm.dps f.parts ≤ 12 - deep := dps_le.mpr fun p hpp => by
                have := (g2 (p, deep + 1, tm + f.isT) (by simp [hpp])).1
                dsimp only at this
                omega
              have a2 : Fm.nsts f.parts ≤ 3 - (tm + f.isT) := nsts_le.mpr fun p hpp => by
                have := (g2 (p, deep + 1, tm + f.isT) (by simp [hpp])).2
                dsimp only at this
                omega
              dsimp only
              omega
            · exact g2 t (by simp [htm])
          · rintro ⟨g1, g2⟩
            have g1 : f.size + Fm.sizes (S.map (·.1)) ≤ n + 1 := g1
            refine ⟨by omega, fun t htm => ?_⟩
            rcases List.mem_append.mp htm with htm | htm
            · rw [List.mem_reverse] at htm
              obtain ⟨p, hpp, rfl⟩ := List.mem_map.mp htm
              have b := g2 (f, deep, tm) (by simp)
              dsimp only at b ⊢
              have b1 := dps_mem hpp
              have b2 := nsts_le.mp (Nat.le_refl (Fm.nsts f.parts)) p hpp
              omega
            · exact g2 t (List.mem_cons_of_mem _ htm)
        · intro t htm
          rcases List.mem_append.mp htm with htm | htm
          · rw [List.mem_reverse] at htm
            obtain ⟨p, hpp, rfl⟩ := List.mem_map.mp htm
            exact pr_parts hf p hpp
          · exact hp t (List.mem_cons_of_mem _ htm)
end Sw
set_option Elab.async false
set_option maxRecDepth 100000
set_option maxHeartbeats 4000000
namespace Sw
open PySem L2 PySem.Spec PyProof.Rows
theorem formsOf : ∀ (ps : List PyData), (∀ p, p ∈ ps → ∃ f : Fm, p = f.dat ∧ f.pr = true) → ∃ fs : List Fm, ps = Fm.dats fs ∧ Fm.prs fs = true
  | [], _ => ⟨[], rfl, rfl⟩
  | p :: ps, h => by
    obtain ⟨f, hf1, hf2⟩ := h p (by simp)
    obtain ⟨fs, h1, h2⟩ := formsOf ps fun q hq => h q (List.mem_cons_of_mem _ hq)
    exact ⟨f :: fs, by rw [Fm.dats, hf1, h1], by rw [Fm.prs, hf2, h2]; rfl⟩
theorem pcForm {d : PyData} (h : Pc d) (hp : ∀ p, p ∈ partsD d → ∃ f : Fm, p = f.dat ∧ f.pr = true) : ∃ f : Fm, d = f.dat ∧ f.pr = true := by
  cases h with
  | sign s h => exact ⟨.sign s, rfl, h⟩
  | row ps h =>
    obtain ⟨fs, rfl, h2⟩ := formsOf ps hp
    rw [Fm.dats_map, List.length_map] at h
    exact ⟨.row fs, rfl, by rw [Fm.pr, h2, decide_eq_true h]; rfl⟩
  | pick ps h1 h =>
    obtain ⟨fs, rfl, h2⟩ := formsOf ps hp
    rw [Fm.dats_map, List.length_map] at h h1
    exact ⟨.pick fs, rfl, by rw [Fm.pr, h2, decide_eq_true h, decide_eq_true h1]; rfl⟩
  | times p l u hl hh =>
    obtain ⟨f, rfl, h2⟩ := hp p (List.mem_singleton.mpr rfl)
    refine ⟨.times f l u, rfl, ?_⟩
    rw [Fm.pr, h2, decide_eq_true hl, Bool.and_true, Bool.true_and]
    cases u with
    | none => rfl
    | some k =>
      obtain ⟨h3, h4⟩ := hh k rfl
      rw [hiN, decide_eq_true h3, decide_eq_true h4]
      rfl
theorem wlk_of : ∀ (n : Nat) (S : List (PyData × Nat × Nat)), wlk n S = true → ∀ t, t ∈ S → ∃ f : Fm, t.1 = f.dat ∧ f.pr = true
  | n, [], _, t, ht => by cases ht
  | 0, _ :: _, h, t, ht => by cases h
  | n + 1, x :: S, h, t, ht => by
    rw [wlk] at h
    by_cases h1 : 12 < x.2.1
    · rw [if_pos h1] at h; cases h
    · rw [if_neg h1] at h
      by_cases h2 : pieceD x.1 = true
      · rw [if_pos h2] at h
        by_cases h3 : 3 < x.2.2 + timesD x.1
        · rw [if_pos h3] at h; cases h
        · rw [if_neg h3] at h
          have ih := wlk_of n _ h
          rcases List.mem_cons.mp ht with rfl | ht
          · refine pcForm (pieceD_of h2) fun p hp => ?_
            exact ih (p, t.2.1 + 1, t.2.2 + timesD t.1) (List.mem_append_left _ (List.mem_reverse.mpr (List.mem_map.mpr ⟨p, hp, rfl⟩)))
          · exact ih t (List.mem_append_right _ ht)
      · rw [if_neg h2] at h; cases h
/-- what is_form tells -/
def IsForm (d : PyData) (b : Bool) : Prop := (wlk 60 [(d, 1, 0)] = false ∧ b = false) ∨ ∃ f : Fm, d = f.dat ∧ f.pr = true ∧ f.size ≤ 60 ∧ f.dp ≤ 12 ∧ f.nst ≤ 3 ∧ b = decide ((nubL (sgF f)).length ≤ 6)
theorem isForm_of {f : Fm} (h : f.pr = true) {b : Bool} (i : IsForm f.dat b) (inj : ∀ g : Fm, f.dat = g.dat → f = g) : b = (decide (f.size ≤ 60) && decide (f.dp ≤ 12) && decide (f.nst ≤ 3) && decide ((nubL (sgF f)).length ≤ 6)) := by
  have w := wlk_form 60 [(f, 1, 0)] fun t ht => by rw [List.mem_singleton.mp ht]; exact h
  have w : wlk 60 [(f.dat, 1, 0)] = true ↔ f.size + 0 ≤ 60 ∧ ∀ t : Wt, t ∈ [(f, 1, 0)] → t.2.1 + t.1.dp ≤ 13 ∧ t.2.2 + t.1.nst ≤ 3 := w
  rcases i with ⟨h1, h2⟩ | ⟨g, e, -, h3, h4, h5, h6⟩
  · rw [h2]
    symm
    apply Bool.eq_false_iff.mpr
    intro q
    rw [Bool.and_eq_true, Bool.and_eq_true, Bool.and_eq_true] at q
    have q1 := of_decide_eq_true q.1.1.1
    have q2 := of_decide_eq_true q.1.1.2
    have q3 := of_decide_eq_true q.1.2
    have := w.mpr ⟨by omega, fun t ht => by
      rw [List.mem_singleton.mp ht]
      dsimp only
      omega⟩
    rw [h1] at this
    cases this
  · obtain rfl := inj g e
    rw [h6, decide_eq_true h3, decide_eq_true h4, decide_eq_true h5]
    rfl
end Sw
set_option Elab.async false
set_option maxRecDepth 100000
set_option maxHeartbeats 4000000
namespace Sw
open PySem L2 PySem.Spec PyProof.Rows
/-! ### parts of a piece of any data -/
theorem pc_sub {d : PyData} (h : Pc d) (hb : bdD d = true) (hs : SeqAt.shaped d = true) : ∀ p, p ∈ partsD d → bdD p = true ∧ SeqAt.shaped p = true := by
  intro p hp
  cases h with
  | sign s h => cases hp
  | row ps h =>
    obtain ⟨_, h2⟩ := bdTup hb
    have h3 := bdDs_mem h2 (d := .tuple ps) (by simp)
    obtain ⟨_, h4⟩ := bdTup h3
    exact ⟨bdDs_mem h4 hp, shMem (shMem hs (d := .tuple ps) (by simp)) hp⟩
  | pick ps h1 h =>
    obtain ⟨_, h2⟩ := bdTup hb
    have h3 := bdDs_mem h2 (d := .tuple ps) (by simp)
    obtain ⟨_, h4⟩ := bdTup h3
    exact ⟨bdDs_mem h4 hp, shMem (shMem hs (d := .tuple ps) (by simp)) hp⟩
  | times q l u hl hh =>
    obtain ⟨_, h2⟩ := bdTup hb
    rw [List.mem_singleton.mp hp]
    exact ⟨bdDs_mem h2 (by simp), shMem hs (by simp)⟩
theorem pc_len {d : PyData} (h : Pc d) : (partsD d).length ≤ 8 := by
  cases h with
  | sign s h => exact Nat.zero_le _
  | row ps h => exact h
  | pick ps h1 h => exact h
  | times q l u hl hh => show 1 ≤ 8; decide
section
variable {P : Program} {w : World} {K : PySem.W.Frag} {mg : Str → Option Value} {base : Heap}
def spPartsD (K : PySem.W.Frag) : Sp := fun vs H Q _ => ∃ v d H0, vs = [v] ∧ Same H0 H ∧ Dp K H0 v d ∧ Pc d ∧ ∀ H' a ws, Same H H' → SqT K H' a ws → DpAll K H0 ws (partsD d) → Q (.ref a) H'
theorem ok_parts_ofD (F : DefAt K mg "parts_of" s_parts_of ["form"]) : DefOk P w K mg base "parts_of" 1 ["form"] (spPartsD K) := by
  refine F.ok sc_parts_of (fun vs H Q E h => ?_) (fun f cdv A outer s H vs Q E hr h => ?_)
  · obtain ⟨_, _, _, rfl, _⟩ := h
    rfl
  obtain ⟨v, d, H0, rfl, s0, hd, hp, k⟩ := h
  refine ⟨_, (pss_cons (ps_if (pt_cmpR op_eq (pe_ix ix_tup (pv 0) pe_int (fun _ _ => rfl)) pe_str (nomark _)) (pss_one (ps_ret (pe_tup pa_nil))) pss_nil)
    (pss_cons (ps_if (pt_cmpR op_eq (pe_ix ix_tup (pv 0) pe_int (fun _ _ => rfl)) pe_str (nomark _)) (pss_one (ps_ret (pe_tup (pa_cons (pe_ix ix_tup (pv 0) pe_int (fun _ _ => rfl)) pa_nil)))) pss_nil)
    (pss_one (ps_ret (pe_ix ix_tup (pv 0) pe_int (fun _ _ => rfl)))))), ?_⟩
  cases hp with
  | sign t h =>
    obtain ⟨a, xs, rfl, ha, hx⟩ := dpTup hd
    obtain ⟨x, xr, rfl, p0, hx⟩ := dpCons hx
    cases p0
    refine ⟨_, rfl, a, _, 0, _, rfl, rfl, s0.sqT ha, atI_nat (j := 0) rfl, rfl, _, rfl, iteT ?_⟩
    exact ⟨(by show 0 ≤ sizeLine; decide), fun p np => k _ p [] (.new np) (sT upd_same) .nil⟩
  | row ps h =>
    obtain ⟨a, xs, rfl, ha, hx⟩ := dpTup hd
    obtain ⟨x, xr, rfl, p0, hx⟩ := dpCons hx
    obtain ⟨y, xr, rfl, p1, hx⟩ := dpCons hx
    obtain ⟨b, ys, rfl, hb, hy⟩ := dpTup p1
    cases p0
    refine ⟨_, rfl, a, _, 0, _, rfl, rfl, s0.sqT ha, atI_nat (j := 0) rfl, rfl, _, rfl, iteF ?_⟩
    refine ⟨_, rfl, a, _, 0, _, rfl, rfl, s0.sqT ha, atI_nat (j := 0) rfl, rfl, _, rfl, iteF ?_⟩
    exact ⟨_, rfl, a, _, 1, _, rfl, rfl, s0.sqT ha, atI_nat (j := 1) rfl, k _ b ys (.refl _) (s0.sqT hb) hy⟩
  | pick ps h1 h =>
    obtain ⟨a, xs, rfl, ha, hx⟩ := dpTup hd
    obtain ⟨x, xr, rfl, p0, hx⟩ := dpCons hx
    obtain ⟨y, xr, rfl, p1, hx⟩ := dpCons hx
    obtain ⟨b, ys, rfl, hb, hy⟩ := dpTup p1
    cases p0
    refine ⟨_, rfl, a, _, 0, _, rfl, rfl, s0.sqT ha, atI_nat (j := 0) rfl, rfl, _, rfl, iteF ?_⟩
    refine ⟨_, rfl, a, _, 0, _, rfl, rfl, s0.sqT ha, atI_nat (j := 0) rfl, rfl, _, rfl, iteF ?_⟩
    exact ⟨_, rfl, a, _, 1, _, rfl, rfl, s0.sqT ha, atI_nat (j := 1) rfl, k _ b ys (.refl _) (s0.sqT hb) hy⟩
  | times q l u hl hh =>
    obtain ⟨a, xs, rfl, ha, hx⟩ := dpTup hd
    obtain ⟨x, xr, rfl, p0, hx⟩ := dpCons hx
    obtain ⟨y, xr, rfl, p1, hx⟩ := dpCons hx
    cases p0
    refine ⟨_, rfl, a, _, 0, _, rfl, rfl, s0.sqT ha, atI_nat (j := 0) rfl, rfl, _, rfl, iteF ?_⟩
    refine ⟨_, rfl, a, _, 0, _, rfl, rfl, s0.sqT ha, atI_nat (j := 0) rfl, rfl, _, rfl, iteT ?_⟩
    exact ⟨_, rfl, a, _, 1, _, rfl, rfl, s0.sqT ha, atI_nat (j := 1) rfl, (by show 1 ≤ sizeLine; decide), fun p np => k _ p [y] (.new np) (sT upd_same) (.cons p1 .nil)⟩
/-! ### is_form -/
abbrev Wi := PyData × Nat × Nat
def ItAt (K : PySem.W.Frag) (H0 H : Hp) (a : Addr) (t : Wi) : Prop := ∃ u, SqT K H a [u, .int (t.2.1 : Int), .int (t.2.2 : Int)] ∧ Dp K H0 u t.1 ∧ bdD t.1 = true ∧ SeqAt.shaped t.1 = true
abbrev ItsAt (K : PySem.W.Frag) (H0 H : Hp) (as : List Addr) (S : List Wi) : Prop := Paired (fun a t => ItAt K H0 H a t) as S
theorem ItsAt.same {H0 H H' : Hp} {as : List Addr} {S : List Wi} (h : ItsAt K H0 H as S) (s : Same H H') : ItsAt K H0 H' as S := pairedMap h fun _ _ ⟨u, h1, h2⟩ => ⟨u, s.sqT h1, h2⟩
theorem ItsAt.wr {H0 H : Hp} {p : Addr} {as : List Addr} {S : List Wi} {xs : List V} {o : HO} (h : ItsAt K H0 H as S) (hp : H p = some (.lst xs)) : ItsAt K H0 (upd H p o) as S := pairedMap h fun _ _ ⟨u, h1, h2⟩ => ⟨u, sqTW hp h1, h2⟩
theorem pairedRev {α β : Type} {F : α → β → Prop} : ∀ {as : List α} {bs : List β}, Paired F as bs → Paired F as.reverse bs.reverse
  | [], [], .nil => .nil
  | a :: as, b :: bs, .cons r t => by
    rw [List.reverse_cons, List.reverse_cons]
    exact pairedApp (pairedRev t) (.cons r .nil)
theorem pc_head {d : PyData} (h : Pc d) : ∃ (s : Str) (rest : List PyData), d = .tuple (.str s :: rest) ∧ ((s = "times" ∧ timesD d = 1) ∨ (s ≠ "times" ∧ timesD d = 0)) := by
  cases h with
  | sign t h => exact ⟨_, _, rfl, .inr ⟨by decide +kernel, rfl⟩⟩
  | row ps h => exact ⟨_, _, rfl, .inr ⟨by decide +kernel, rfl⟩⟩
  | pick ps h1 h => exact ⟨_, _, rfl, .inr ⟨by decide +kernel, rfl⟩⟩
  | times q l u hl hh => exact ⟨_, _, rfl, .inl ⟨rfl, rfl⟩⟩
abbrev n_is_form : List Str := ["thing", "many", "ahead", "piece", "deep", "times", "part"]
theorem sc_is_form : FnScope n_is_form ["thing"] (defScope s_is_form) := ⟨rfl, rfl, rfl, by decide +kernel, rfl, by decide +kernel, by decide +kernel⟩
def spIsForm (K : PySem.W.Frag) (T : Addr) : Sp := fun vs H Q _ => ∃ v d, vs = [v] ∧ Dp K H v d ∧ bdD d = true ∧ SeqAt.shaped d = true ∧ H T = some (TabE T) ∧ ∀ H' b, Same H H' → IsForm d b → Q (.bl b) H'
theorem ok_is_form {T : Addr} (F : DefAt K mg "is_form" s_is_form ["thing"]) (d__is_piece : DefOk P w K mg base "_is_piece" 3 ["thing"] (spIsP K T)) (d_parts_of : DefOk P w K mg base "parts_of" 1 ["form"] (spPartsD K)) (d_signs_of : DefOk P w K mg base "signs_of" 3 ["form"] (spSignsOf K))
    (b_len : mg "len" = none) (g_MP : ∃ t, mg "_MOST_PIECES" = some (.int 60 t)) (g_MD : ∃ t, mg "_MOST_DEEP" = some (.int 12 t)) (g_MT : ∃ t, mg "_MOST_TIMES" = some (.int 3 t)) (g_MS : ∃ t, mg "_MOST_SIGNS" = some (.int 6 t)) : DefOk P w K mg base "is_form" 4 ["thing"] (spIsForm K T) := by
  obtain ⟨t1, g_MP⟩ := g_MP
  obtain ⟨t2, g_MD⟩ := g_MD
  obtain ⟨t3, g_MT⟩ := g_MT
  obtain ⟨t4, g_MS⟩ := g_MS
  refine F.ok sc_is_form (fun vs H Q E h => ?_) (fun f cdv A outer s H vs Q E hr h => ?_)
  · obtain ⟨_, _, rfl, _⟩ := h
    rfl
  obtain ⟨v, d, rfl, hd, hb, hsh, hT, k⟩ := h
  refine ⟨_, (pss_cons (ps_set (i := 1) sc_is_form.nd rfl (Or.inl rfl) pe_int)
    (pss_cons (ps_set (i := 2) sc_is_form.nd rfl (Or.inl rfl) (pe_lst (pa_cons (pe_tup (pa_cons (pv 0) (pa_cons pe_int (pa_cons pe_int pa_nil)))) pa_nil)))
    (pss_cons (ps_while PassesOwn.never (pt_truth (pv 2) (by intro _; rfl)) (pss_cons (ps_asg (pe_bm0 PySem.F.plainAttrs_list PySem.F.slot_list_pop PySem.F.type_list_pop mt_pop (pv 2)) (pg_tup rfl (pgs_cons (pg_name (i := 3) sc_is_form.nd rfl (Or.inl rfl)) (pgs_cons (pg_name (i := 4) sc_is_form.nd rfl (Or.inl rfl)) (pgs_cons (pg_name (i := 5) sc_is_form.nd rfl (Or.inl rfl)) pgs_nil)))))
    (pss_cons (ps_aug (i := 1) sc_is_form.nd rfl (Or.inl rfl) pe_int ip_add)
    (pss_cons (ps_if (PW.pt (pw_or (pt_cmpR op_gt (pv 1) (pe_glob (v := .int 60) rfl g_MP ⟨_, rfl⟩) (nomark _)) (pw_or (pt_cmpR op_gt (pv 4) (pe_glob (v := .int 12) rfl g_MD ⟨_, rfl⟩) (nomark _)) (pw_or1 (pt_not (pt_val (pe_callD d__is_piece (hr.mono (by decide)) rfl (pa_cons (pv 3) pa_nil)))))))) (pss_one (ps_ret pe_bl)) pss_nil)
    (pss_cons (ps_if (pt_cmpR op_eq (pe_ix ix_tup (pv 3) pe_int (fun _ _ => rfl)) pe_str (nomark _)) (pss_one (ps_aug (i := 5) sc_is_form.nd rfl (Or.inl rfl) pe_int ip_add)) pss_nil)
    (pss_cons (ps_if (pt_cmpR op_gt (pv 5) (pe_glob (v := .int 3) rfl g_MT ⟨_, rfl⟩) (nomark _)) (pss_one (ps_ret pe_bl)) pss_nil)
    (pss_one (ps_for PassesOwn.never rfl (pi_tup (pe_callD d_parts_of (hr.mono (by decide)) rfl (pa_cons (pv 3) pa_nil))) (pg_name (i := 6) sc_is_form.nd rfl (Or.inl rfl))
      (pss_one (ps_expr (pe_bm PySem.F.plainAttrs_list PySem.F.slot_list_append PySem.F.type_list_append mt_append (pv 2) (pa_cons (pe_tup (pa_cons (pv 6) (pa_cons (pe_op op_add (pv 4) pe_int) (pa_cons (pv 5) pa_nil)))) pa_nil))))))))))))
    (pss_one (ps_ret (pe_cmpR op_le (pe_callB call_len_seq (by rfl) b_len PySem.boot_len (pa_cons (pe_callD d_signs_of (hr.mono (by decide)) rfl (pa_cons (pv 0) pa_nil)) pa_nil)) (pe_glob (v := .int 6) rfl g_MS ⟨_, rfl⟩) (nomark _))))))), ?_⟩
  refine ⟨_, rfl, (by show 3 ≤ sizeLine; decide), fun r nr => ⟨(by show 1 ≤ sizeLine; decide), fun al nal => ?_⟩⟩
  have s1 : Same H (upd H r (.tup [v, .int 1, .int 0])) := .new nr
  have s2 : Same (upd H r (.tup [v, .int 1, .int 0])) (upd (upd H r (.tup [v, .int 1, .int 0])) al (.lst [.ref r])) := .new nal
  have nalH : H al = none := s1.free nal
  have hal0 : (upd (upd H r (.tup [v, .int 1, .int 0])) al (.lst [.ref r])) al = some (.lst (([r] : List Addr).map V.ref).reverse) := upd_same
  have hr0 := s2 _ _ (upd_same (H := H) (a := r) (o := .tup [v, .int 1, .int 0]))
  have s12 := s1.trans s2
  generalize upd (upd H r (.tup [v, .int 1, .int 0])) al (.lst [.ref r]) = H3 at hal0 hr0 s12
  refine ⟨fun m σ H' => ∃ (fuel many : Nat) (S : List Wi) (rs : List Addr) (o3 o4 o5 o6 : Option V), σ = [some v, some (.int (many : Int)), some (.ref al), o3, o4, o5, o6] ∧ m = fuel ∧ many + fuel = 60 ∧ Same H H' ∧ H' al = some (.lst (rs.map V.ref).reverse) ∧ ItsAt K H H' rs S ∧ S.length ≤ 1 + 8 * many ∧ wlk fuel S = wlk 60 [(d, 1, 0)],
    ⟨_, 60, 0, [(d, 1, 0)], [r], none, none, none, none, rfl, rfl, rfl, s12, hal0, .cons ⟨v, sT hr0, hd, hb, hsh⟩ .nil, Nat.le_refl _, rfl⟩, ?_⟩
  rintro m σ H5 ⟨fuel, many, S, rs, o3, o4, o5, o6, rfl, rfl, hmf, s5, hal5, hrs, hlS, hw⟩
  refine ⟨_, rfl, _, .inl ⟨_, sL hal5, rfl⟩, ?_⟩
  cases hrs with
  | nil =>
    refine iteF ?_
    have hw1 : wlk 60 [(d, 1, 0)] = true := by rw [← hw]; cases m <;> rfl
    obtain ⟨fm, hfd, hfp⟩ := wlk_of 60 _ hw1 (d, 1, 0) (by simp)
    have hfd : d = fm.dat := hfd
    subst hfd
    have hb4 := (wlk_form 60 [(fm, 1, 0)] fun t ht => by rw [List.mem_singleton.mp ht]; exact hfp).mp hw1
    obtain ⟨q1, q2⟩ := hb4
    have q1 : fm.size + 0 ≤ 60 := q1
    have q2 := q2 (fm, 1, 0) (by simp)
    dsimp only at q2
    have h64 : (nubL (sgF fm)).length < 64 := by
      refine Nat.lt_of_le_of_lt (nub_len_le _) ?_
      unfold sgF
      refine Nat.lt_of_le_of_lt (List.length_filterMap_le _ _) ?_
      rw [List.length_map, laidF_length]
      omega
    refine ⟨_, rfl, v, fm, rfl, dpS s5 hd, by omega, h64, fun H6 p ys s6 hp hperm _ => ?_⟩
    refine ⟨p, _, rfl, .inl (sL hp), _, _, rfl, rfl, ?_⟩
    refine k H6 _ (s5.trans s6) (.inr ⟨fm, rfl, hfp, by omega, by omega, by omega, ?_⟩)
    rw [List.length_map, hperm.length_eq]
    by_cases q : (nubL (sgF fm)).length ≤ 6
    · rw [decide_eq_true q]; exact decide_eq_true (by omega)
    · rw [decide_eq_false q]; exact decide_eq_false (by omega)
  | @cons r t rs S hr0 hrs =>
    rw [List.map_cons, List.reverse_cons] at hal5 ⊢
    refine iteT' (by simp) ?_
    have hrsl := pairedLen hrs
    obtain ⟨u, r1, r2, r3, r4⟩ := hr0
    refine ⟨fun σ' H' => ∃ (fuel' many' : Nat) (S' : List Wi) (rs' : List Addr) (o3 o4 o5 o6 : Option V), σ' = [some v, some (.int (many' : Int)), some (.ref al), o3, o4, o5, o6] ∧ fuel' < m ∧ many' + fuel' = 60 ∧ Same H H' ∧ H' al = some (.lst (rs'.map V.ref).reverse) ∧ ItsAt K H H' rs' S' ∧ S'.length ≤ 1 + 8 * many' ∧ wlk fuel' S' = wlk 60 [(d, 1, 0)],
      fun σ' H' ⟨fuel', many', S', rs', o3, o4, o5, o6, g1, g2, g3⟩ => ⟨_, g2, fuel', many', S', rs', o3, o4, o5, o6, g1, rfl, g3⟩, ?_⟩
    refine ⟨_, rfl, .inl ⟨rfl, _, .inl (.inl hal5)⟩, al, _, .ref r, rfl, rfl, hal5, by simp, ?_⟩
    rw [List.dropLast_concat]
    have s6 : Same H (upd H5 al (.lst (rs.map V.ref).reverse)) := s5.mut nalH
    have hal6 : (upd H5 al (.lst (rs.map V.ref).reverse)) al = some (.lst (rs.map V.ref).reverse) := upd_same
    have hrs6 := ItsAt.wr (o := .lst (rs.map V.ref).reverse) hrs hal5
    have r16 := sqTW (o := .lst (rs.map V.ref).reverse) hal5 r1
    generalize upd H5 al (.lst (rs.map V.ref).reverse) = H6 at s6 hal6 hrs6 r16 ⊢
    obtain ⟨pd, deep, tm⟩ := t
    dsimp only at r16 r2 r3 r4
    refine ⟨r, _, rfl, r16, rfl, _, _, rfl, _, _, rfl, _, _, rfl, rfl, ?_⟩
    refine ⟨_, rfl, _, _, rfl, rfl, ?_⟩
    have no : wlk m ((pd, deep, tm) :: S) = false → ∀ H', Same H H' → Q (.bl false) H' := fun e H' s => k H' false s (.inl ⟨by rw [← hw]; exact e, rfl⟩)
    cases m with
    | zero =>
      refine ⟨_, rfl, _, _, rfl, rfl, _, rfl, iteT' (decide_eq_true (show (many : Int) + 1 > 60 by omega)) ?_⟩
      exact no rfl _ s6
    | succ n =>
      refine ⟨_, rfl, _, _, rfl, rfl, _, rfl, iteF' (by rw [decide_eq_false (show ¬ ((many : Int) + 1 > 60) by omega)]; decide) ?_⟩
      have ew : wlk (n + 1) ((pd, deep, tm) :: S) = (if 12 < deep then false else if pieceD pd = true then (if 3 < tm + timesD pd then false else wlk n (((partsD pd).map fun p => (p, deep + 1, tm + timesD pd)).reverse ++ S)) else false) := rfl
      by_cases hdeep : 12 < deep
      · refine ⟨_, rfl, _, _, rfl, rfl, _, rfl, iteT' (decide_eq_true (by omega)) ?_⟩
        exact no (by rw [ew, if_pos hdeep]) _ s6
      · rw [if_neg hdeep] at ew
        refine ⟨_, rfl, _, _, rfl, rfl, _, rfl, iteF' (by rw [decide_eq_false (by omega)]; decide) ?_⟩
        refine ⟨_, rfl, u, pd, rfl, dpS s6 r2, r3, r4, s6 _ _ hT, _, rfl, ?_⟩
        cases hpd : pieceD pd with
        | false =>
          refine iteT ?_
          exact no (by rw [ew, if_neg (by rw [hpd]; decide)]) _ s6
        | true =>
          rw [if_pos hpd] at ew
          refine iteF ?_
          have hpc := pieceD_of hpd
          obtain ⟨s0, rest, epd, hkind⟩ := pc_head hpc
          have r2' := r2
          rw [epd] at r2'
          obtain ⟨a, xs, rfl, ha, hxs⟩ := dpTup r2'
          obtain ⟨x0, xr, rfl, p0, hxs⟩ := dpCons hxs
          cases p0
          refine ⟨_, rfl, a, _, 0, _, rfl, rfl, s6.sqT ha, atI_nat (j := 0) rfl, rfl, _, rfl, ?_⟩
          have fin : ∀ (z : Int), z = ((tm + timesD pd : Nat) : Int) → ∀ (σ : L2.St) (D : Ends), σ = [some v, some (.int ((many : Int) + 1)), some (.ref al), some (.ref a), some (.int (deep : Int)), some (.int z), o6] → D.rt = Q →
              (∀ σ' H', (∃ (fuel' many' : Nat) (S' : List Wi) (rs' : List Addr) (o3 o4 o5 o6 : Option V), σ' = [some v, some (.int (many' : Int)), some (.ref al), o3, o4, o5, o6] ∧ fuel' < n + 1 ∧ many' + fuel' = 60 ∧ Same H H' ∧ H' al = some (.lst (rs'.map V.ref).reverse) ∧ ItsAt K H H' rs' S' ∧ S'.length ≤ 1 + 8 * many' ∧ wlk fuel' S' = wlk 60 [(d, 1, 0)]) → D.nx σ' H') →
              tSeq (tIfS (tTest (tOp (rI0 fun i j => V.bl (decide (i > j))) (tVar 5) (tC (V.int 3)))) (tRet (tC (V.bl false))) tNext)
                (tFor (iTup K (tCall (spPartsD K) [] E0 (tCons (tVar 3) tNil))) (gName 6) (tDrop (tBM K "list" rAppend (tVar 2) (tCons (tTup (tCons (tVar 6) (tCons (tOp (rI0 fun i j => V.int (i + j)) (tVar 4) (tC (V.int 1))) (tCons (tVar 5) tNil)))) tNil)))) D σ H6 := by
            rintro _ rfl σ D rfl hrt hnx
            have hno : ∀ H', Same H H' → wlk (n + 1) ((pd, deep, tm) :: S) = false → D.rt (.bl false) H' := fun H' s e => by rw [hrt]; exact no e H' s
            by_cases h3 : 3 < tm + timesD pd
            · refine ⟨_, rfl, _, _, rfl, rfl, _, rfl, iteT' (decide_eq_true (by omega)) ?_⟩
              exact hno _ s6 (by rw [ew, if_pos h3])
            · rw [if_neg h3] at ew
              refine ⟨_, rfl, _, _, rfl, rfl, _, rfl, iteF' (by rw [decide_eq_false (by omega)]; exact Bool.false_ne_true) ?_⟩
              generalize tm + timesD pd = tz at ew h3 ⊢
              refine ⟨_, rfl, .ref a, pd, H, rfl, s6, r2, hpc, fun H7 q ws s7 hq hws => ⟨q, rfl, ⟨_, hq⟩, ?_⟩⟩
              have hwl := dpsLen hws
              have hpl := pc_len hpc
              have s07 := s6.trans s7
              refine for_tup (K := K) (a := q) (xs := ws) (fun i σ H' => ∃ (as : List Addr) (o6' : Option V), σ = [some v, some (.int ((many : Int) + 1)), some (.ref al), some (.ref a), some (.int (deep : Int)), some (.int (tz : Int)), o6'] ∧ Same H H' ∧ SqT K H' q ws ∧ H' al = some (.lst ((rs.map V.ref).reverse ++ as.map V.ref)) ∧ as.length ≤ i ∧
                  ItsAt K H H' as (((partsD pd).take i).map fun p => (p, deep + 1, tz)) ∧ ItsAt K H H' rs S)
                ⟨[], o6, rfl, s07, hq, by rw [s7 _ _ hal6]; simp, Nat.le_refl _, .nil, hrs6.same s7⟩ (fun i σ H' _ ⟨_, _, _, _, h, _⟩ => h) ?_ ?_
              · rintro i x σ H8 hx ⟨as, o6', rfl, s8, hq8, hal8, hal', has8, hrs8⟩
                have hi := (List.getElem?_eq_some_iff.mp hx).1
                obtain ⟨dp, hdp1, hdp2⟩ := dpsAtV hws hx
                have hmem := List.mem_of_getElem? hdp1
                obtain ⟨b1, b2⟩ := pc_sub hpc r3 r4 dp hmem
                refine ⟨_, rfl, .inl ⟨rfl, _, sL hal8⟩, _, rfl, _, rfl, _, _, rfl, rfl, _, rfl, (by show 3 ≤ sizeLine; decide), fun t nt => ?_⟩
                have s9 : Same H8 (upd H8 t (.tup [x, .int ((deep : Int) + 1), .int (tz : Int)])) := .new nt
                have ht : (upd H8 t (.tup [x, .int ((deep : Int) + 1), .int (tz : Int)])) t = some (.tup [x, .int ((deep : Int) + 1), .int (tz : Int)]) := upd_same
                have hal9 := s9 _ _ hal8
                have nta : t ≠ al := (ne_of_none hal8 nt).symm
                generalize upd H8 t (.tup [x, .int ((deep : Int) + 1), .int (tz : Int)]) = H9 at s9 ht hal9
                refine ⟨al, _, _, rfl, rfl, hal9, szb (by simp only [List.length_append, List.length_reverse, List.length_map]; simp only [List.length_cons] at hlS; omega), ?_⟩
                refine ⟨as ++ [t], some x, rfl, (s8.trans s9).mut nalH, sqTW hal9 (s9.sqT hq8), ?_, by rw [List.length_append, List.length_singleton]; omega, ?_, (hrs8.same s9).wr hal9⟩
                · rw [upd_same, List.map_append, List.append_assoc]
                  rfl
                · rw [List.take_add_one, hdp1, List.map_append]
                  exact pairedApp ((has8.same s9).wr hal9) (.cons ⟨x, sqTW hal9 (sT ht), hdp2, b1, b2⟩ .nil)
              · rintro σ H8 ⟨as, o6', rfl, s8, hq8, hal8, hal', has8, hrs8⟩
                rw [hwl, List.take_length] at has8
                refine hnx _ _ ⟨n, many + 1, ((partsD pd).map fun p => (p, deep + 1, tz)).reverse ++ S, as.reverse ++ rs, _, _, _, _, rfl, by omega, by omega, s8, ?_, pairedApp (pairedRev has8) hrs8, ?_, ?_⟩
                · rw [hal8]
                  simp
                · simp only [List.length_append, List.length_reverse, List.length_map, List.length_cons] at hlS ⊢
                  omega
                · rw [← hw, ew]
          rcases hkind with ⟨e1, e2⟩ | ⟨e1, e2⟩
          · refine iteT' (decide_eq_true (by rw [e1])) ?_
            refine ⟨_, rfl, _, _, rfl, rfl, ?_⟩
            exact fin ((tm : Int) + 1) (by omega) _ _ rfl rfl fun σ' H' h => h
          · refine iteF' (by rw [decide_eq_false (fun z => e1 (V.str.inj z))]; exact Bool.false_ne_true) ?_
            exact fin (tm : Int) (by omega) _ _ rfl rfl fun σ' H' h => h
end
end Sw
set_option Elab.async false
set_option maxRecDepth 100000
set_option maxHeartbeats 8000000
namespace Sw
open PySem L2 PySem.Spec PyProof.Rows
/-! ### signs of a form -/
mutual
def Fm.sg : Fm → List Str
  | .sign s => [s]
  | .row ps => Fm.sgs ps
  | .pick ps => Fm.sgs ps
  | .times p _ _ => p.sg
def Fm.sgs : List Fm → List Str
  | [] => []
  | p :: ps => p.sg ++ Fm.sgs ps
end
mutual
theorem sg_laid : ∀ (f : Fm) (n : Nat), ((laidF f n).map (·.1)).filterMap sgOf = f.sg
  | .sign s, n => by simp [laidF, sgOf, Fm.sg]
  | .row ps, n => by
    rw [laidF, Fm.sg, ← sgs_laid ps (n + 1)]
    rfl
  | .pick ps, n => by
    rw [laidF, Fm.sg, ← sgs_laid ps (n + 1)]
    rfl
  | .times p l u, n => by
    rw [laidF, Fm.sg, ← sg_laid p (n + 1)]
    rfl
theorem sgs_laid : ∀ (ps : List Fm) (n : Nat), ((laidFs ps n).map (·.1)).filterMap sgOf = Fm.sgs ps
  | [], n => by simp [laidFs, Fm.sgs]
  | p :: ps, n => by
    rw [laidFs, List.map_append, List.filterMap_append, sg_laid p, sgs_laid ps, Fm.sgs]
end
theorem sgF_sg (f : Fm) : sgF f = f.sg := sg_laid f 0
theorem sgs_mem : ∀ {ps : List Fm} {t : Str}, t ∈ Fm.sgs ps ↔ ∃ p, p ∈ ps ∧ t ∈ p.sg
  | [], t => by simp [Fm.sgs]
  | p :: ps, t => by rw [Fm.sgs, List.mem_append, sgs_mem]; simp
mutual
theorem sg_len : ∀ f : Fm, f.sg.length ≤ f.size
  | .sign s => by simp [Fm.sg, Fm.size]
  | .row ps => by have := sgs_len ps; rw [Fm.sg, Fm.size]; omega
  | .pick ps => by have := sgs_len ps; rw [Fm.sg, Fm.size]; omega
  | .times p l u => by have := sg_len p; rw [Fm.sg, Fm.size]; omega
theorem sgs_len : ∀ ps : List Fm, (Fm.sgs ps).length ≤ Fm.sizes ps
  | [] => by simp [Fm.sgs]
  | p :: ps => by
    have := sg_len p
    have := sgs_len ps
    rw [Fm.sgs, Fm.sizes, List.length_append]
    omega
end
end Sw
set_option Elab.async false
set_option maxRecDepth 100000
set_option maxHeartbeats 8000000
namespace Sw
open PySem L2 PySem.Spec PyProof.Rows
/-! ### the state of a law: a dict of the script and the place in it -/
def stK (sp : Addr) (i : Nat) : List (Key × V) := [(.inr "script", .ref sp), (.inr "at", .int (i : Int))]
theorem stK_script (sp : Addr) (i : Nat) : valV (stK sp i) (.inr "script") = some (.ref sp) := by rfl
theorem stK_at (sp : Addr) (i : Nat) : valV (stK sp i) (.inr "at") = some (.int (i : Int)) := by rfl
theorem stK_put (sp : Addr) (i j : Nat) : putK (stK sp i) (.inr "at") (.int (j : Int)) = stK sp j := by rfl
def StateAt (H : Hp) (st sp : Addr) : Prop := ∃ (ns : List Int) (i : Nat), H st = some (.dK (stK sp i)) ∧ H sp = some (.lst (ns.map V.int))
theorem dkRd {H : Hp} {st : Addr} {kvs : List (Key × V)} (h : H st = some (.dK kvs)) {u : HO} (r : Rd H st u) : ∀ xs, u ≠ .lst xs ∧ u ≠ .tup xs := by
  intro xs
  rcases r with r | ⟨o, r⟩
  · rw [h] at r
    cases r
    exact ⟨(fun e => by cases e), (fun e => by cases e)⟩
  · rw [h] at r
    cases r
theorem StateAt.same {H H' : Hp} {st sp : Addr} (h : StateAt H st sp) (s : Same H H') : StateAt H' st sp := by
  obtain ⟨ns, i, h1, h2⟩ := h
  exact ⟨ns, i, s _ _ h1, s _ _ h2⟩
theorem fmD {K : PySem.W.Frag} {H H' : Hp} {st sp : Addr} (h : StateAt H st sp) (b : But st H H') {v : V} {f : Fm} (hf : FmAt K H v f) : FmAt K H' v f := by
  obtain ⟨ns, i, h1, h2⟩ := h
  exact dpB b (fun _ r => dkRd h1 r) hf
theorem fmsD {K : PySem.W.Frag} {H H' : Hp} {st sp : Addr} (h : StateAt H st sp) (b : But st H H') : ∀ {vs : List V} {fs : List Fm}, FmsAt K H vs fs → FmsAt K H' vs fs := by
  intro vs fs
  induction fs generalizing vs with
  | nil => intro h1; cases h1; exact .nil
  | cons f fs ih =>
    intro h1
    cases h1 with
    | cons a c => exact .cons (fmD h b a) (ih c)
theorem sqTD {K : PySem.W.Frag} {H H' : Hp} {st sp : Addr} (h : StateAt H st sp) (b : But st H H') {a : Addr} {xs : List V} (hq : SqT K H a xs) : SqT K H' a xs := by
  obtain ⟨ns, i, h1, h2⟩ := h
  have n : ∀ u, Rd H a u → u = .tup xs → a ≠ st := fun u r e hm => (dkRd h1 (hm ▸ r) xs).2 e
  rcases hq with hq | hq
  · have hn := n _ hq rfl
    rcases hq with hq | ⟨o, hq⟩
    · exact .inl (.inl (b _ _ hq hn))
    · exact .inl (.inr ⟨o, b _ _ hq hn⟩)
  · exact .inr hq
theorem lsD {H H' : Hp} {st sp : Addr} (h : StateAt H st sp) (b : But st H H') {a : Addr} {xs : List V} (hq : H a = some (.lst xs)) : H' a = some (.lst xs) := by
  obtain ⟨ns, i, h1, h2⟩ := h
  exact b _ _ hq (fun e => by rw [e, h1] at hq; cases hq)
/-- a list that was not there ahead may be written -/
theorem StateAt.w {H0 H : Hp} {st sp D : Addr} {o : HO} (h : StateAt H st sp) (h0 : StateAt H0 st sp) (hD : H0 D = none) : StateAt (upd H D o) st sp := by
  obtain ⟨ns, i, h1, h2⟩ := h
  obtain ⟨_, _, h3, h4⟩ := h0
  exact ⟨ns, i, by rw [upd_ne (ne_of_none h3 hD)]; exact h1, by rw [upd_ne (ne_of_none h4 hD)]; exact h2⟩
theorem butW {H0 H : Hp} {st D : Addr} {o : HO} (b : But st H0 H) (hD : H0 D = none) : But st H0 (upd H D o) := fun x u e n => by
  rw [upd_ne (ne_of_none e hD)]
  exact b x u e n
section
variable {P : Program} {w : World} {K : PySem.W.Frag} {mg : Str → Option Value} {base : Heap}
abbrev n_law_cell : List Str := ["state"]
theorem sc_law_cell : FnScope n_law_cell ["state"] (defScope s_law_cell) := ⟨rfl, rfl, rfl, by decide +kernel, rfl, by decide +kernel, by decide +kernel⟩
def spCell : Sp := fun vs H Q _ => ∃ st sp, vs = [.ref st] ∧ StateAt H st sp ∧ ∀ H' z, But st H H' → StateAt H' st sp → Q (.int z) H'
theorem ok_law_cell (F : DefAt K mg "_law_cell" s_law_cell ["state"]) (b_len : mg "len" = none) : DefOk P w K mg base "_law_cell" 1 ["state"] spCell := by
  refine F.ok sc_law_cell (fun vs H Q E h => ?_) (fun f cdv A outer s H vs Q E hr h => ?_)
  · obtain ⟨_, _, rfl, _⟩ := h
    rfl
  obtain ⟨st, sp, rfl, ⟨ns, i, h1, h2⟩, k⟩ := h
  have hu := hu_of hr
  refine ⟨_, (pss_cons (ps_dput hu (pv 0) pe_str (pe_op op_add (pe_dget hu (pv 0) pe_str (fun _ _ => rfl)) pe_int) rfl)
    (pss_cons (ps_if (pt_cmpR op_gt (pe_dget hu (pv 0) pe_str (fun _ _ => rfl)) (pe_callB call_len_seq (by rfl) b_len PySem.boot_len (pa_cons (pe_dget hu (pv 0) pe_str (fun _ _ => rfl)) pa_nil)) (nomark _)) (pss_one (ps_ret pe_int)) pss_nil)
    (pss_one (ps_ret (pe_ix ix_list (pe_dget hu (pv 0) pe_str (fun _ _ => rfl)) (pe_op op_sub (pe_dget hu (pv 0) pe_str (fun _ _ => rfl)) pe_int) (fun _ _ => rfl)))))), ?_⟩
  have g1 : ∀ (H' : Hp) (j : Nat), H' st = some (.dK (stK sp j)) → DGet H' st (.str "at") (some (.int (j : Int))) := fun H' j h => DGet.k (k := .inr "at") h
  have g2 : ∀ (H' : Hp) (j : Nat), H' st = some (.dK (stK sp j)) → DGet H' st (.str "script") (some (.ref sp)) := fun H' j h => DGet.k (k := .inr "script") h
  refine ⟨_, rfl, st, _, rfl, g1 _ _ h1, _, _, rfl, rfl, _, rfl, st, _, rfl, DPut.k (k := .inr "at") h1 (by show 2 < sizeLine; decide), ?_⟩
  have e0 : (((i : Nat) : Int) + 1 : Int) = ((i + 1 : Nat) : Int) := by omega
  dsimp only
  rw [e0, stK_put]
  have nsp : sp ≠ st := fun e => by rw [e, h1] at h2; cases h2
  have h3 : (upd H st (.dK (stK sp (i + 1)))) st = some (.dK (stK sp (i + 1))) := upd_same
  have h4 : (upd H st (.dK (stK sp (i + 1)))) sp = some (.lst (ns.map V.int)) := by rw [upd_ne nsp]; exact h2
  have sa : StateAt (upd H st (.dK (stK sp (i + 1)))) st sp := ⟨ns, i + 1, h3, h4⟩
  refine ⟨_, rfl, st, _, rfl, g1 _ _ h3, _, rfl, st, _, rfl, g2 _ _ h3, sp, _, rfl, .inl (sL h4), _, _, rfl, rfl, _, rfl, ?_⟩
  rw [List.length_map]
  refine ite2 (fun _ => ?_) (fun hle => ?_)
  · exact k _ 0 But.refl.upd sa
  · have hle' : ¬ ((ns.length : Int) < ((i + 1 : Nat) : Int)) := fun h => hle (decide_eq_true h)
    obtain ⟨z, hz⟩ : ∃ z, ns[i]? = some z := ⟨_, List.getElem?_eq_getElem (by omega)⟩
    refine ⟨_, rfl, st, _, rfl, g2 _ _ h3, _, rfl, st, _, rfl, g1 _ _ h3, _, _, rfl, rfl, sp, _, _, _, rfl, rfl, sL h4, at_of (j := i) (v := V.int z) (by omega) (by rw [List.getElem?_map, hz]; rfl), ?_⟩
    exact k _ z But.refl.upd sa
abbrev n_law_sign : List Str := ["cell"]
theorem sc_law_sign : FnScope n_law_sign ["cell"] (defScope s_law_sign) := ⟨rfl, rfl, rfl, by decide +kernel, rfl, by decide +kernel, by decide +kernel⟩
def okS (s : Str) : Prop := s = "a" ∨ s = "b" ∨ s = "ab" ∨ s = "c"
theorem okS_str {s : Str} (h : okS s) : PyData.strOk s = true := by
  rcases h with rfl | rfl | rfl | rfl <;> decide +kernel
def spSign : Sp := fun vs H Q _ => ∃ c, vs = [.int c] ∧ ∀ H' s, Same H H' → okS s → Q (.str s) H'
theorem ok_law_sign (F : DefAt K mg "_law_sign" s_law_sign ["cell"]) : DefOk P w K mg base "_law_sign" 1 ["cell"] spSign := by
  refine F.ok sc_law_sign (fun vs H Q E h => ?_) (fun f cdv A outer s H vs Q E hr h => ?_)
  · obtain ⟨_, rfl, _⟩ := h
    rfl
  obtain ⟨c, rfl, k⟩ := h
  refine ⟨_, (pss_one (ps_ret (pe_ix ix_list (pe_lst (pa_cons pe_str (pa_cons pe_str (pa_cons pe_str pa_nil)))) (pe_op op_mod (pv 0) pe_int) (fun _ _ => rfl)))), ?_⟩
  refine ⟨(by show 3 ≤ sizeLine; decide), fun p hp => ⟨_, rfl, _, _, rfl, rfl, (by show (0 : Int) < 3; decide), ?_⟩⟩
  have h0 : 0 ≤ c % 3 := Int.emod_nonneg _ (by decide)
  have h3 : c % 3 < 3 := Int.emod_lt_of_pos _ (by decide)
  obtain ⟨j, hj⟩ : ∃ j : Nat, c % 3 = (j : Int) := ⟨(c % 3).toNat, by omega⟩
  have s1 : Same H (upd H p (.lst [.str "a", .str "b", .str "ab"])) := .new hp
  have hj3 : j < 3 := by omega
  match j, hj3, hj with
  | 0, _, hj => exact ⟨p, _, _, _, rfl, rfl, sL upd_same, at_of (j := 0) hj rfl, k _ _ s1 (.inl rfl)⟩
  | 1, _, hj => exact ⟨p, _, _, _, rfl, rfl, sL upd_same, at_of (j := 1) hj rfl, k _ _ s1 (.inr (.inl rfl))⟩
  | 2, _, hj => exact ⟨p, _, _, _, rfl, rfl, sL upd_same, at_of (j := 2) hj rfl, k _ _ s1 (.inr (.inr (.inl rfl)))⟩
end
end Sw
set_option Elab.async false
set_option maxRecDepth 100000
set_option maxHeartbeats 8000000
namespace Sw
open PySem L2 PySem.Spec PyProof.Rows
/-- the forms that the laws make, so deep -/
def Lw : Nat → Fm → Prop
  | 0, f => match f with
    | .sign s => okS s
    | _ => False
  | n + 1, f => match f with
    | .sign s => okS s
    | .row ps => ps.length ≤ 3 ∧ ∀ p, p ∈ ps → Lw n p
    | .pick ps => 1 ≤ ps.length ∧ ps.length ≤ 3 ∧ ∀ p, p ∈ ps → Lw n p
    | .times p low high => Lw n p ∧ low ≤ 12 ∧ ∀ h, high = some h → max low 1 ≤ h ∧ h ≤ 12
theorem lw_sign {n : Nat} {s : Str} (h : okS s) : Lw n (.sign s) := by cases n <;> exact h
theorem fmsW {K : PySem.W.Frag} {H : Hp} {p : Addr} {xs : List V} {o : HO} (h : H p = some (.lst xs)) : ∀ {fs : List Fm} {vs : List V}, FmsAt K H vs fs → FmsAt K (upd H p o) vs fs
  | [], _, h1 => by cases h1; exact .nil
  | f :: fs, _, h1 => by
    cases h1 with
    | cons a c => exact .cons (fmW h a) (fmsW h c)
theorem fmsSnoc {K : PySem.W.Frag} {H : Hp} {v : V} {f : Fm} (hv : FmAt K H v f) : ∀ {fs : List Fm} {vs : List V}, FmsAt K H vs fs → FmsAt K H (vs ++ [v]) (fs ++ [f])
  | [], _, h1 => by cases h1; exact .cons hv .nil
  | g :: fs, _, h1 => by
    cases h1 with
    | cons a c => exact .cons a (fmsSnoc hv c)
section
variable {P : Program} {w : World} {K : PySem.W.Frag} {mg : Str → Option Value} {base : Heap}
abbrev n_law_times : List Str := ["cell", "low", "some"]
theorem sc_law_times : FnScope n_law_times ["cell"] (defScope s_law_times) := ⟨rfl, rfl, rfl, by decide +kernel, rfl, by decide +kernel, by decide +kernel⟩
def spTimes : Sp := fun vs H Q _ => ∃ c, vs = [.int c] ∧ ∀ (H' : Hp) (a : Addr) (low : Nat) (high : Option Nat), Same H H' → H' a = some (.tup [.int (low : Int), highV high]) → low ≤ 12 → (∀ h, high = some h → max low 1 ≤ h ∧ h ≤ 12) → Q (.ref a) H'
theorem ok_law_times (F : DefAt K mg "_law_times" s_law_times ["cell"]) (b_max : mg "max" = none) (b_min : mg "min" = none) : DefOk P w K mg base "_law_times" 1 ["cell"] spTimes := by
  refine F.ok sc_law_times (fun vs H Q E h => ?_) (fun f cdv A outer s H vs Q E hr h => ?_)
  · obtain ⟨_, rfl, _⟩ := h
    rfl
  obtain ⟨c, rfl, k⟩ := h
  refine ⟨_, (pss_cons (ps_set (i := 1) sc_law_times.nd rfl (Or.inl rfl) (pe_ix ix_list (pe_lst (pa_cons pe_int (pa_cons pe_int (pa_cons pe_int (pa_cons pe_int (pa_cons pe_int (pa_cons pe_int (pa_cons (pe_op op_mod (pe_op op_fdiv (pv 0) pe_int) pe_int) pa_nil)))))))) (pe_op op_mod (pv 0) pe_int) (fun _ _ => rfl)))
    (pss_cons (ps_set (i := 2) sc_law_times.nd rfl (Or.inl rfl) (pe_lst (pa_cons pe_non (pa_cons (pe_callB (call_max2 rfl) (by rfl) b_max (by decide +kernel) (pa_cons pe_int (pa_cons (pv 1) pa_nil))) (pa_cons (pe_callB (call_min2 rfl) (by rfl) b_min (by decide +kernel) (pa_cons pe_int (pa_cons (pe_op op_add (pv 1) pe_int) pa_nil))) (pa_cons (pe_callB (call_min2 rfl) (by rfl) b_min (by decide +kernel) (pa_cons pe_int (pa_cons (pe_op op_add (pv 1) pe_int) pa_nil))) (pa_cons pe_int (pa_cons (pe_callB (call_max2 rfl) (by rfl) b_max (by decide +kernel) (pa_cons (pv 1) (pa_cons (pe_op op_add pe_int (pe_op op_mod (pe_op op_fdiv (pv 0) pe_int) pe_int)) pa_nil))) pa_nil))))))))
    (pss_one (ps_ret (pe_tup (pa_cons (pv 1) (pa_cons (pe_ix ix_list (pv 2) (pe_op op_mod (pe_op op_fdiv (pv 0) pe_int) pe_int) (fun _ _ => rfl)) pa_nil))))))), ?_⟩
  obtain ⟨j, hj, hj7⟩ : ∃ j : Nat, c % 7 = (j : Int) ∧ j < 7 := ⟨(c % 7).toNat, by have := Int.emod_nonneg c (b := 7) (by decide); omega, by have := Int.emod_lt_of_pos c (b := 7) (by decide); omega⟩
  obtain ⟨m, hm, hm13⟩ : ∃ m : Nat, c / 42 % 13 = (m : Int) ∧ m < 13 := ⟨(c / 42 % 13).toNat, by have := Int.emod_nonneg (c / 42) (b := 13) (by decide); omega, by have := Int.emod_lt_of_pos (c / 42) (b := 13) (by decide); omega⟩
  obtain ⟨z, hz, hz12⟩ : ∃ z : Nat, c / 5 % 12 = (z : Int) ∧ z < 12 := ⟨(c / 5 % 12).toNat, by have := Int.emod_nonneg (c / 5) (b := 12) (by decide); omega, by have := Int.emod_lt_of_pos (c / 5) (b := 12) (by decide); omega⟩
  obtain ⟨low, hl1, hl2⟩ : ∃ low : Nat, ([.int 0, .int 0, .int 1, .int 2, .int 3, .int 1, .int (c / 42 % 13)] : List V)[j]? = some (.int (low : Int)) ∧ low ≤ 12 := by
    match j, hj7 with
    | 0, _ => exact ⟨0, rfl, by decide⟩
    | 1, _ => exact ⟨0, rfl, by decide⟩
    | 2, _ => exact ⟨1, rfl, by decide⟩
    | 3, _ => exact ⟨2, rfl, by decide⟩
    | 4, _ => exact ⟨3, rfl, by decide⟩
    | 5, _ => exact ⟨1, rfl, by decide⟩
    | 6, _ => exact ⟨m, by rw [hm]; rfl, by omega⟩
  refine ⟨_, rfl, _, _, rfl, rfl, ⟨by decide, by decide⟩, _, _, rfl, rfl, (by show (0 : Int) < 13; decide), (by show 7 ≤ sizeLine; decide), fun p hp => ⟨_, rfl, _, _, rfl, rfl, (by show (0 : Int) < 7; decide), p, _, _, _, rfl, rfl, sL upd_same, at_of (j := j) hj hl1, ?_⟩⟩
  obtain ⟨i, hi, hi6⟩ : ∃ i : Nat, c / 7 % 6 = (i : Int) ∧ i < 6 := ⟨(c / 7 % 6).toNat, by have := Int.emod_nonneg (c / 7) (b := 6) (by decide); omega, by have := Int.emod_lt_of_pos (c / 7) (b := 6) (by decide); omega⟩
  refine ⟨_, rfl, _, _, rfl, _, rfl, _, _, rfl, rfl, _, _, rfl, _, rfl, _, _, rfl, rfl, _, _, rfl, _, rfl, _, rfl, _, _, rfl, rfl, ⟨by decide, by decide⟩, _, _, rfl, rfl, (by show (0 : Int) < 12; decide), _, _, rfl, rfl, _, _, rfl, (by show 6 ≤ sizeLine; decide), fun p2 hp2 => ?_⟩
  refine ⟨_, rfl, _, rfl, _, rfl, _, _, rfl, rfl, ⟨by decide, by decide⟩, _, _, rfl, rfl, (by show (0 : Int) < 6; decide), ?_⟩
  obtain ⟨high, hh1, hh2⟩ : ∃ high : Option Nat, ([.non, .int (if ((low : Int) > 1) then (low : Int) else 1), .int (if ((low : Int) + 1 < 12) then (low : Int) + 1 else 12), .int (if ((low : Int) + 2 < 12) then (low : Int) + 2 else 12), .int 12, .int (if (1 + c / 5 % 12 > (low : Int)) then 1 + c / 5 % 12 else (low : Int))] : List V)[i]? = some (highV high) ∧ ∀ h, high = some h → max low 1 ≤ h ∧ h ≤ 12 := by
    have mk : ∀ (x : Int) (y : Nat), x = (y : Int) → max low 1 ≤ y → y ≤ 12 → ∃ high : Option Nat, some (V.int x) = some (highV high) ∧ ∀ h, high = some h → max low 1 ≤ h ∧ h ≤ 12 := fun x y e h1 h2 => ⟨some y, by rw [e]; rfl, fun h e => by cases e; exact ⟨h1, h2⟩⟩
    match i, hi6 with
    | 0, _ => exact ⟨none, rfl, fun h e => by cases e⟩
    | 1, _ => exact mk _ (if low > 1 then low else 1) (by split <;> split <;> omega) (by split <;> omega) (by split <;> omega)
    | 2, _ => exact mk _ (if low + 1 < 12 then low + 1 else 12) (by split <;> split <;> omega) (by split <;> omega) (by split <;> omega)
    | 3, _ => exact mk _ (if low + 2 < 12 then low + 2 else 12) (by split <;> split <;> omega) (by split <;> omega) (by split <;> omega)
    | 4, _ => exact mk _ 12 rfl (by omega) (by omega)
    | 5, _ => exact mk _ (if 1 + z > low then 1 + z else low) (by rw [hz]; split <;> split <;> omega) (by split <;> omega) (by split <;> omega)
  exact ⟨p2, _, _, _, rfl, rfl, sL upd_same, at_of (j := i) hi hh1, (by show 2 ≤ sizeLine; decide), fun q hq => k _ q low high (((Same.new hp).trans (.new hp2)).trans (.new hq)) upd_same hl2 hh2⟩
abbrev n_law_form : List Str := ["state", "left", "times", "cell", "low", "high", "many", "parts", "k"]
theorem sc_law_form : FnScope n_law_form ["state", "left", "times"] (defScope s_law_form) := ⟨rfl, rfl, rfl, by decide +kernel, rfl, by decide +kernel, by decide +kernel⟩
def spForm (K : PySem.W.Frag) (n : Nat) : Sp := fun vs H Q _ => ∃ (st sp : Addr) (t : Nat), vs = [.ref st, .int (n : Int), .int (t : Int)] ∧ StateAt H st sp ∧ ∀ (H' : Hp) (v : V) (f : Fm), But st H H' → StateAt H' st sp → FmAt K H' v f → Lw n f → f.nst ≤ t → Q v H'
theorem sign_at {K : PySem.W.Frag} {H : Hp} {q : Addr} {s : Str} (h : H q = some (.tup [.str "sign", .str s])) : FmAt K H (.ref q) (.sign s) := .tup (sT h) (.cons (.str _) (.cons (.str _) .nil))
theorem ok_law_form0 (F : DefAt K mg "_law_form" s_law_form ["state", "left", "times"]) (d__law_cell : DefOk P w K mg base "_law_cell" 1 ["state"] spCell) (d__law_sign : DefOk P w K mg base "_law_sign" 1 ["cell"] spSign) : DefOk P w K mg base "_law_form" 2 ["state", "left", "times"] (spForm K 0) := by
  refine F.ok sc_law_form (fun vs H Q E h => ?_) (fun f cdv A outer s H vs Q E hr h => ?_)
  · obtain ⟨_, _, _, rfl, _⟩ := h
    rfl
  obtain ⟨st, sp, t, rfl, S, k⟩ := h
  refine ⟨_, (pss_cons (ps_set (i := 3) sc_law_form.nd rfl (Or.inl rfl) (pe_callD d__law_cell (hr.mono (by decide)) rfl (pa_cons (pv 0) pa_nil)))
    (pss_cons (ps_if (PW.pt (pw_or (pt_cmpR op_eq (pv 1) pe_int (nomark _)) (pw_or1 (pt_cmpR op_eq (pe_op op_mod (pv 3) pe_int) pe_int (nomark _))))) (pss_one (ps_ret (pe_tup (pa_cons pe_str (pa_cons (pe_callD d__law_sign (hr.mono (by decide)) rfl (pa_cons (pe_op op_fdiv (pv 3) pe_int) pa_nil)) pa_nil))))) pss_nil)
    pss_never)), ?_⟩
  refine ⟨_, rfl, st, sp, rfl, S, fun H1 c b1 S1 => ?_⟩
  refine ⟨_, rfl, rfl, _, rfl, iteT (iteT ?_)⟩
  refine ⟨_, rfl, _, _, rfl, rfl, ⟨by decide, by decide⟩, _, rfl, fun H2 x s2 hx => ⟨(by show 2 ≤ sizeLine; decide), fun q hq => ?_⟩⟩
  have s3 : Same H1 (upd H2 q (.tup [.str "sign", .str x])) := s2.trans (Same.new hq)
  exact k _ (.ref q) (.sign x) (b1.trans (.of s3)) (S1.same s3) (sign_at upd_same) hx (Nat.zero_le _)
theorem ok_law_formS (n : Nat) (F : DefAt K mg "_law_form" s_law_form ["state", "left", "times"]) (d__law_cell : DefOk P w K mg base "_law_cell" 1 ["state"] spCell) (d__law_sign : DefOk P w K mg base "_law_sign" 1 ["cell"] spSign) (d__law_times : DefOk P w K mg base "_law_times" 1 ["cell"] spTimes)
    (d__law_form : DefOk P w K mg base "_law_form" (n + 2) ["state", "left", "times"] (spForm K n)) (b_max : mg "max" = none) (b_range : mg "range" = none) (b_int : mg "int" = none) (b_tuple : mg "tuple" = none) : DefOk P w K mg base "_law_form" (n + 3) ["state", "left", "times"] (spForm K (n + 1)) := by
  refine F.ok sc_law_form (fun vs H Q E h => ?_) (fun f cdv A outer s H vs Q E hr h => ?_)
  · obtain ⟨_, _, _, rfl, _⟩ := h
    rfl
  obtain ⟨st, sp, t, rfl, S, k⟩ := h
  refine ⟨_, (pss_cons (ps_set (i := 3) sc_law_form.nd rfl (Or.inl rfl) (pe_callD d__law_cell (hr.mono (by omega)) rfl (pa_cons (pv 0) pa_nil)))
    (pss_cons (ps_if (PW.pt (pw_or (pt_cmpR op_eq (pv 1) pe_int (nomark _)) (pw_or1 (pt_cmpR op_eq (pe_op op_mod (pv 3) pe_int) pe_int (nomark _))))) (pss_one (ps_ret (pe_tup (pa_cons pe_str (pa_cons (pe_callD d__law_sign (hr.mono (by omega)) rfl (pa_cons (pe_op op_fdiv (pv 3) pe_int) pa_nil)) pa_nil))))) pss_nil)
    (pss_cons (ps_if (PW.pt (pw_and (pt_cmpR op_lt (pe_op op_mod (pv 3) pe_int) pe_int (nomark _)) (pw_and1 (pt_cmpR op_gt (pv 2) pe_int (nomark _))))) (pss_cons (ps_asg (pe_callD d__law_times (hr.mono (by omega)) rfl (pa_cons (pe_op op_fdiv (pv 3) pe_int) pa_nil)) (pg_tup rfl (pgs_cons (pg_name (i := 4) sc_law_form.nd rfl (Or.inl rfl)) (pgs_cons (pg_name (i := 5) sc_law_form.nd rfl (Or.inl rfl)) pgs_nil))))
    (pss_one (ps_ret (pe_tup (pa_cons pe_str (pa_cons (pe_callD d__law_form (hr.mono (by omega)) rfl (pa_cons (pv 0) (pa_cons (pe_op op_sub (pv 1) pe_int) (pa_cons (pe_op op_sub (pv 2) pe_int) pa_nil)))) (pa_cons (pv 4) (pa_cons (pv 5) pa_nil)))))))) pss_nil)
    (pss_cons (ps_set (i := 6) sc_law_form.nd rfl (Or.inl rfl) (pe_op op_mod (pe_op op_fdiv (pv 3) pe_int) pe_int))
    (pss_cons (ps_if (PW.pt (pw_or (pt_cmpR op_eq (pe_op op_mod (pv 3) pe_int) pe_int (nomark _)) (pw_or1 (PW.pt (pw_and (pt_cmpR op_eq (pe_op op_mod (pv 3) pe_int) pe_int (nomark _)) (pw_and1 (pt_cmpR op_eq (pv 2) pe_int (nomark _)))))))) (pss_one (ps_set (i := 6) sc_law_form.nd rfl (Or.inl rfl) (pe_callB (call_max2 rfl) (by rfl) b_max (by decide +kernel) (pa_cons pe_int (pa_cons (pv 6) pa_nil))))) pss_nil)
    (pss_cons (ps_set (i := 7) sc_law_form.nd rfl (Or.inl rfl) (pe_callTy call_tuple_of (by rfl) b_tuple (by decide +kernel) (pa_cons (pe_lc (own := [("k", 8)]) (g := gName 8) rfl sc_law_form.nd (pi_range1 rfl b_range (pa_cons (pv 6) pa_nil)) (blkOk_by (own := [("k", 8)]) (N := n_law_form) (sc := defScope s_law_form) (by decide +kernel)) (fun _ _ _ _ _ => (pg_name (i := 8) sc_law_form.nd rfl (Or.inl rfl))) (fun _ _ _ _ _ => pts_nil) (fun _ _ _ _ _ => (pe_callD d__law_form (hr.mono (by omega)) rfl (pa_cons (pv 0) (pa_cons (pe_op op_sub (pv 1) pe_int) (pa_cons (pv 2) pa_nil)))))) pa_nil)))
    (pss_one (ps_ret (pe_tup (pa_cons (pe_ix ix_list (pe_lst (pa_cons pe_str (pa_cons pe_str pa_nil))) (pe_callTy call_int1 (by rfl) b_int (by decide +kernel) (pa_cons (pe_or (pe_cmpR op_eq (pe_op op_mod (pv 3) pe_int) pe_int (nomark _)) (pe_one (pe_cmpR op_eq (pe_op op_mod (pv 3) pe_int) pe_int (nomark _)))) pa_nil)) (fun _ _ => rfl)) (pa_cons (pv 7) pa_nil))))))))))), ?_⟩
  refine ⟨_, rfl, st, sp, rfl, S, fun H1 c b1 S1 => ?_⟩
  refine ⟨_, rfl, rfl, _, rfl, ite2 (fun _ => iteT ?s1) (fun _ => ⟨_, rfl, _, _, rfl, rfl, (by show (0 : Int) < 5; decide), rfl, _, rfl, ite2 (fun _ => ?s2) (fun _ => ?r)⟩)⟩
  case s1 | s2 =>
    refine ⟨_, rfl, _, _, rfl, rfl, ⟨by decide, by decide⟩, _, rfl, fun H2 x s2 hx => ⟨(by show 2 ≤ sizeLine; decide), fun q hq => ?_⟩⟩
    have s3 : Same H1 (upd H2 q (.tup [.str "sign", .str x])) := s2.trans (Same.new hq)
    exact k _ (.ref q) (.sign x) (b1.trans (.of s3)) (S1.same s3) (sign_at upd_same) (lw_sign hx) (Nat.zero_le _)
  -- behind the number of parts
  have tail : ∀ (z : Int) (m : Nat), z = (m : Int) → m ≤ 3 → ((c % 5 = 4 ∨ c % 5 = 2) → 1 ≤ m) → tSeq
      (tAsg (tCB (fun xs H Q => ∃ p ys, xs = [V.ref p] ∧ ((SqL K H p ys ∧ ∀ (l : Addr), H l = none → Q (V.ref l) (upd H l (HO.tup ys))) ∨ SqT K H p ys ∧ Q (V.ref p) H))
          (tCons (tLc (iRng1 (tCons (tVar 6) tNil)) (gName 8) tYes (tCall (spForm K n) [] E0 (tCons (tVar 0) (tCons (tOp (rI0 fun i j => V.int (i - j)) (tVar 1) (tC (V.int 1))) (tCons (tVar 2) tNil)))) [8]) tNil)) (gName 7))
      (tRet (tTup (tCons (tOp (rIxL K) (tLst (tCons (tC (V.str "row")) (tCons (tC (V.str "pick")) tNil)))
            (tCB (fun xs H Q => (∃ i, xs = [V.int i] ∧ Q (V.int i) H) ∨ ∃ k, xs = [V.bl k] ∧ Q (V.int (if k = true then 1 else 0)) H)
              (tCons (tOrV (tOp rEq (tOp (rI (fun x j => 0 < j) fun i j => V.int (i % j)) (tVar 3) (tC (V.int 5))) (tC (V.int 4))) (tOp rEq (tOp (rI (fun x j => 0 < j) fun i j => V.int (i % j)) (tVar 3) (tC (V.int 5))) (tC (V.int 2)))) tNil)))
          (tCons (tVar 7) tNil)))) { nx := fun _ H' => Q .non H', rt := Q }
      [some (.ref st), some (.int ((n + 1 : Nat) : Int)), some (.int (t : Int)), some (.int c), none, none, some (.int z), none, none] H1 := by
    rintro _ m rfl hm3 hpk
    refine ⟨_, rfl, _, rfl, by omega, by omega, fun D hD => lc_range (lo := 0) (n := m) (fun i H' => ∃ (vs : List V) (fs : List Fm), But st H1 H' ∧ StateAt H' st sp ∧ H' D = some (.lst vs) ∧ FmsAt K H' vs fs ∧ fs.length = i ∧ ∀ p, p ∈ fs → Lw n p ∧ p.nst ≤ t)
      ⟨[], [], .of (.new hD), S1.same (.new hD), upd_same, .nil, rfl, fun p h => by cases h⟩ ?_ ?_⟩
    · rintro i H2 hi ⟨vs, fs, b2, S2, hD2, hfs, hlf, hw⟩
      refine ⟨rfl, ?_⟩
      refine ⟨_, rfl, _, rfl, _, _, rfl, rfl, _, rfl, st, sp, t, ?_, S2, fun H3 v g b3 S3 hv hg hn => ?_⟩
      · show [V.ref st, V.int (((n + 1 : Nat) : Int) - 1), V.int (t : Int)] = [V.ref st, V.int (n : Int), V.int (t : Int)]
        rw [show (((n + 1 : Nat) : Int) - 1) = (n : Int) by omega]
      have hD3 := lsD S2 b3 hD2
      have hlv : vs.length = fs.length := by rw [dpsLen hfs, Fm.dats_map, List.length_map]
      refine ⟨vs, hD3, szb (by omega), vs ++ [v], fs ++ [g], butW (b2.trans b3) hD, S3.w S1 hD, upd_same, fmsW hD3 (fmsSnoc hv (fmsD S2 b3 hfs)), by rw [List.length_append, hlf]; rfl, fun p hp => ?_⟩
      rcases List.mem_append.mp hp with hp | hp
      · exact hw p hp
      · rw [List.mem_singleton.mp hp]; exact ⟨hg, hn⟩
    · rintro H2 ⟨vs, fs, b2, S2, hD2, hfs, hlf, hw⟩
      refine ⟨D, vs, rfl, .inl ⟨sL hD2, fun l hl => ?_⟩⟩
      have s3 : Same H2 (upd H2 l (.tup vs)) := .new hl
      -- the kind
      refine ⟨(by show 2 ≤ sizeLine; decide), fun p hp => ?_⟩
      have s4 := s3.trans (Same.new (o := .lst [.str "row", .str "pick"]) hp)
      have fin : ∀ (f : Fm), Lw (n + 1) f → f.nst ≤ t → f.dat = .tuple [.str f.kind, .tuple (Fm.dats fs)] → ∀ q, upd (upd H2 l (.tup vs)) p (.lst [.str "row", .str "pick"]) q = none → Q (.ref q) (upd (upd (upd H2 l (.tup vs)) p (.lst [.str "row", .str "pick"])) q (.tup [.str f.kind, .ref l])) := fun f hf hfn hd q hq => by
        refine k _ (.ref q) f (b1.trans (b2.trans (.of (s4.trans (.new hq))))) (S2.same (s4.trans (.new hq))) ?_ hf hfn
        unfold FmAt
        rw [hd]
        refine .tup (sT upd_same) (.cons (.str _) (.cons (.tup (sT ?_) (dpsS (s4.trans (.new hq)) hfs)) .nil))
        exact (Same.new hq) _ _ (Same.new hp _ _ upd_same)
      have hw1 : ∀ p, p ∈ fs → Lw n p := fun p hp => (hw p hp).1
      have hns : Fm.nsts fs ≤ t := nsts_le.mpr fun p hp => (hw p hp).2
      have hrow : Lw (n + 1) (.row fs) := ⟨by omega, hw1⟩
      refine ⟨_, rfl, _, _, rfl, rfl, (by show (0 : Int) < 5; decide), rfl, _, rfl, ite2 (fun h4 => ?_) (fun h4 => ⟨_, rfl, _, _, rfl, rfl, (by show (0 : Int) < 5; decide), rfl, ?_⟩)⟩
      · have h4' : c % 5 = 4 := by have := of_decide_eq_true h4; exact V.int.inj this
        refine .inr ⟨true, rfl, p, _, 1, _, rfl, rfl, sL upd_same, atI_nat (j := 1) rfl, _, rfl, (by show 2 ≤ sizeLine; decide), fun q hq => ?_⟩
        exact fin (.pick fs) ⟨by have := hpk (.inl h4'); omega, by omega, hw1⟩ hns rfl q hq
      · by_cases h2 : c % 5 = 2
        · rw [show decide (V.int (c % 5) = V.int 2) = true from decide_eq_true (by rw [h2])]
          refine .inr ⟨true, rfl, p, _, 1, _, rfl, rfl, sL upd_same, atI_nat (j := 1) rfl, _, rfl, (by show 2 ≤ sizeLine; decide), fun q hq => ?_⟩
          exact fin (.pick fs) ⟨by have := hpk (.inr h2); omega, by omega, hw1⟩ hns rfl q hq
        · rw [show decide (V.int (c % 5) = V.int 2) = false from decide_eq_false fun e => h2 (V.int.inj e)]
          refine .inr ⟨false, rfl, p, _, 0, _, rfl, rfl, sL upd_same, atI_nat (j := 0) rfl, _, rfl, (by show 2 ≤ sizeLine; decide), fun q hq => ?_⟩
          exact fin (.row fs) hrow hns rfl q hq
  have hm0 : 0 ≤ c / 5 % 4 := Int.emod_nonneg _ (by decide)
  have hm4 : c / 5 % 4 < 4 := Int.emod_lt_of_pos _ (by decide)
  obtain ⟨m, hm⟩ : ∃ m : Nat, c / 5 % 4 = (m : Int) := ⟨(c / 5 % 4).toNat, by omega⟩
  have mx : (if c / 5 % 4 > 1 then c / 5 % 4 else 1) = ((max 1 m : Nat) : Int) := by
    rw [hm]
    split <;> omega
  refine ⟨_, rfl, _, _, rfl, rfl, (by show (0 : Int) < 5; decide), _, _, rfl, rfl, _, rfl, ite2 (fun h3 => ⟨_, rfl, _, _, rfl, rfl, _, rfl, ite2 (fun ht => ?_) (fun ht => ?_)⟩) (fun h3 => ?_)⟩
  · -- times
    have ht' : 0 < t := by have := of_decide_eq_true ht; omega
    refine ⟨_, rfl, _, _, rfl, rfl, ⟨by decide, by decide⟩, _, rfl, fun H2 a low high s2 ha hlow hhigh => ?_⟩
    refine ⟨a, _, rfl, sT ha, rfl, _, _, rfl, _, _, rfl, rfl, ?_⟩
    refine ⟨_, rfl, _, rfl, _, _, rfl, rfl, _, rfl, _, _, rfl, rfl, ?_⟩
    refine ⟨st, sp, t - 1, ?_, S1.same s2, fun H3 v g b3 S3 hv hg hn => ?_⟩
    · show [V.ref st, V.int (((n + 1 : Nat) : Int) - 1), V.int ((t : Int) - 1)] = [V.ref st, V.int (n : Int), V.int ((t - 1 : Nat) : Int)]
      rw [show (((n + 1 : Nat) : Int) - 1) = (n : Int) by omega, show ((t : Int) - 1) = ((t - 1 : Nat) : Int) by omega]
    refine ⟨_, rfl, _, rfl, (by show 4 ≤ sizeLine; decide), fun q hq => ?_⟩
    refine k _ (.ref q) (.times g low high) ((b1.trans (.of s2)).trans (b3.trans (.of (.new hq)))) (S3.same (.new hq)) ?_ ⟨hg, hlow, hhigh⟩ (by rw [Fm.nst]; omega)
    exact .tup (sT upd_same) (.cons (.str _) (.cons (dpS (.new hq) hv) (.cons (.int _) (.cons (highDp high) .nil))))
  all_goals
    have hc2 : c % 5 = 2 → t = 0 := fun e => by
      first
      | (have hh := of_decide_eq_false (Bool.eq_false_iff.mpr ht); omega)
      | (have hh := of_decide_eq_false (Bool.eq_false_iff.mpr h3); omega)
    refine ⟨_, rfl, _, _, rfl, rfl, ⟨by decide, by decide⟩, _, _, rfl, rfl, (by show (0 : Int) < 4; decide), ?_⟩
    refine ⟨_, rfl, _, _, rfl, rfl, (by show (0 : Int) < 5; decide), rfl, _, rfl, ite2 (fun h4 => iteT ?_) (fun h4 => ⟨_, rfl, _, _, rfl, rfl, (by show (0 : Int) < 5; decide), rfl, _, rfl, ite2 (fun h2 => ⟨_, rfl, rfl, _, rfl, ite2 (fun h0 => ?_) (fun h0 => ?_)⟩) (fun h2 => iteF ?_)⟩)⟩
    · exact ⟨_, rfl, _, _, rfl, tail _ (max 1 m) mx (by omega) (fun _ => by omega)⟩
    · exact ⟨_, rfl, _, _, rfl, tail _ (max 1 m) mx (by omega) (fun _ => by omega)⟩
    · have e2 : c % 5 = 2 := by have := of_decide_eq_true h2; exact V.int.inj this
      exact absurd (decide_eq_true (by rw [hc2 e2]; rfl)) h0
    · refine tail _ m hm (by omega) fun h => ?_
      rcases h with h | h
      · exact absurd (decide_eq_true (congrArg V.int h)) h4
      · exact absurd (decide_eq_true (congrArg V.int h)) h2
theorem ok_law_form (F : DefAt K mg "_law_form" s_law_form ["state", "left", "times"]) (d__law_cell : DefOk P w K mg base "_law_cell" 1 ["state"] spCell) (d__law_sign : DefOk P w K mg base "_law_sign" 1 ["cell"] spSign) (d__law_times : DefOk P w K mg base "_law_times" 1 ["cell"] spTimes)
    (b_max : mg "max" = none) (b_range : mg "range" = none) (b_int : mg "int" = none) (b_tuple : mg "tuple" = none) : ∀ n : Nat, DefOk P w K mg base "_law_form" (n + 2) ["state", "left", "times"] (spForm K n)
  | 0 => ok_law_form0 F d__law_cell d__law_sign
  | n + 1 => ok_law_formS n F d__law_cell d__law_sign d__law_times (ok_law_form F d__law_cell d__law_sign d__law_times b_max b_range b_int b_tuple n) b_max b_range b_int b_tuple
end
end Sw
set_option Elab.async false
set_option maxRecDepth 100000
set_option maxHeartbeats 8000000
namespace Sw
open PySem L2 PySem.Spec PyProof.Rows
theorem freeB {H H' : Hp} {a : Addr} (s : Same H H') (h : H' a = none) : H a = none := by
  cases e : H a with
  | none => rfl
  | some o => rw [s _ _ e] at h; cases h
section
variable {P : Program} {w : World} {K : PySem.W.Frag} {mg : Str → Option Value} {base : Heap}
abbrev n_law_inner : List Str := ["form"]
theorem sc_law_inner : FnScope n_law_inner ["form"] (defScope s_law_inner) := ⟨rfl, rfl, rfl, by decide +kernel, rfl, by decide +kernel, by decide +kernel⟩
def spInner (K : PySem.W.Frag) : Sp := fun vs H Q _ => ∃ v f, vs = [v] ∧ FmAt K H v f ∧ ∀ H' a ws, Same H H' → H a = none → H' a = some (.lst ws) → FmsAt K H' ws f.parts → Q (.ref a) H'
theorem ok_law_inner (F : DefAt K mg "_law_inner" s_law_inner ["form"]) (b_list : mg "list" = none) : DefOk P w K mg base "_law_inner" 1 ["form"] (spInner K) := by
  refine F.ok sc_law_inner (fun vs H Q E h => ?_) (fun f cdv A outer s H vs Q E hr h => ?_)
  · obtain ⟨_, _, rfl, _⟩ := h
    rfl
  obtain ⟨v, fm, rfl, hf, k⟩ := h
  refine ⟨_, (pss_cons (ps_if (PW.pt (pw_or (pt_cmpR op_eq (pe_ix ix_tup (pv 0) pe_int (fun _ _ => rfl)) pe_str (nomark _)) (pw_or1 (pt_cmpR op_eq (pe_ix ix_tup (pv 0) pe_int (fun _ _ => rfl)) pe_str (nomark _))))) (pss_one (ps_ret (pe_callTy call_list_of (by rfl) b_list (by decide +kernel) (pa_cons (pe_ix ix_tup (pv 0) pe_int (fun _ _ => rfl)) pa_nil)))) pss_nil)
    (pss_one (ps_ret (pe_ifExp (pt_cmpR op_eq (pe_ix ix_tup (pv 0) pe_int (fun _ _ => rfl)) pe_str (nomark _)) (pe_lst (pa_cons (pe_ix ix_tup (pv 0) pe_int (fun _ _ => rfl)) pa_nil)) (pe_lst pa_nil))))), ?_⟩
  cases fm with
  | sign s =>
    obtain ⟨a, rfl, ht⟩ := fmSign hf
    refine ⟨_, rfl, a, _, 0, _, rfl, rfl, ht, atI_nat (j := 0) rfl, rfl, _, rfl, iteF ?_⟩
    refine ⟨_, rfl, a, _, 0, _, rfl, rfl, ht, atI_nat (j := 0) rfl, rfl, _, rfl, iteF ?_⟩
    refine ⟨_, rfl, a, _, 0, _, rfl, rfl, ht, atI_nat (j := 0) rfl, rfl, _, rfl, iteF ?_⟩
    exact ⟨(by show 0 ≤ sizeLine; decide), fun p np => k _ p [] (.new np) np upd_same .nil⟩
  | row ps =>
    obtain ⟨a, b, vs, rfl, ht, hb, hv⟩ := fmRow hf
    refine ⟨_, rfl, a, _, 0, _, rfl, rfl, ht, atI_nat (j := 0) rfl, rfl, _, rfl, iteT (iteT ?_)⟩
    refine ⟨_, rfl, a, _, 1, _, rfl, rfl, ht, atI_nat (j := 1) rfl, b, vs, rfl, .inr hb, fun p np => ?_⟩
    exact k _ p vs (.new np) np upd_same (dpsS (.new np) hv)
  | pick ps =>
    obtain ⟨a, b, vs, rfl, ht, hb, hv⟩ := fmPick hf
    refine ⟨_, rfl, a, _, 0, _, rfl, rfl, ht, atI_nat (j := 0) rfl, rfl, _, rfl, iteF ?_⟩
    refine ⟨_, rfl, a, _, 0, _, rfl, rfl, ht, atI_nat (j := 0) rfl, rfl, _, rfl, iteT ?_⟩
    refine ⟨_, rfl, a, _, 1, _, rfl, rfl, ht, atI_nat (j := 1) rfl, b, vs, rfl, .inr hb, fun p np => ?_⟩
    exact k _ p vs (.new np) np upd_same (dpsS (.new np) hv)
  | times p l u =>
    obtain ⟨a, b, rfl, ht, hb⟩ := fmTimes hf
    refine ⟨_, rfl, a, _, 0, _, rfl, rfl, ht, atI_nat (j := 0) rfl, rfl, _, rfl, iteF ?_⟩
    refine ⟨_, rfl, a, _, 0, _, rfl, rfl, ht, atI_nat (j := 0) rfl, rfl, _, rfl, iteF ?_⟩
    refine ⟨_, rfl, a, _, 0, _, rfl, rfl, ht, atI_nat (j := 0) rfl, rfl, _, rfl, iteT ?_⟩
    refine ⟨_, rfl, a, _, 1, _, rfl, rfl, ht, atI_nat (j := 1) rfl, (by show 1 ≤ sizeLine; decide), fun q nq => ?_⟩
    exact k _ q [b] (.new nq) nq upd_same (.cons (dpS (.new nq) hb) .nil)
end
end Sw
set_option Elab.async false
set_option maxRecDepth 100000
set_option maxHeartbeats 8000000
namespace Sw
open PySem L2 PySem.Spec PyProof.Rows
theorem tuple_mulZero (l : Addr) (items : Array Value) (n : Nat) (dd : Option Addr) (sl : Array (Option Value)) (u : Tok) (c1 : items.isEmpty = false) :
    Meets (Builtin.«tuple.__mul__» ⟨[.ref l, .int 0 u], []⟩) (fun _ R s => s.heap.get? l = some { cls := .type "tuple", dict := dd, data := .seq items n, slots := sl } ∧ R (.ok (.ret (Value.ref s.heap.objs.size))) { s with heap := s.heap.push { cls := Value.type "tuple", data := Data.seq #[] }, toks := s.toks }) :=
  .of_wp fun prog w A R s h => by
    obtain ⟨hp, g, d, tk, os⟩ := s
    obtain ⟨hl, h⟩ := h
    have f1 := AutoSeq1.idx_int
    have c2 : (items.isEmpty || ((0 : Int) == 1)) = false := by rw [c1]; rfl
    wp_walk using wpAny_loadPart' hl
    repeat (first
      | (refine wpAny_ite_false (decide_eq_false (by rw [c2]; exact Bool.false_ne_true)) ?_; wp_walk using wpAny_loadPart' hl)
      | (refine wpAny_ite_true (decide_eq_true (by rfl)) ?_; wp_walk using wpAny_loadPart' hl))
    exact ⟨_, rfl, h⟩
/-- t * k of a tuple, any k from 0 on -/
def rMulA (K : PySem.W.Frag) : R2 := fun x y H Q => ∃ l k xs, x = .ref l ∧ y = .int k ∧ SqT K H l xs ∧ xs ≠ [] ∧ 0 ≤ k ∧ k ≤ 1000 ∧ xs.length ≤ 1000 ∧ ∀ H' p, Same H H' → SqT K H' p (List.replicate k.toNat xs).flatten → Q (.ref p) H'
section
variable {X : Cx}
theorem op_mulA : OpR X (binaryOp .Mult) (rMulA X.K) := by
  intro pins s σ H x y v u Q I rx ry h
  obtain ⟨l, k, xs, rfl, rfl, hT, hne, h0, h1, hz, q⟩ := h
  by_cases hk : 1 ≤ k
  · refine op_repA pins s σ H _ _ v u Q I rx ry ⟨l, k, xs, rfl, rfl, hT, hk, h1, hz, fun e => q H l (.refl _) ?_, fun p np => q _ p (.new np) (sT upd_same)⟩
    rcases e with e | e
    · subst e
      rw [show (List.replicate k.toNat ([] : List V)).flatten = [] by simp]
      exact hT
    · subst e
      simpa using hT
  · have k0 : k = 0 := by omega
    subst k0
    cases hx : xs with
    | nil => exact absurd hx hne
    | cons x0 xr =>
      cases rx
      obtain ⟨t, rfl⟩ := ry
      obtain ⟨its, r, ⟨⟨cls, dd, data, sl⟩, ho, hc, n, hd⟩, hs⟩ := I.tuple hT
      simp only at hc hd
      subst hc hd
      have hle : its.length = xs.length := r.length.symm
      have hi : its.toArray.isEmpty = false := by
        cases its with
        | nil => rw [hx] at hle; cases hle
        | cons a b => rfl
      refine wpAny_binaryOp_repeat_ref (T := "tuple") (U := "int") (by decide) ⟨_, ho, rfl⟩ (fun s' => typeIs_int s' 0 t) noFill_tuple_mul F.fills_int_mul F.slot_int_rmul repeat_tuple F.slot_int_index.lookup
        (call_meets F.slot_int_rmul (typeIs_int s 0 t) F.entry_int_rmul (F.args_int_rmul_2 _ _) (int_rmul_tuple 0 t l its.toArray n dd sl)
          ⟨ho, rfl, ⟨_, ho, rfl⟩, call_meets F.slot_tuple_mul ⟨_, ho, rfl⟩ F.entry_tuple_mul (F.args_tuple_mul_2 _ _) (tuple_mulZero l its.toArray n dd sl t hi) ⟨ho, ?_⟩⟩)
      have np := I.hok.fresh (Nat.le_refl s.heap.objs.size)
      refine ⟨.ref s.heap.objs.size, _, I.laid (t' := s.toks) (o := .tup []) (fun b ob q => Heap.get?_push_of_some _ q) (Nat.le_refl _) ?_, rfl, q _ _ (.new np) (sT upd_same)⟩
      exact ⟨by decide, _, .nil, IsTup.new _ _⟩
end
end Sw
set_option Elab.async false
set_option maxRecDepth 100000
set_option maxHeartbeats 8000000
namespace Sw
open PySem L2 PySem.Spec PyProof.Rows
theorem But.sameF {p : Addr} {H H1 H2 : Hp} (b : But p H1 H2) (s : Same H H1) (h : H p = none) : Same H H2 := fun x o e => b x o (s x o e) (ne_of_none e h)
/-! ### forms as data -/
mutual
theorem eqvFm : ∀ f : Fm, PyData.eqv f.dat f.dat = true
  | .sign s => by simp [Fm.dat, PyData.eqv, PyData.eqvAll]
  | .row ps => by simp [Fm.dat, PyData.eqv, PyData.eqvAll, eqvFms ps]
  | .pick ps => by simp [Fm.dat, PyData.eqv, PyData.eqvAll, eqvFms ps]
  | .times p l h => by cases h <;> simp [Fm.dat, PyData.eqv, PyData.eqvAll, eqvFm p, highD]
theorem eqvFms : ∀ ps : List Fm, PyData.eqvAll (Fm.dats ps) (Fm.dats ps) = true
  | [] => by simp [Fm.dats, PyData.eqvAll]
  | p :: ps => by simp [Fm.dats, PyData.eqvAll, eqvFm p, eqvFms ps]
end
mutual
def Fm.okB : Fm → Bool
  | .sign s => PyData.strOk s
  | .row ps => Fm.oksB ps
  | .pick ps => Fm.oksB ps
  | .times p _ _ => p.okB
def Fm.oksB : List Fm → Bool
  | [] => true
  | p :: ps => p.okB && Fm.oksB ps
end
theorem oksB_all : ∀ ps : List Fm, Fm.oksB ps = ps.all Fm.okB
  | [] => rfl
  | p :: ps => by rw [Fm.oksB, List.all_cons, oksB_all ps]
mutual
theorem layFm : ∀ f : Fm, f.okB = true → f.dat.canLay0 = true
  | .sign s, h => by
    have h' : PyData.strOk s = true := h
    have e : PyData.strOk "sign" = true := by decide +kernel
    simp [Fm.dat, PyData.canLay0, PyData.canLayAll0, h', e]
  | .row ps, h => by
    have e : PyData.strOk "row" = true := by decide +kernel
    simp [Fm.dat, PyData.canLay0, PyData.canLayAll0, layFms ps (by simpa [Fm.okB] using h), e]
  | .pick ps, h => by
    have e : PyData.strOk "pick" = true := by decide +kernel
    simp [Fm.dat, PyData.canLay0, PyData.canLayAll0, layFms ps (by simpa [Fm.okB] using h), e]
  | .times p l u, h => by
    have e : PyData.strOk "times" = true := by decide +kernel
    cases u <;> simp [Fm.dat, PyData.canLay0, PyData.canLayAll0, layFm p (by simpa [Fm.okB] using h), e, highD]
theorem layFms : ∀ ps : List Fm, Fm.oksB ps = true → PyData.canLayAll0 (Fm.dats ps) = true
  | [], _ => by simp [Fm.dats, PyData.canLayAll0]
  | p :: ps, h => by
    rw [Fm.oksB, Bool.and_eq_true] at h
    simp [Fm.dats, PyData.canLayAll0, layFm p h.1, layFms ps h.2]
end
mutual
theorem depthFm : ∀ f : Fm, f.dat.depth ≤ 2 * f.dp
  | .sign s => by simp [Fm.dat, PyData.depth, PyData.depthAll, Fm.dp]
  | .row ps => by
    have := depthFms ps
    simp [Fm.dat, PyData.depth, PyData.depthAll, Fm.dp]
    omega
  | .pick ps => by
    have := depthFms ps
    simp [Fm.dat, PyData.depth, PyData.depthAll, Fm.dp]
    omega
  | .times p l u => by
    have := depthFm p
    cases u <;> simp [Fm.dat, PyData.depth, PyData.depthAll, Fm.dp, highD] <;> omega
theorem depthFms : ∀ ps : List Fm, PyData.depthAll (Fm.dats ps) ≤ 2 * Fm.dps ps
  | [] => by simp [Fm.dats, PyData.depthAll]
  | p :: ps => by
    have := depthFm p
    have := depthFms ps
    simp [Fm.dats, PyData.depthAll, Fm.dps]
    omega
end
theorem shFm {f : Fm} (h : f.okB = true) (hd : f.dp ≤ 30) : SeqAt.shaped f.dat = true := by
  have := depthFm f
  unfold SeqAt.shaped
  rw [layFm f h, Bool.true_and]
  exact decide_eq_true (by omega)
theorem cut_take (xs : List V) (n : Nat) : cutV xs none (some (n : Int)) = xs.take n := by
  unfold cutV
  rw [HT.sIx_nat, HT.sIx_none, List.drop_zero, Nat.sub_zero]
  by_cases h : n ≤ xs.length
  · rw [Nat.min_eq_left h]
  · rw [Nat.min_eq_right (by omega), List.take_of_length_le (by omega), List.take_of_length_le (by omega)]
/-! ### around the form -/
theorem fmsRep {K : PySem.W.Frag} {H : Hp} {x : V} {f : Fm} (h : FmAt K H x f) : ∀ n : Nat, FmsAt K H (List.replicate n [x]).flatten (List.replicate n f)
  | 0 => .nil
  | n + 1 => by
    rw [List.replicate_succ, List.replicate_succ, List.flatten_cons]
    show FmsAt K H (x :: (List.replicate n [x]).flatten) (f :: List.replicate n f)
    exact .cons h (fmsRep h n)
theorem fmsApp {K : PySem.W.Frag} {H : Hp} : ∀ {xs ys : List V} {fs gs : List Fm}, FmsAt K H xs fs → FmsAt K H ys gs → FmsAt K H (xs ++ ys) (fs ++ gs)
  | [], ys, [], gs, .nil, h => h
  | x :: xs, ys, f :: fs, gs, .cons a b, h => .cons a (fmsApp b h)
theorem dps_append : ∀ (a b : List Fm), Fm.dps (a ++ b) = max (Fm.dps a) (Fm.dps b)
  | [], b => by simp [Fm.dps]
  | p :: a, b => by simp [Fm.dps, dps_append a b, Nat.max_assoc]
theorem oksB_append : ∀ (a b : List Fm), Fm.oksB (a ++ b) = (Fm.oksB a && Fm.oksB b)
  | [], b => by simp [Fm.oksB]
  | p :: a, b => by simp [Fm.oksB, oksB_append a b, Bool.and_assoc]
theorem repS (f : Fm) : ∀ n : Nat, Fm.sizes (List.replicate n f) = n * f.size ∧ Fm.dps (List.replicate n f) ≤ f.dp ∧ (f.okB = true → Fm.oksB (List.replicate n f) = true)
  | 0 => by simp [Fm.sizes, Fm.dps, Fm.oksB]
  | n + 1 => by
    obtain ⟨h1, h2, h3⟩ := repS f n
    rw [List.replicate_succ, Fm.sizes, Fm.dps, Fm.oksB, h1, Nat.add_mul]
    exact ⟨by omega, by omega, fun h => by rw [h, h3 h]; rfl⟩
theorem flatLen {x : V} : ∀ n : Nat, (List.replicate n [x]).flatten.length = n
  | 0 => rfl
  | n + 1 => by rw [List.replicate_succ, List.flatten_cons, List.length_append, flatLen n]; simp; omega
theorem pick2 (z : Int) : ∃ s : Str, atI [V.str "row", V.str "pick"] (z % 2) = some (.str s) ∧ (s = "row" ∨ s = "pick") := by
  rcases Int.emod_two_eq z with e | e
  · exact ⟨"row", by rw [e]; exact atI_nat (j := 0) rfl, .inl rfl⟩
  · exact ⟨"pick", by rw [e]; exact atI_nat (j := 1) rfl, .inr rfl⟩
theorem mod2 (z : Int) : ∃ m : Nat, z % 2 = (m : Int) ∧ m ≤ 1 := by
  rcases Int.emod_two_eq z with e | e
  · exact ⟨0, e, by omega⟩
  · exact ⟨1, e, by omega⟩
def lwS : Nat → Nat
  | 0 => 1
  | n + 1 => 1 + 3 * lwS n
theorem lw_size : ∀ (n : Nat) (f : Fm), Lw n f → f.size ≤ lwS n
  | 0, .sign s, h => by simp [Fm.size, lwS]
  | 0, .row ps, h => h.elim
  | 0, .pick ps, h => h.elim
  | 0, .times p l u, h => h.elim
  | n + 1, .sign s, h => by simp [Fm.size, lwS]
  | n + 1, .row ps, h => by
    have hp : ∀ p, p ∈ ps → Lw n p := h.2
    have hl : ps.length ≤ 3 := h.1
    have : ∀ l : List Fm, (∀ p, p ∈ l → Lw n p) → Fm.sizes l ≤ l.length * lwS n := fun l hl => by
      induction l with
      | nil => simp [Fm.sizes]
      | cons p l ih =>
        have h1 := lw_size n p (hl p (by simp))
        have h2 := ih fun q hq => hl q (List.mem_cons_of_mem _ hq)
        rw [Fm.sizes, List.length_cons, Nat.add_mul]
        omega
    have h1 := this ps hp
    have h2 : ps.length * lwS n ≤ 3 * lwS n := Nat.mul_le_mul_right _ hl
    rw [Fm.size, lwS]
    omega
  | n + 1, .pick ps, h => by
    have hp : ∀ p, p ∈ ps → Lw n p := h.2.2
    have hl : ps.length ≤ 3 := h.2.1
    have : ∀ l : List Fm, (∀ p, p ∈ l → Lw n p) → Fm.sizes l ≤ l.length * lwS n := fun l hl => by
      induction l with
      | nil => simp [Fm.sizes]
      | cons p l ih =>
        have h1 := lw_size n p (hl p (by simp))
        have h2 := ih fun q hq => hl q (List.mem_cons_of_mem _ hq)
        rw [Fm.sizes, List.length_cons, Nat.add_mul]
        omega
    have h1 := this ps hp
    have h2 : ps.length * lwS n ≤ 3 * lwS n := Nat.mul_le_mul_right _ hl
    rw [Fm.size, lwS]
    omega
  | n + 1, .times p l u, h => by
    have := lw_size n p h.1
    rw [Fm.size, lwS]
    omega

theorem cut_drop (xs : List V) (n : Nat) : cutV xs (some (n : Int)) none = xs.drop n := by
  unfold cutV
  rw [HT.sIx_nat, HT.sIx_none]
  by_cases h : n ≤ xs.length
  · rw [Nat.min_eq_left h, List.take_of_length_le (by rw [List.length_drop]; exact Nat.le_refl _)]
  · rw [Nat.min_eq_right (by omega), List.drop_eq_nil_of_le (Nat.le_refl _), List.drop_eq_nil_of_le (by omega)]
    simp
theorem fms_take {K : PySem.W.Frag} {H : Hp} : ∀ {vs : List V} {fs : List Fm} (n : Nat), FmsAt K H vs fs → FmsAt K H (vs.take n) (fs.take n)
  | [], [], n, .nil => by rw [List.take_nil, List.take_nil]; exact .nil
  | v :: vs, f :: fs, 0, h => .nil
  | v :: vs, f :: fs, n + 1, .cons a b => .cons a (fms_take n b)
theorem fms_drop {K : PySem.W.Frag} {H : Hp} : ∀ {vs : List V} {fs : List Fm} (n : Nat), FmsAt K H vs fs → FmsAt K H (vs.drop n) (fs.drop n)
  | [], [], n, .nil => by rw [List.drop_nil, List.drop_nil]; exact .nil
  | v :: vs, f :: fs, 0, h => h
  | v :: vs, f :: fs, n + 1, .cons a b => fms_drop n b
/-! ### within bounds -/
theorem prs_append : ∀ (a b : List Fm), Fm.prs (a ++ b) = (Fm.prs a && Fm.prs b)
  | [], b => by simp [Fm.prs]
  | p :: a, b => by simp [Fm.prs, prs_append a b, Bool.and_assoc]
theorem prs_rep {f : Fm} (h : f.pr = true) : ∀ n : Nat, Fm.prs (List.replicate n f) = true
  | 0 => rfl
  | n + 1 => by rw [List.replicate_succ, Fm.prs, h, prs_rep h n]; rfl
theorem prs_sub {l m : List Fm} (h : Fm.prs l = true) (s : ∀ p, p ∈ m → p ∈ l) : Fm.prs m = true := prs_mk fun p hp => prs_mem h (s p hp)
theorem okS_sign {s : Str} (h : okS s) : signS s = true := by
  rcases h with rfl | rfl | rfl | rfl <;> decide +kernel
theorem lw_pr : ∀ (n : Nat) (f : Fm), Lw n f → f.pr = true ∧ f.dp ≤ n + 1
  | 0, .sign s, h => ⟨okS_sign h, by simp [Fm.dp]⟩
  | 0, .row ps, h => h.elim
  | 0, .pick ps, h => h.elim
  | 0, .times p l u, h => h.elim
  | n + 1, .sign s, h => ⟨okS_sign h, by simp [Fm.dp]⟩
  | n + 1, .row ps, h => by
    have hl : ps.length ≤ 3 := h.1
    have hp : ∀ p, p ∈ ps → Lw n p := h.2
    have h1 : Fm.prs ps = true := prs_mk fun p q => (lw_pr n p (hp p q)).1
    have h2 : Fm.dps ps ≤ n + 1 := dps_le.mpr fun p q => (lw_pr n p (hp p q)).2
    refine ⟨by rw [Fm.pr, h1, decide_eq_true (by omega)]; rfl, by rw [Fm.dp]; omega⟩
  | n + 1, .pick ps, h => by
    have h0 : 1 ≤ ps.length := h.1
    have hl : ps.length ≤ 3 := h.2.1
    have hp : ∀ p, p ∈ ps → Lw n p := h.2.2
    have h1 : Fm.prs ps = true := prs_mk fun p q => (lw_pr n p (hp p q)).1
    have h2 : Fm.dps ps ≤ n + 1 := dps_le.mpr fun p q => (lw_pr n p (hp p q)).2
    refine ⟨by rw [Fm.pr, h1, decide_eq_true h0, decide_eq_true (by omega)]; rfl, by rw [Fm.dp]; omega⟩
  | n + 1, .times p l u, h => by
    have h0 : Lw n p := h.1
    obtain ⟨h1, h2⟩ := lw_pr n p h0
    have hl : l ≤ 12 := h.2.1
    have hh : ∀ k, u = some k → max l 1 ≤ k ∧ k ≤ 12 := h.2.2
    refine ⟨?_, by rw [Fm.dp]; omega⟩
    rw [Fm.pr, h1, decide_eq_true (by omega), Bool.and_true, Bool.true_and]
    cases u with
    | none => rfl
    | some k =>
      obtain ⟨h3, h4⟩ := hh k rfl
      rw [hiN, decide_eq_true h3, decide_eq_true h4]
      rfl
end Sw
set_option Elab.async false
set_option maxRecDepth 100000
set_option maxHeartbeats 8000000
namespace Sw
open PySem L2 PySem.Spec PyProof.Rows TL
/-! ### words of forms -/
def figs : List Str := ["0", "1", "2", "3", "4", "5", "6", "7", "8", "9", "10", "11", "12"]
def fig (n : Nat) : Str := figs.getD n ""
def hiW : Option Nat → Str
  | none => ""
  | some h => fig h
def tw (l : Nat) (u : Option Nat) : Str := fig l ++ ".." ++ hiW u
theorem fig_num {n : Nat} (h : n ≤ 12) : Str.ofString (toString ((n : Nat) : Int)) = fig n := by
  have : ∀ n : Fin 13, Str.ofString (toString ((n.val : Nat) : Int)) = fig n.val := by decide +kernel
  exact this ⟨n, by omega⟩
def cntOk (l : Nat) (u : Option Nat) : Prop := l ≤ 12 ∧ ∀ k, u = some k → max l 1 ≤ k ∧ k ≤ 12
def twGood (l : Nat) (u : Option Nat) : Bool :=
  (tw l u != "]") && (tw l u != ")") && (tw l u != "[") && (tw l u != "(") && (tw l u != "") && !signS (tw l u) && !(tw l u).cps.toList.contains 32 && decide ((tw l u).length ≤ 6)
theorem tw_good {l : Nat} {u : Option Nat} (h : cntOk l u) : twGood l u = true := by
  have a : ∀ l : Fin 13, twGood l.val none = true := by decide +kernel
  have b : ∀ l : Fin 13, ∀ k : Fin 13, twGood l.val (some k.val) = true := by decide +kernel
  obtain ⟨h1, h2⟩ := h
  cases u with
  | none => exact a ⟨l, by omega⟩
  | some k => exact b ⟨l, by omega⟩ ⟨k, by have := (h2 k rfl).2; omega⟩
theorem fig_nodot {n : Nat} (h : n ≤ 12) : (46 : Nat) ∉ tl (fig n) := by
  have : ∀ n : Fin 13, (46 : Nat) ∉ tl (fig n.val) := by decide +kernel
  exact this ⟨n, by omega⟩
theorem tw_part {l : Nat} {u : Option Nat} (h : cntOk l u) : Txt.partition (tw l u) ".." = (fig l, ("..": Str), hiW u) := partition_app (y := "..") (s := 46) (S := [46]) (by decide +kernel) (fig_nodot h.1)
theorem fig_at {n : Nat} (h : n ≤ 12) : figs[n]? = some (fig n) ∧ (∀ m, m < n → figs[m]? ≠ some (fig n)) := by
  have : ∀ n : Fin 13, figs[n.val]? = some (fig n.val) ∧ ∀ m : Fin 13, m.val < n.val → figs[m.val]? ≠ some (fig n.val) := by decide +kernel
  obtain ⟨h1, h2⟩ := this ⟨n, by omega⟩
  exact ⟨h1, fun m hm => h2 ⟨m, by omega⟩ hm⟩
theorem fig_in {n : Nat} (h : n ≤ 12) : inV (V.str (fig n)) (figs.map V.str) = true := by
  have : ∀ n : Fin 13, inV (V.str (fig n.val)) (figs.map V.str) = true := by decide +kernel
  exact this ⟨n, by omega⟩
theorem fig_ne {n : Nat} (h : n ≤ 12) : decide (V.str (fig n) = V.str "") = false := by
  have : ∀ n : Fin 13, ¬ (fig n.val = "") := by decide +kernel
  exact decide_eq_false fun e => this ⟨n, by omega⟩ (V.str.inj e)
/-! ### tokens, frames -/
inductive Op
  | top
  | row
  | pick
  | times (l : Nat) (u : Option Nat)
def Op.w : Op → Str
  | .top => ""
  | .row => "["
  | .pick => "("
  | .times l u => tw l u
def Op.ok : Op → Prop
  | .times l u => cntOk l u
  | _ => True
inductive Tk
  | cl
  | cp
  | sg (s : Str)
  | op (o : Op)
def Tk.w : Tk → Str
  | .cl => "]"
  | .cp => ")"
  | .sg s => s
  | .op o => o.w
def Tk.ok : Tk → Prop
  | .sg s => signS s = true
  | .op o => o ≠ .top ∧ o.ok
  | _ => True
mutual
def Fm.tk : Fm → List Tk
  | .sign s => [.sg s]
  | .row ps => .op .row :: (Fm.tks ps ++ [.cl])
  | .pick ps => .op .pick :: (Fm.tks ps ++ [.cp])
  | .times p l u => .op (.times l u) :: p.tk
def Fm.tks : List Fm → List Tk
  | [] => []
  | p :: ps => p.tk ++ Fm.tks ps
end
def Fm.wd (f : Fm) : List Str := f.tk.map Tk.w
def Fm.wds (ps : List Fm) : List Str := (Fm.tks ps).map Tk.w
abbrev Fr := Op × List Fm
def putF : List Fr → Fm → Option (List Fr)
  | [], _ => none
  | (.times l u, _) :: fs, f => putF fs (.times f l u)
  | (.top, ps) :: fs, f => some ((.top, ps ++ [f]) :: fs)
  | (.row, ps) :: fs, f => some ((.row, ps ++ [f]) :: fs)
  | (.pick, ps) :: fs, f => some ((.pick, ps ++ [f]) :: fs)
def Op.lim : Op → Nat
  | .row => 8
  | .pick => 8
  | _ => 1
def room : List Fr → Bool
  | (o, ps) :: _ => decide (ps.length < o.lim)
  | [] => false
def fitF : List Fr → Tk → Bool
  | (.row, _) :: _, .cl => true
  | (.pick, p :: ps) :: _, .cp => true
  | fs, .sg _ => room fs
  | fs, .op _ => room fs
  | _, _ => false
def takeF : List Fr → Tk → Option (List Fr)
  | (_, ps) :: fs, .cl => putF fs (.row ps)
  | (_, ps) :: fs, .cp => putF fs (.pick ps)
  | [], .cl => none
  | [], .cp => none
  | fs, .sg s => putF fs (.sign s)
  | fs, .op o => some ((o, []) :: fs)
def runF : List Fr → List Tk → Option (List Fr)
  | fs, [] => some fs
  | fs, t :: ts => if fitF fs t = true then (takeF fs t).bind fun gs => runF gs ts else none
theorem run_app : ∀ (ts us : List Tk) (fs gs : List Fr), runF fs ts = some gs → runF fs (ts ++ us) = runF gs us
  | [], us, fs, gs, h => by cases h; rfl
  | t :: ts, us, fs, gs, h => by
    rw [List.cons_append, runF]
    rw [runF] at h
    by_cases q : fitF fs t = true
    · rw [if_pos q] at h ⊢
      cases e : takeF fs t with
      | none => rw [e] at h; cases h
      | some hs =>
        rw [e] at h
        exact run_app ts us hs gs h
    · rw [if_neg q] at h; cases h
theorem run_cons {fs hs : List Fr} {t : Tk} {ts : List Tk} (h1 : fitF fs t = true) (h2 : takeF fs t = some hs) : runF fs (t :: ts) = runF hs ts := by
  rw [runF, if_pos h1, h2]
  rfl
theorem fit_sg (fs : List Fr) (s : Str) : fitF fs (.sg s) = room fs := by
  match fs with
  | [] => rfl
  | (.top, _) :: _ => rfl
  | (.row, _) :: _ => rfl
  | (.pick, []) :: _ => rfl
  | (.pick, _ :: _) :: _ => rfl
  | (.times _ _, _) :: _ => rfl
theorem fit_op (fs : List Fr) (o : Op) : fitF fs (.op o) = room fs := by
  match fs with
  | [] => rfl
  | (.top, _) :: _ => rfl
  | (.row, _) :: _ => rfl
  | (.pick, []) :: _ => rfl
  | (.pick, _ :: _) :: _ => rfl
  | (.times _ _, _) :: _ => rfl
theorem fit_cl (ps : List Fm) (fs : List Fr) : fitF ((.row, ps) :: fs) .cl = true := rfl
theorem fit_cp (p : Fm) (ps : List Fm) (fs : List Fr) : fitF ((.pick, p :: ps) :: fs) .cp = true := rfl
theorem take_sg (fs : List Fr) (s : Str) : takeF fs (.sg s) = putF fs (.sign s) := by cases fs <;> rfl
theorem take_op (fs : List Fr) (o : Op) : takeF fs (.op o) = some ((o, []) :: fs) := by cases fs <;> rfl
mutual
theorem run_fm : ∀ (f : Fm) (fs gs : List Fr), f.pr = true → room fs = true → putF fs f = some gs → runF fs f.tk = some gs
  | .sign s, fs, gs, h, hr, hp => by
    rw [Fm.tk, run_cons (by rw [fit_sg]; exact hr) (by rw [take_sg]; exact hp)]
    rfl
  | .row ps, fs, gs, h, hr, hp => by
    rw [Fm.pr, Bool.and_eq_true] at h
    have hl := of_decide_eq_true h.1
    rw [Fm.tk, run_cons (by rw [fit_op]; exact hr) (take_op _ _), run_app _ _ _ _ (run_row ps [] fs h.2 (by rw [List.length_nil]; omega))]
    rw [List.nil_append, run_cons (fit_cl _ _) (hs := gs) hp]
    rfl
  | .pick ps, fs, gs, h, hr, hp => by
    rw [Fm.pr, Bool.and_eq_true, Bool.and_eq_true] at h
    have hl := of_decide_eq_true h.1.2
    have h0 := of_decide_eq_true h.1.1
    rw [Fm.tk, run_cons (by rw [fit_op]; exact hr) (take_op _ _), run_app _ _ _ _ (run_pick ps [] fs h.2 (by rw [List.length_nil]; omega))]
    cases ps with
    | nil => exact absurd h0 (by decide)
    | cons p ps =>
      rw [List.nil_append, run_cons (fit_cp _ _ _) (hs := gs) hp]
      rfl
  | .times p l u, fs, gs, h, hr, hp => by
    rw [Fm.pr, Bool.and_eq_true] at h
    rw [Fm.tk, run_cons (by rw [fit_op]; exact hr) (take_op _ _)]
    exact run_fm p _ gs h.2 rfl hp
theorem run_row : ∀ (ps qs : List Fm) (fs : List Fr), Fm.prs ps = true → qs.length + ps.length ≤ 8 → runF ((.row, qs) :: fs) (Fm.tks ps) = some ((.row, qs ++ ps) :: fs)
  | [], qs, fs, h, hl => by rw [Fm.tks, List.append_nil]; rfl
  | p :: ps, qs, fs, h, hl => by
    rw [Fm.prs, Bool.and_eq_true] at h
    rw [List.length_cons] at hl
    rw [Fm.tks, run_app _ _ _ _ (run_fm p ((.row, qs) :: fs) ((.row, qs ++ [p]) :: fs) h.1 (decide_eq_true (show qs.length < 8 by omega)) rfl), run_row ps (qs ++ [p]) fs h.2 (by rw [List.length_append, List.length_singleton]; omega)]
    rw [List.append_assoc]
    rfl
theorem run_pick : ∀ (ps qs : List Fm) (fs : List Fr), Fm.prs ps = true → qs.length + ps.length ≤ 8 → runF ((.pick, qs) :: fs) (Fm.tks ps) = some ((.pick, qs ++ ps) :: fs)
  | [], qs, fs, h, hl => by rw [Fm.tks, List.append_nil]; rfl
  | p :: ps, qs, fs, h, hl => by
    rw [Fm.prs, Bool.and_eq_true] at h
    rw [List.length_cons] at hl
    rw [Fm.tks, run_app _ _ _ _ (run_fm p ((.pick, qs) :: fs) ((.pick, qs ++ [p]) :: fs) h.1 (decide_eq_true (show qs.length < 8 by omega)) rfl), run_pick ps (qs ++ [p]) fs h.2 (by rw [List.length_append, List.length_singleton]; omega)]
    rw [List.append_assoc]
    rfl
end
/-! ### every word -/
theorem pr_cnt {p : Fm} {l : Nat} {u : Option Nat} (h : (Fm.times p l u).pr = true) : cntOk l u := by
  rw [Fm.pr, Bool.and_eq_true] at h
  have h1 := h.1
  rw [Bool.and_eq_true] at h1
  refine ⟨of_decide_eq_true h1.1, fun k e => ?_⟩
  subst e
  have h2 := h1.2
  rw [hiN, Bool.and_eq_true] at h2
  exact ⟨of_decide_eq_true h2.1, of_decide_eq_true h2.2⟩
mutual
theorem tk_ok : ∀ f : Fm, f.pr = true → ∀ t, t ∈ f.tk → t.ok
  | .sign s, h, t, ht => by rw [Fm.tk, List.mem_singleton] at ht; subst ht; exact h
  | .row ps, h, t, ht => by
    rw [Fm.pr, Bool.and_eq_true] at h
    rw [Fm.tk, List.mem_cons, List.mem_append, List.mem_singleton] at ht
    rcases ht with rfl | ht | rfl
    · exact ⟨(fun e => by cases e), trivial⟩
    · exact tks_ok ps h.2 t ht
    · exact trivial
  | .pick ps, h, t, ht => by
    rw [Fm.pr, Bool.and_eq_true] at h
    rw [Fm.tk, List.mem_cons, List.mem_append, List.mem_singleton] at ht
    rcases ht with rfl | ht | rfl
    · exact ⟨(fun e => by cases e), trivial⟩
    · exact tks_ok ps h.2 t ht
    · exact trivial
  | .times p l u, h, t, ht => by
    have hc := pr_cnt h
    rw [Fm.pr, Bool.and_eq_true] at h
    rw [Fm.tk, List.mem_cons] at ht
    rcases ht with rfl | ht
    · exact ⟨(fun e => by cases e), hc⟩
    · exact tk_ok p h.2 t ht
theorem tks_ok : ∀ ps : List Fm, Fm.prs ps = true → ∀ t, t ∈ Fm.tks ps → t.ok
  | [], _, t, ht => by cases ht
  | p :: ps, h, t, ht => by
    rw [Fm.prs, Bool.and_eq_true] at h
    rw [Fm.tks, List.mem_append] at ht
    rcases ht with ht | ht
    · exact tk_ok p h.1 t ht
    · exact tks_ok ps h.2 t ht
end
mutual
theorem tk_len : ∀ f : Fm, f.tk.length ≤ 2 * f.size
  | .sign s => by simp [Fm.tk, Fm.size]
  | .row ps => by have := tks_len ps; rw [Fm.tk, Fm.size, List.length_cons, List.length_append, List.length_singleton]; omega
  | .pick ps => by have := tks_len ps; rw [Fm.tk, Fm.size, List.length_cons, List.length_append, List.length_singleton]; omega
  | .times p l u => by have := tk_len p; rw [Fm.tk, Fm.size, List.length_cons]; omega
theorem tks_len : ∀ ps : List Fm, (Fm.tks ps).length ≤ 2 * Fm.sizes ps
  | [] => by simp [Fm.tks]
  | p :: ps => by
    have := tk_len p
    have := tks_len ps
    rw [Fm.tks, Fm.sizes, List.length_append]
    omega
end
theorem tk_pos (f : Fm) : f.tk ≠ [] := by cases f <;> simp [Fm.tk]
theorem sign_word {s : Str} (h : signS s = true) : (32 : Nat) ∉ tl s ∧ s.length ≤ 6 ∧ s ≠ "]" ∧ s ≠ ")" ∧ s ≠ "[" ∧ s ≠ "(" := by
  have no : ∀ c, letter c = false → c ∉ tl s := fun c hc hm => by
    unfold signS at h
    rw [Bool.and_eq_true] at h
    have := List.all_eq_true.mp h.2 c hm
    rw [hc] at this
    cases this
  refine ⟨no 32 (by decide), ?_, ?_, ?_, ?_, ?_⟩
  · unfold signS at h
    rw [Bool.and_eq_true, Bool.and_eq_true] at h
    exact of_decide_eq_true h.1.2
  · rintro rfl; exact no 93 (by decide) (by decide +kernel)
  · rintro rfl; exact no 41 (by decide) (by decide +kernel)
  · rintro rfl; exact no 91 (by decide) (by decide +kernel)
  · rintro rfl; exact no 40 (by decide) (by decide +kernel)
theorem tk_word {t : Tk} (h : t.ok) : (32 : Nat) ∉ tl t.w ∧ t.w.length ≤ 6 := by
  match t, h with
  | .cl, _ => exact ⟨by decide +kernel, by decide +kernel⟩
  | .cp, _ => exact ⟨by decide +kernel, by decide +kernel⟩
  | .sg s, h => exact ⟨(sign_word h).1, (sign_word h).2.1⟩
  | .op .top, h => exact absurd rfl h.1
  | .op .row, _ => exact ⟨by decide +kernel, by decide +kernel⟩
  | .op .pick, _ => exact ⟨by decide +kernel, by decide +kernel⟩
  | .op (.times l u), h =>
    have g := tw_good h.2
    unfold twGood at g
    simp only [Bool.and_eq_true] at g
    exact ⟨by show (32 : Nat) ∉ tl (tw l u); simpa using g.1.2, of_decide_eq_true g.2⟩
theorem wd_split {f : Fm} (h : f.pr = true) : Txt.split (Txt.join " " f.wd) " " = f.wd := by
  refine split_join (s := 32) (S := []) (by decide +kernel) (by decide +kernel) (fun e => tk_pos f (List.map_eq_nil_iff.mp e)) fun p hp => ?_
  obtain ⟨t, ht, rfl⟩ := List.mem_map.mp hp
  exact (tk_word (tk_ok f h t ht)).1
theorem wd_sum {f : Fm} (h : f.pr = true) : (f.wd.map (·.length)).sum + f.wd.length * 1 ≤ 14 * f.size := by
  have key : ∀ ts : List Tk, (∀ t, t ∈ ts → t.ok) → ((ts.map Tk.w).map (·.length)).sum ≤ 6 * ts.length := fun ts => by
    induction ts with
    | nil => intro _; simp
    | cons t ts ih =>
      intro ho
      have h1 := (tk_word (ho t (by simp))).2
      have h2 := ih fun u hu => ho u (List.mem_cons_of_mem _ hu)
      simp only [List.map_cons, List.sum_cons, List.length_cons]
      omega
  have h1 := key f.tk (tk_ok f h)
  have h2 := tk_len f
  unfold Fm.wd
  rw [List.length_map]
  omega
end Sw
set_option Elab.async false
set_option maxRecDepth 100000
set_option maxHeartbeats 8000000
namespace Sw
open PySem L2 PySem.Spec PyProof.Rows TL
/-- what _counts tells of an opener -/
def CntAt (H : Hp) (v : V) : Op → Prop
  | .times l u => ∃ p, v = .ref p ∧ H p = some (.tup [.int (l : Int), highV u])
  | _ => v = .non
theorem part_no {o : Op} (h : ∀ l u, o ≠ .times l u) : Txt.partition o.w ".." = (o.w, Str.empty, Str.empty) := by
  refine partition_none (y := "..") (s := 46) (S := [46]) (by decide +kernel) ?_
  cases o with
  | top => decide +kernel
  | row => decide +kernel
  | pick => decide +kernel
  | times l u => exact absurd rfl (h l u)
section
variable {P : Program} {w : World} {K : PySem.W.Frag} {mg : Str → Option Value} {base : Heap}
abbrev n_counts : List Str := ["word", "low_word", "dots", "high_word", "low"]
theorem sc_counts : FnScope n_counts ["word"] (defScope s_counts) := ⟨rfl, rfl, rfl, by decide +kernel, rfl, by decide +kernel, by decide +kernel⟩
def spCounts : Sp := fun vs H Q _ => ∃ o : Op, vs = [.str o.w] ∧ o.ok ∧ ∀ H' v, Same H H' → CntAt H' v o → Q v H'
theorem ok_counts (F : DefAt K mg "_counts" s_counts ["word"]) (g_fg : ∃ c, mg "_FIGURES" = some (.ref c) ∧ (∀ H, SqT K H c (figs.map V.str)) ∧ ∃ o, K.lookup c = some o ∧ o.cls = .type "tuple" ∧ o.dict = none) (b_max : mg "max" = none) : DefOk P w K mg base "_counts" 1 ["word"] spCounts := by
  obtain ⟨fg, g_fg, hfg, kfg⟩ := g_fg
  have tfg : ∀ H, tyV K "tuple" (.ref fg) H := fun H => .inr (.inl ⟨rfl, kfg⟩)
  refine F.ok sc_counts (fun vs H Q E h => ?_) (fun f cdv A outer s H vs Q E hr h => ?_)
  · obtain ⟨_, rfl, _⟩ := h
    rfl
  obtain ⟨o, rfl, ho, k⟩ := h
  refine ⟨_, (pss_cons (ps_asg (pe_partition (pv 0) pe_str) (pg_tup rfl (pgs_cons (pg_name (i := 1) sc_counts.nd rfl (Or.inl rfl)) (pgs_cons (pg_name (i := 2) sc_counts.nd rfl (Or.inl rfl)) (pgs_cons (pg_name (i := 3) sc_counts.nd rfl (Or.inl rfl)) pgs_nil)))))
    (pss_cons (ps_if (PW.pt (pw_or (pt_cmpR op_eq (pv 2) pe_str (nomark _)) (pw_or1 (pt_cmpR op_notIn_seq (pv 1) (pe_glob (v := .ref fg) rfl g_fg rfl) (by rfl))))) (pss_one (ps_ret pe_non)) pss_nil)
    (pss_cons (ps_set (i := 4) sc_counts.nd rfl (Or.inl rfl) (pe_bm PySem.F.plainAttrs_tuple PySem.F.slot_tuple_index PySem.F.type_tuple_index mt_tup_index (pe_glob (v := .ref fg) rfl g_fg rfl) (pa_cons (pv 1) pa_nil)))
    (pss_cons (ps_if (pt_cmpR op_eq (pv 3) pe_str (nomark _)) (pss_one (ps_ret (pe_tup (pa_cons (pv 4) (pa_cons pe_non pa_nil))))) pss_nil)
    (pss_cons (ps_if (PW.pt (pw_or (pt_cmpR op_notIn_seq (pv 3) (pe_glob (v := .ref fg) rfl g_fg rfl) (by rfl)) (pw_or1 (pt_cmpR op_lt (pe_bm PySem.F.plainAttrs_tuple PySem.F.slot_tuple_index PySem.F.type_tuple_index mt_tup_index (pe_glob (v := .ref fg) rfl g_fg rfl) (pa_cons (pv 3) pa_nil)) (pe_callB (call_max2 rfl) (by rfl) b_max (by decide +kernel) (pa_cons (pv 4) (pa_cons pe_int pa_nil))) (nomark _))))) (pss_one (ps_ret pe_non)) pss_nil)
    (pss_one (ps_ret (pe_tup (pa_cons (pv 4) (pa_cons (pe_bm PySem.F.plainAttrs_tuple PySem.F.slot_tuple_index PySem.F.type_tuple_index mt_tup_index (pe_glob (v := .ref fg) rfl g_fg rfl) (pa_cons (pv 3) pa_nil)) pa_nil)))))))))), ?_⟩
  have hsz : o.w.length ≤ sizeLine := by
    cases o with
    | times l u =>
      have g := tw_good ho
      unfold twGood at g
      simp only [Bool.and_eq_true] at g
      have := of_decide_eq_true g.2
      exact szl (show (tw l u).length ≤ 16000000 by omega)
    | _ => decide +kernel
  refine ⟨_, rfl, ⟨_, rfl⟩, _, _, rfl, rfl, by decide +kernel, hsz, fun p np => ?_⟩
  have s1 : Same H (upd H p (.tup [.str (Txt.partition o.w "..").1, .str (Txt.partition o.w "..").2.1, .str (Txt.partition o.w "..").2.2])) := .new np
  refine ⟨p, _, rfl, sT upd_same, rfl, _, _, rfl, _, _, rfl, _, _, rfl, rfl, ?_⟩
  by_cases q : ∃ l u, o = .times l u
  · obtain ⟨l, u, rfl⟩ := q
    have hc : cntOk l u := ho
    have ep : Txt.partition (Op.times l u).w ".." = (fig l, ("..": Str), hiW u) := tw_part hc
    rw [ep] at s1 ⊢
    dsimp only at s1 ⊢
    generalize upd H p (.tup [.str (fig l), .str "..", .str (hiW u)]) = H1 at s1 ⊢
    obtain ⟨f1, f2⟩ := fig_at hc.1
    refine ⟨_, rfl, rfl, _, rfl, iteF' (by decide +kernel) ?_⟩
    refine ⟨_, rfl, fg, _, rfl, .inr (hfg _), rfl, by decide +kernel, ?_⟩
    refine ⟨_, rfl, iteF' (by rw [fig_in hc.1]; decide) ?_⟩
    refine ⟨tfg _, _, rfl, fg, figs, fig l, l, rfl, rfl, hfg _, f1, f2, ?_⟩
    cases u with
    | none =>
      refine ⟨_, rfl, rfl, _, rfl, iteT' (by decide +kernel) ?_⟩
      refine ⟨_, rfl, (by show 2 ≤ sizeLine; decide), fun r nr => ?_⟩
      exact k _ _ (s1.trans (.new nr)) ⟨r, rfl, upd_same⟩
    | some h =>
      obtain ⟨hh1, hh2⟩ := hc.2 h rfl
      obtain ⟨g1, g2⟩ := fig_at hh2
      refine ⟨_, rfl, rfl, _, rfl, iteF' (by rw [show hiW (some h) = fig h from rfl, fig_ne hh2]; decide) ?_⟩
      refine ⟨_, rfl, fg, _, rfl, .inr (hfg _), rfl, by decide +kernel, ?_⟩
      refine ⟨_, rfl, iteF' (by rw [show hiW (some h) = fig h from rfl, fig_in hh2]; decide) ?_⟩
      refine ⟨tfg _, _, rfl, fg, figs, fig h, h, rfl, rfl, hfg _, g1, g2, ?_⟩
      refine ⟨_, rfl, _, _, rfl, _, _, rfl, rfl, _, rfl, iteF' (by rw [decide_eq_false (by split <;> omega)]; decide) ?_⟩
      refine ⟨_, rfl, tfg _, _, rfl, fg, figs, fig h, h, rfl, rfl, hfg _, g1, g2, (by show 2 ≤ sizeLine; decide), fun r nr => ?_⟩
      exact k _ _ (s1.trans (.new nr)) ⟨r, rfl, upd_same⟩
  · have hno : ∀ l u, o ≠ .times l u := fun l u e => q ⟨l, u, e⟩
    rw [part_no hno] at s1 ⊢
    dsimp only at s1 ⊢
    generalize upd H p (.tup [.str o.w, .str Str.empty, .str Str.empty]) = H1 at s1 ⊢
    refine ⟨_, rfl, rfl, _, rfl, iteT' (by decide +kernel) ?_⟩
    refine k _ _ s1 ?_
    cases o with
    | times l u => exact absurd rfl (hno l u)
    | _ => rfl
end
end Sw
set_option Elab.async false
set_option maxRecDepth 100000
set_option maxHeartbeats 8000000
namespace Sw
open PySem L2 PySem.Spec PyProof.Rows TL
/-! ### the opened ones in the heap -/
def FrAt (K : PySem.W.Frag) (H : Hp) (p : Addr × Addr) (f : Fr) : Prop := SqT K H p.1 [.str f.1.w, .ref p.2] ∧ f.1.ok ∧ ∃ ws, H p.2 = some (.lst ws) ∧ FmsAt K H ws f.2
structure OpAt (K : PySem.W.Frag) (H : Hp) (al : Addr) (ps : List (Addr × Addr)) (fs : List Fr) : Prop where
  top : H al = some (.lst (ps.map fun p => V.ref p.1).reverse)
  fr : Paired (FrAt K H) ps fs
  nd : al ∉ ps.map (·.2) ∧ (ps.map (·.2)).Nodup
theorem fmsW' {K : PySem.W.Frag} {H : Hp} {p : Addr} {xs : List V} {o : HO} (h : H p = some (.lst xs)) {fs : List Fm} {vs : List V} (hf : FmsAt K H vs fs) : FmsAt K (upd H p o) vs fs := fmsAll (keepTup h) fs vs hf
theorem FrAt.same {K : PySem.W.Frag} {H H' : Hp} {p : Addr × Addr} {f : Fr} (h : FrAt K H p f) (s : Same H H') : FrAt K H' p f := let ⟨a, b, ws, c, d⟩ := h; ⟨s.sqT a, b, ws, s _ _ c, dpsS s d⟩
theorem FrAt.w {K : PySem.W.Frag} {H : Hp} {p : Addr × Addr} {f : Fr} {q : Addr} {xs : List V} {o : HO} (h : FrAt K H p f) (hq : H q = some (.lst xs)) (n : p.2 ≠ q) : FrAt K (upd H q o) p f :=
  let ⟨a, b, ws, c, d⟩ := h; ⟨sqTW hq a, b, ws, by rw [upd_ne n]; exact c, fmsW' hq d⟩
theorem pairedMapM {α β : Type} {F G : α → β → Prop} : ∀ {l₁ : List α} {l₂ : List β}, Paired F l₁ l₂ → (∀ a b, a ∈ l₁ → F a b → G a b) → Paired G l₁ l₂
  | _, _, .nil, _ => .nil
  | _, _, .cons r t, h => .cons (h _ _ (by simp) r) (pairedMapM t fun a b hm => h a b (List.mem_cons_of_mem _ hm))
theorem OpAt.same {K : PySem.W.Frag} {H H' : Hp} {al : Addr} {ps : List (Addr × Addr)} {fs : List Fr} (h : OpAt K H al ps fs) (s : Same H H') : OpAt K H' al ps fs := ⟨s _ _ h.top, pairedMap h.fr fun _ _ r => r.same s, h.nd⟩
theorem mem2 {ps : List (Addr × Addr)} {p : Addr × Addr} (h : p ∈ ps) : p.2 ∈ ps.map (·.2) := List.mem_map.mpr ⟨p, h, rfl⟩
theorem OpAt.pop {K : PySem.W.Frag} {H : Hp} {al : Addr} {p : Addr × Addr} {ps : List (Addr × Addr)} {f : Fr} {fs : List Fr} (h : OpAt K H al (p :: ps) (f :: fs)) :
    OpAt K (upd H al (.lst (((p :: ps).map fun p => V.ref p.1).reverse.dropLast))) al ps fs := by
  obtain ⟨h1, h2, h3, h4⟩ := h
  cases h2 with
  | cons r t =>
    rw [List.map_cons, List.mem_cons] at h3
    rw [List.map_cons, List.nodup_cons] at h4
    refine ⟨by rw [upd_same, List.map_cons, List.reverse_cons, List.dropLast_concat], pairedMapM t fun a b hm r => r.w h1 fun e => h3 (.inr (by rw [← e]; exact mem2 hm)), fun z => h3 (.inr z), h4.2⟩
theorem OpAt.push {K : PySem.W.Frag} {H : Hp} {al a l : Addr} {ps : List (Addr × Addr)} {fs : List Fr} {o : Op} (h : OpAt K H al ps fs) (ho : o.ok) (ha : H a = some (.tup [.str o.w, .ref l])) (hl : H l = some (.lst [])) (n1 : l ≠ al) (n2 : l ∉ ps.map (·.2)) :
    OpAt K (upd H al (.lst ((ps.map fun p => V.ref p.1).reverse ++ [V.ref a]))) al ((a, l) :: ps) ((o, []) :: fs) := by
  obtain ⟨h1, h2, h3, h4⟩ := h
  refine ⟨by rw [upd_same, List.map_cons, List.reverse_cons], .cons ⟨sqTW h1 (sT ha), ho, [], by rw [upd_ne n1]; exact hl, .nil⟩ (pairedMapM h2 fun x b hm r => r.w h1 fun e => h3 (by rw [← e]; exact mem2 hm)), ?_, ?_⟩
  · rw [List.map_cons, List.mem_cons]
    rintro (e | e)
    · exact n1 e.symm
    · exact h3 e
  · rw [List.map_cons, List.nodup_cons]
    exact ⟨n2, h4⟩
theorem OpAt.grow {K : PySem.W.Frag} {H : Hp} {al : Addr} {p : Addr × Addr} {ps : List (Addr × Addr)} {o : Op} {xs : List Fm} {fs : List Fr} {ws : List V} {v : V} {f : Fm} (h : OpAt K H al (p :: ps) ((o, xs) :: fs)) (hw : H p.2 = some (.lst ws)) (hf : FmAt K H v f) :
    OpAt K (upd H p.2 (.lst (ws ++ [v]))) al (p :: ps) ((o, xs ++ [f]) :: fs) := by
  obtain ⟨h1, h2, h3, h4⟩ := h
  cases h2 with
  | cons r t =>
    obtain ⟨a, b, ws', c, d⟩ := r
    rw [hw] at c
    cases c
    rw [List.map_cons, List.mem_cons] at h3
    have h4' := h4
    rw [List.map_cons, List.nodup_cons] at h4'
    refine ⟨by rw [upd_ne fun e => h3 (.inl e)]; exact h1, .cons ⟨sqTW hw a, b, _, upd_same, ?_⟩ (pairedMapM t fun x b hm r => r.w hw fun e => h4'.1 (by rw [← e]; exact mem2 hm)), ?_, h4⟩
    · show DpAll K _ _ (Fm.dats (xs ++ [f]))
      rw [Fm.dats_map, List.map_append, ← Fm.dats_map]
      exact dpsApp (fmsW' hw d) (.cons (fmW hw hf) .nil)
    · rw [List.map_cons, List.mem_cons]; exact h3
/-- what is not among these is as it was -/
def Kp (S : List Addr) (H H' : Hp) : Prop := ∀ x o, H x = some o → x ∉ S → H' x = some o
theorem Kp.same {S : List Addr} {H H' : Hp} (s : Same H H') : Kp S H H' := fun x o e _ => s x o e
theorem Kp.trans {S : List Addr} {H H1 H2 : Hp} (a : Kp S H H1) (b : Kp S H1 H2) : Kp S H H2 := fun x o e n => b x o (a x o e n) n
theorem Kp.w {S : List Addr} {H H1 : Hp} {p : Addr} {o : HO} (a : Kp S H H1) (h : p ∈ S) : Kp S H (upd H1 p o) := fun x u e n => by
  rw [upd_ne fun z => n (by rw [z]; exact h)]
  exact a x u e n
theorem Kp.sub {S T : List Addr} {H H1 : Hp} (a : Kp S H H1) (h : ∀ x, x ∈ S → x ∈ T) : Kp T H H1 := fun x o e n => a x o e fun z => n (h x z)
/-- tuples stay -/
def Kt (H H' : Hp) : Prop := ∀ a xs, Rd H a (.tup xs) → Rd H' a (.tup xs)
theorem Kt.same {H H' : Hp} (s : Same H H') : Kt H H' := fun _ _ r => s.rd r
theorem Kt.w {H : Hp} {p : Addr} {xs : List V} {o : HO} (h : H p = some (.lst xs)) : Kt H (upd H p o) := keepTup h
theorem Kt.trans {H H1 H2 : Hp} (a : Kt H H1) (b : Kt H1 H2) : Kt H H2 := fun x xs r => b x xs (a x xs r)
theorem Kt.fm {K : PySem.W.Frag} {H H' : Hp} (a : Kt H H') {v : V} {f : Fm} (h : FmAt K H v f) : FmAt K H' v f := fmsMap a f v h
def lsS (al : Addr) (ps : List (Addr × Addr)) : List Addr := al :: ps.map (·.2)
section
variable {P : Program} {w : World} {K : PySem.W.Frag} {mg : Str → Option Value} {base : Heap}
def smallF (fs : List Fr) : Prop := fs.length ≤ 1000 ∧ ∀ f, f ∈ fs → f.2.length ≤ 1000
abbrev n_put : List Str := ["opened", "form", "made", "counts"]
theorem sc_put : FnScope n_put ["opened", "form"] (defScope s_put) := ⟨rfl, rfl, rfl, by decide +kernel, rfl, by decide +kernel, by decide +kernel⟩
def spPut (K : PySem.W.Frag) : Sp := fun vs H Q _ => ∃ al v ps fs gs f, vs = [.ref al, v] ∧ OpAt K H al ps fs ∧ smallF fs ∧ FmAt K H v f ∧ putF fs f = some gs ∧
  ∀ H' qs, Kp (lsS al ps) H H' → Kt H H' → OpAt K H' al qs gs → qs <:+ ps → Q .non H'
theorem OpAt.at_ {K : PySem.W.Frag} {H : Hp} {al : Addr} {p : Addr × Addr} {ps : List (Addr × Addr)} {f : Fr} {fs : List Fr} (h : OpAt K H al (p :: ps) (f :: fs)) : atI ((p :: ps).map fun p => V.ref p.1).reverse (-1) = some (.ref p.1) ∧ SqT K H p.1 [.str f.1.w, .ref p.2] ∧ f.1.ok ∧ ∃ ws, H p.2 = some (.lst ws) ∧ FmsAt K H ws f.2 := by
  obtain ⟨h1, h2, h3⟩ := h
  cases h2 with
  | cons r t => exact ⟨by rw [List.map_cons, List.reverse_cons]; exact atI_last _ _, r⟩
def PutI (K : PySem.W.Frag) (H : Hp) (al : Addr) (ps : List (Addr × Addr)) (v : V) (gs : List Fr) (m : Nat) (σ : L2.St) (H' : Hp) : Prop :=
  ∃ (ps1 : List (Addr × Addr)) (o : Op) (xs : List Fm) (fs1 : List Fr) (u cv : V) (g : Fm), m = fs1.length ∧ σ = [some (.ref al), some v, some u, some cv] ∧ OpAt K H' al ps1 ((o, xs) :: fs1) ∧ smallF ((o, xs) :: fs1) ∧ FmAt K H' u g ∧ putF ((o, xs) :: fs1) g = some gs ∧ CntAt H' cv o ∧ Kp (lsS al ps) H H' ∧ Kt H H' ∧ ps1 <:+ ps
theorem ok_put (F : DefAt K mg "_put" s_put ["opened", "form"]) (d__counts : DefOk P w K mg base "_counts" 1 ["word"] spCounts) : DefOk P w K mg base "_put" 2 ["opened", "form"] (spPut K) := by
  refine F.ok sc_put (fun vs H Q E h => ?_) (fun f cdv A outer s H vs Q E hr h => ?_)
  · obtain ⟨_, _, _, _, _, _, rfl, _⟩ := h
    rfl
  obtain ⟨al, v, ps, fs, gs, fm, rfl, hO, hsm, hf, hp, k⟩ := h
  refine ⟨_, (pss_cons (ps_set (i := 2) sc_put.nd rfl (Or.inl rfl) (pv 1))
    (pss_cons (ps_set (i := 3) sc_put.nd rfl (Or.inl rfl) (pe_callD d__counts (hr.mono (by decide)) rfl (pa_cons (pe_ix ix_tup (pe_ix ix_list (pv 0) (pe_un un_neg pe_int) (fun _ _ => rfl)) pe_int (fun _ _ => rfl)) pa_nil)))
    (pss_cons (ps_while PassesOwn.never (pt_cmp (pc_notN (pv 3)) rfl) (pss_cons (ps_expr (pe_bm0 PySem.F.plainAttrs_list PySem.F.slot_list_pop PySem.F.type_list_pop mt_pop (pv 0)))
    (pss_cons (ps_set (i := 2) sc_put.nd rfl (Or.inl rfl) (pe_tup (pa_cons pe_str (pa_cons (pv 2) (pa_cons (pe_ix ix_tup (pv 3) pe_int (fun _ _ => rfl)) (pa_cons (pe_ix ix_tup (pv 3) pe_int (fun _ _ => rfl)) pa_nil))))))
    (pss_one (ps_set (i := 3) sc_put.nd rfl (Or.inl rfl) (pe_callD d__counts (hr.mono (by decide)) rfl (pa_cons (pe_ix ix_tup (pe_ix ix_list (pv 0) (pe_un un_neg pe_int) (fun _ _ => rfl)) pe_int (fun _ _ => rfl)) pa_nil)))))))
    (pss_one (ps_expr (pe_bm PySem.F.plainAttrs_list PySem.F.slot_list_append PySem.F.type_list_append mt_append (pe_ix ix_tup (pe_ix ix_list (pv 0) (pe_un un_neg pe_int) (fun _ _ => rfl)) pe_int (fun _ _ => rfl)) (pa_cons (pv 2) pa_nil))))))), ?_⟩
  refine ⟨_, rfl, ?_⟩
  -- the top's counts
  have ask : ∀ (σ : L2.St) (H1 : Hp) (ps1 : List (Addr × Addr)) (fs1 : List Fr) (R : VK), σ[0]? = some (some (.ref al)) → OpAt K H1 al ps1 fs1 → fs1 ≠ [] →
      (∀ (o : Op) (xs : List Fm) (fs2 : List Fr) (H2 : Hp) (v : V), fs1 = (o, xs) :: fs2 → Same H1 H2 → CntAt H2 v o → R v H2) →
      tCall spCounts [] E0 (tCons (tOp (rIxT K) (tOp (rIxL K) (tVar 0) (tUn (rU fun i => .int (-i)) (tC (.int 1)))) (tC (.int 0))) tNil) σ H1 R := by
    intro σ H1 ps1 fs1 R hσ hO1 hne hk
    cases fs1 with
    | nil => exact absurd rfl hne
    | cons t fs2 =>
      cases ps1 with
      | nil => have := hO1.fr; cases this
      | cons p ps2 =>
        obtain ⟨h1, h2, h3, ws, h4, h5⟩ := hO1.at_
        refine ⟨_, hσ, _, rfl, al, _, _, _, rfl, rfl, sL hO1.top, h1, p.1, _, 0, _, rfl, rfl, h2, atI_nat (j := 0) rfl, t.1, rfl, h3, fun H2 v s hc => ?_⟩
        exact hk t.1 t.2 fs2 H2 v rfl s hc
  have ne : ∀ {fs : List Fr} {f : Fm} {gs : List Fr}, putF fs f = some gs → fs ≠ [] := fun h e => by rw [e] at h; cases h
  refine ask _ _ ps fs _ rfl hO (ne hp) fun o xs fs2 H2 cv efs s2 hc => ?_
  refine ⟨PutI K H al ps v gs, ⟨_, ps, o, xs, fs2, v, cv, fm, rfl, rfl, by rw [← efs]; exact hO.same s2, by rw [← efs]; exact hsm, dpS s2 hf, by rw [← efs]; exact hp, hc, .same s2, .same s2, List.suffix_rfl⟩, ?_⟩
  rintro m σ H3 ⟨ps1, o, xs, fs1, u, cv, g, rfl, rfl, hO3, hsm3, hg, hp3, hc3, kp3, kt3, hq3⟩
  refine ⟨_, rfl, ?_⟩
  cases ps1 with
  | nil => have := hO3.fr; cases this
  | cons p ps1 =>
  by_cases q : ∃ l h, o = .times l h
  · obtain ⟨l, h, rfl⟩ := q
    obtain ⟨pc, rfl, hpc⟩ := hc3
    refine ⟨_, rfl, iteT ?_⟩
    refine ⟨fun σ' H' => ∃ m', m' < fs1.length ∧ PutI K H al ps v gs m' σ' H', fun σ' H' h => h, ?_⟩
    have hp4 : putF fs1 (.times g l h) = some gs := hp3
    refine ⟨_, rfl, .inl ⟨rfl, _, sL hO3.top⟩, al, _, .ref p.1, rfl, rfl, hO3.top, ?_, ?_⟩
    · rw [List.map_cons, List.reverse_cons]
      simp
    · have hO4 := hO3.pop
      have kp4 := kp3.w (p := al) (o := .lst (((p :: ps1).map fun p => V.ref p.1).reverse.dropLast)) (List.mem_cons_self)
      have kt4 := kt3.trans (Kt.w (o := .lst (((p :: ps1).map fun p => V.ref p.1).reverse.dropLast)) hO3.top)
      have hg4 := fmW (o := .lst (((p :: ps1).map fun p => V.ref p.1).reverse.dropLast)) hO3.top hg
      have hpc4 := sqTW (K := K) (o := .lst (((p :: ps1).map fun p => V.ref p.1).reverse.dropLast)) hO3.top (sT hpc)
      generalize upd H3 al (.lst (((p :: ps1).map fun p => V.ref p.1).reverse.dropLast)) = H4 at hO4 kp4 kt4 hg4 hpc4 ⊢
      refine ⟨_, rfl, _, rfl, pc, _, 0, _, rfl, rfl, hpc4, atI_nat (j := 0) rfl, _, rfl, pc, _, 1, _, rfl, rfl, hpc4, atI_nat (j := 1) rfl, (by show 4 ≤ sizeLine; decide), fun r nr => ?_⟩
      have s5 : Same H4 (upd H4 r (.tup [.str "times", u, .int (l : Int), highV h])) := .new nr
      have hr5 : FmAt K (upd H4 r (.tup [.str "times", u, .int (l : Int), highV h])) (.ref r) (.times g l h) := .tup (sT upd_same) (.cons (.str _) (.cons (dpS s5 hg4) (.cons (.int _) (.cons (highDp h) .nil))))
      generalize upd H4 r (.tup [.str "times", u, .int (l : Int), highV h]) = H5 at s5 hr5 ⊢
      refine ask _ H5 ps1 fs1 _ rfl (hO4.same s5) (ne hp4) fun o2 xs2 fs2 H6 cv2 ef s6 hc6 => ?_
      subst ef
      refine ⟨fs2.length, Nat.lt_succ_self _, ps1, o2, xs2, fs2, .ref r, cv2, .times g l h, rfl, rfl, (hO4.same s5).same s6, ⟨by have := hsm3.1; simp only [List.length_cons] at this ⊢; omega, fun f hf => hsm3.2 f (List.mem_cons_of_mem _ hf)⟩, dpS s6 hr5, hp4, hc6, kp4.trans (.same (s5.trans s6)), kt4.trans (.same (s5.trans s6)), (List.suffix_cons p ps1).trans hq3⟩
  · have ecv : cv = .non := by
      cases o with
      | times l h => exact absurd ⟨l, h, rfl⟩ q
      | _ => exact hc3
    subst ecv
    refine ⟨_, rfl, iteF ?_⟩
    have egs : gs = (o, xs ++ [g]) :: fs1 := by
      cases o with
      | times l h => exact absurd ⟨l, h, rfl⟩ q
      | _ => exact (Option.some.inj hp3).symm
    subst egs
    obtain ⟨h1, h2, h3, ws, h4, h5⟩ := hO3.at_
    have hl := fmsLen h5
    have hlx : xs.length ≤ 1000 := hsm3.2 (o, xs) (by simp)
    refine ⟨_, rfl, _, rfl, al, _, _, _, rfl, rfl, sL hO3.top, h1, p.1, _, 1, _, rfl, rfl, h2, atI_nat (j := 1) rfl, .inl ⟨rfl, _, sL h4⟩, _, rfl, p.2, ws, _, rfl, rfl, h4, szb (by rw [hl]; show xs.length ≤ _; omega), ?_⟩
    have hpm : p.2 ∈ lsS al ps := List.mem_cons_of_mem _ (mem2 (hq3.subset (by simp)))
    exact k _ (p :: ps1) (kp3.w hpm) (kt3.trans (Kt.w h4)) (hO3.grow h4 hg) hq3
end
end Sw
set_option Elab.async false
set_option maxRecDepth 100000
set_option maxHeartbeats 8000000
namespace Sw
open PySem L2 PySem.Spec PyProof.Rows TL
theorem inV2 {s a b : Str} (h1 : s ≠ a) (h2 : s ≠ b) : inV (.str s) [.str a, .str b] = false := by
  unfold inV
  refine List.any_eq_false.mpr fun y hy => ?_
  rcases List.mem_cons.mp hy with rfl | hy
  · simp [eqV]
    exact fun e => h1 e.symm
  · rw [List.mem_singleton.mp hy]
    simp [eqV]
    exact fun e => h2 e.symm
theorem strNe {a b : Str} (h : a ≠ b) : decide (V.str a = V.str b) = false := decide_eq_false fun e => h (V.str.inj e)
theorem op_word {o : Op} (h : o.ok) (ht : o ≠ .top) : o.w ≠ "]" ∧ o.w ≠ ")" ∧ signS o.w = false ∧ o.w.length ≤ 1000 := by
  cases o with
  | top => exact absurd rfl ht
  | row => exact ⟨by decide +kernel, by decide +kernel, by decide +kernel, by decide +kernel⟩
  | pick => exact ⟨by decide +kernel, by decide +kernel, by decide +kernel, by decide +kernel⟩
  | times l u =>
    have g := tw_good h
    unfold twGood at g
    simp only [Bool.and_eq_true, bne_iff_ne, ne_eq, Bool.not_eq_true'] at g
    exact ⟨g.1.1.1.1.1.1.1, g.1.1.1.1.1.1.2, g.1.1.2, by have := of_decide_eq_true g.2; show (tw l u).length ≤ 1000; omega⟩
theorem pairedMem {α β : Type} {F : α → β → Prop} : ∀ {l₁ : List α} {l₂ : List β} {a : α}, Paired F l₁ l₂ → a ∈ l₁ → ∃ b, b ∈ l₂ ∧ F a b
  | _, _, a, .cons r t, h => by
    rcases List.mem_cons.mp h with rfl | h
    · exact ⟨_, by simp, r⟩
    · obtain ⟨b, h1, h2⟩ := pairedMem t h
      exact ⟨b, List.mem_cons_of_mem _ h1, h2⟩
theorem tw_brk {l : Nat} {u : Option Nat} (h : cntOk l u) : tw l u ≠ "[" ∧ tw l u ≠ "(" ∧ tw l u ≠ "" := by
  have g := tw_good h
  unfold twGood at g
  simp only [Bool.and_eq_true, bne_iff_ne, ne_eq, Bool.not_eq_true'] at g
  exact ⟨g.1.1.1.1.1.2, g.1.1.1.1.2, g.1.1.1.2⟩
section
variable {P : Program} {w : World} {K : PySem.W.Frag} {mg : Str → Option Value} {base : Heap}
abbrev n_fits : List Str := ["opened", "word", "opener", "parts"]
theorem sc_fits : FnScope n_fits ["opened", "word"] (defScope s_fits) := ⟨rfl, rfl, rfl, by decide +kernel, rfl, by decide +kernel, by decide +kernel⟩
def spFits (K : PySem.W.Frag) (T : Addr) : Sp := fun vs H Q _ => ∃ al ps fs t, vs = [.ref al, .str (Tk.w t)] ∧ OpAt K H al ps fs ∧ smallF fs ∧ t.ok ∧ fitF fs t = true ∧ H T = some (TabE T) ∧ ∀ H', Same H H' → Q (.bl true) H'
theorem ok_fits {T : Addr} (F : DefAt K mg "_fits" s_fits ["opened", "word"]) (d__counts : DefOk P w K mg base "_counts" 1 ["word"] spCounts) (d_is_sign : DefOk P w K mg base "is_sign" 2 ["thing"] (spIsSign K T)) (b_len : mg "len" = none) (g_MP : ∃ t, mg "MOST_PARTS" = some (.int 8 t)) : DefOk P w K mg base "_fits" 3 ["opened", "word"] (spFits K T) := by
  obtain ⟨tmp, g_MP⟩ := g_MP
  refine F.ok sc_fits (fun vs H Q E h => ?_) (fun f cdv A outer s H vs Q E hr h => ?_)
  · obtain ⟨_, _, _, _, rfl, _⟩ := h
    rfl
  obtain ⟨al, ps, fs, t, rfl, hO, hsm, hok, hfit, hT, k⟩ := h
  cases fs with
  | nil => cases t <;> cases hfit
  | cons fr fs =>
  obtain ⟨o, xs⟩ := fr
  cases ps with
  | nil => have := hO.fr; cases this
  | cons p ps =>
  obtain ⟨h1, h2, h3, ws, h4, h5⟩ := hO.at_
  have hl := fmsLen h5
  have hlx : xs.length ≤ 1000 := hsm.2 (o, xs) (by simp)
  obtain ⟨tb, hb, fb⟩ : ∃ tb, PSs (cxOf CX0 P w K mg base n_fits "_fits" (defScope s_fits) f cdv A outer s H E).nox ((defBody s_fits).drop 4) tb ∧
      ∀ (H1 : Hp), Same H H1 → room ((o, xs) :: fs) = true → tb { nx := fun _ H' => Q .non H', rt := Q } [some (.ref al), some (.str t.w), some (.str o.w), some (.ref p.2)] H1 := by
    refine ⟨_, (pss_one (ps_ret (pe_cmpR op_lt (pe_callB call_len_seq (by rfl) b_len PySem.boot_len (pa_cons (pv 3) pa_nil)) (pe_ifExp (pt_cmpR op_in_seq (pv 2) (pe_tup (pa_cons pe_str (pa_cons pe_str pa_nil))) (by rfl)) (pe_glob (v := .int 8) rfl g_MP ⟨_, rfl⟩) pe_int) (nomark _)))), ?_⟩
    intro H1 s1 hroom
    refine ⟨_, rfl, p.2, ws, rfl, .inl (sL (s1 _ _ h4)), _, rfl, (by show 2 ≤ sizeLine; decide), fun q nq => ?_⟩
    refine ⟨q, _, rfl, .inr (sT upd_same), rfl, rfl, _, rfl, ?_⟩
    have lim : ∀ (n : Int), n = (o.lim : Int) → (rI0 fun i j => V.bl (decide (i < j))) (.int (ws.length : Int)) (.int n) (upd H1 q (.tup [.str "[", .str "("])) Q := fun n en => by
      refine ⟨_, _, rfl, rfl, ?_⟩
      have hr' : xs.length < o.lim := of_decide_eq_true hroom
      dsimp only
      rw [decide_eq_true (by rw [en, hl]; show ((xs.length : Nat) : Int) < _; omega)]
      exact k _ (s1.trans (.new nq))
    cases o with
    | top => exact iteF' (by decide +kernel) (lim 1 rfl)
    | row => exact iteT' (by decide +kernel) (lim 8 rfl)
    | pick => exact iteT' (by decide +kernel) (lim 8 rfl)
    | times l u =>
      obtain ⟨b1, b2, _⟩ := tw_brk h3
      exact iteF' (by show ¬ (inV (.str (tw l u)) [.str "[", .str "("]) = true; rw [inV2 b1 b2]; decide) (lim 1 rfl)
  refine ⟨_, (pss_cons (ps_asg (pe_ix ix_list (pv 0) (pe_un un_neg pe_int) (fun _ _ => rfl)) (pg_tup rfl (pgs_cons (pg_name (i := 2) sc_fits.nd rfl (Or.inl rfl)) (pgs_cons (pg_name (i := 3) sc_fits.nd rfl (Or.inl rfl)) pgs_nil))))
    (pss_cons (ps_if (pt_cmpR op_eq (pv 1) pe_str (nomark _)) (pss_one (ps_ret (pe_cmpR op_eq (pv 2) pe_str (nomark _)))) pss_nil)
    (pss_cons (ps_if (pt_cmpR op_eq (pv 1) pe_str (nomark _)) (pss_one (ps_ret (pe_and (pe_cmpR op_eq (pv 2) pe_str (nomark _)) (pe_one (pe_cmpR op_gt (pe_callB call_len_seq (by rfl) b_len PySem.boot_len (pa_cons (pv 3) pa_nil)) pe_int (nomark _)))))) pss_nil)
    (pss_cons (ps_if (PW.pt (pw_and (pt_cmpR op_notIn_seq (pv 1) (pe_tup (pa_cons pe_str (pa_cons pe_str pa_nil))) (by rfl)) (pw_and (pt_not (pt_val (pe_callD d_is_sign (hr.mono (by decide)) rfl (pa_cons (pv 1) pa_nil)))) (pw_and1 (pt_cmp (pc_isN (pe_callD d__counts (hr.mono (by decide)) rfl (pa_cons (pv 1) pa_nil))) rfl))))) (pss_one (ps_ret pe_bl)) pss_nil) hb)))), ?_⟩
  refine ⟨_, rfl, _, rfl, al, _, _, _, rfl, rfl, sL hO.top, h1, p.1, _, rfl, h2, rfl, _, _, rfl, _, _, rfl, rfl, ?_⟩
  match t, hok, hfit with
  | .cl, _, hfit =>
    have eo : o = .row := by
      cases o with
      | row => rfl
      | pick => cases xs <;> cases hfit
      | _ => cases hfit
    subst eo
    refine ⟨_, rfl, rfl, _, rfl, iteT' (by decide +kernel) ?_⟩
    exact ⟨_, rfl, rfl, by rw [show decide (V.str Op.row.w = V.str "[") = true from by decide +kernel]; exact k _ (.refl _)⟩
  | .cp, _, hfit =>
    obtain ⟨x, xs', rfl, rfl⟩ : ∃ x xs', xs = x :: xs' ∧ o = .pick := by
      cases o with
      | pick =>
        cases xs with
        | nil => cases hfit
        | cons x xs => exact ⟨x, xs, rfl, rfl⟩
      | _ => cases hfit
    refine ⟨_, rfl, rfl, _, rfl, iteF' (by decide +kernel) ?_⟩
    refine ⟨_, rfl, rfl, _, rfl, iteT' (by decide +kernel) ?_⟩
    refine ⟨_, rfl, rfl, ?_⟩
    rw [show decide (V.str Op.pick.w = V.str "(") = true from by decide +kernel]
    refine ⟨_, rfl, iteT ⟨_, rfl, p.2, ws, rfl, .inl (sL h4), _, _, rfl, rfl, ?_⟩⟩
    show Q (.bl (decide ((0 : Int) < (ws.length : Int)))) H
    rw [decide_eq_true (by rw [hl]; simp only [List.length_cons]; omega)]
    exact k _ (.refl _)
  | .sg sg, hok, hfit =>
    rw [fit_sg] at hfit
    have hs : signS sg = true := hok
    obtain ⟨_, q2, q3, q4, q5, q6⟩ := sign_word hs
    refine ⟨_, rfl, rfl, _, rfl, iteF' (by rw [show Tk.w (.sg sg) = sg from rfl, strNe q3]; decide) ?_⟩
    refine ⟨_, rfl, rfl, _, rfl, iteF' (by rw [show Tk.w (.sg sg) = sg from rfl, strNe q4]; decide) ?_⟩
    refine ⟨_, rfl, (by show 2 ≤ sizeLine; decide), fun q nq => ?_⟩
    refine ⟨q, _, rfl, .inr (sT upd_same), rfl, rfl, _, rfl, ?_⟩
    refine iteT' (by show (!inV (.str sg) [.str "[", .str "("]) = true; rw [inV2 q5 q6]; rfl) ?_
    refine ⟨_, rfl, .str sg, .str sg, rfl, .str _, fun t e => by cases e; omega, (Same.new nq) _ _ hT, _, rfl, ?_⟩
    rw [show signD (.str sg) = true from hs]
    exact iteF (iteF (fb _ (.new nq) hfit))
  | .op o2, hok, hfit =>
    rw [fit_op] at hfit
    obtain ⟨q1, q2, q3, q4⟩ := op_word hok.2 hok.1
    refine ⟨_, rfl, rfl, _, rfl, iteF' (by rw [show Tk.w (.op o2) = o2.w from rfl, strNe q1]; decide) ?_⟩
    refine ⟨_, rfl, rfl, _, rfl, iteF' (by rw [show Tk.w (.op o2) = o2.w from rfl, strNe q2]; decide) ?_⟩
    refine ⟨_, rfl, (by show 2 ≤ sizeLine; decide), fun q nq => ?_⟩
    refine ⟨q, _, rfl, .inr (sT upd_same), rfl, rfl, _, rfl, ?_⟩
    match o2, hok with
    | .top, hok => exact absurd rfl hok.1
    | .row, hok => exact iteF' (by decide +kernel) (iteF (fb _ (.new nq) hfit))
    | .pick, hok => exact iteF' (by decide +kernel) (iteF (fb _ (.new nq) hfit))
    | .times l u, hok =>
      obtain ⟨b1, b2, _⟩ := tw_brk hok.2
      refine iteT' (by show (!inV (.str (tw l u)) [.str "[", .str "("]) = true; rw [inV2 b1 b2]; rfl) ?_
      refine ⟨_, rfl, .str _, .str (tw l u), rfl, .str _, fun t e => by cases e; exact q4, (Same.new nq) _ _ hT, _, rfl, ?_⟩
      rw [show signD (.str (tw l u)) = false from q3]
      refine iteT ?_
      refine ⟨_, rfl, .times l u, rfl, hok.2, fun H2 v s2 ⟨pc, ev, hpc⟩ => ?_⟩
      subst ev
      exact ⟨_, rfl, iteF (fb _ (Same.trans (.new nq) s2) hfit)⟩
abbrev n_take : List Str := ["opened", "word", "_", "parts"]
theorem sc_take : FnScope n_take ["opened", "word"] (defScope s_take) := ⟨rfl, rfl, rfl, by decide +kernel, rfl, by decide +kernel, by decide +kernel⟩
def spTake (K : PySem.W.Frag) (T : Addr) : Sp := fun vs H Q _ => ∃ al ps fs gs t, vs = [.ref al, .str (Tk.w t)] ∧ OpAt K H al ps fs ∧ smallF fs ∧ t.ok ∧ takeF fs t = some gs ∧ H T = some (TabE T) ∧
  ∀ H' qs, Kp (lsS al ps) H H' → Kt H H' → OpAt K H' al qs gs → (qs <:+ ps ∨ ∃ q, qs = q :: ps ∧ H q.2 = none) → Q .non H'
theorem ok_take {T : Addr} (F : DefAt K mg "_take" s_take ["opened", "word"]) (d__put : DefOk P w K mg base "_put" 2 ["opened", "form"] (spPut K)) (d_is_sign : DefOk P w K mg base "is_sign" 2 ["thing"] (spIsSign K T)) (b_tuple : mg "tuple" = none) : DefOk P w K mg base "_take" 3 ["opened", "word"] (spTake K T) := by
  refine F.ok sc_take (fun vs H Q E h => ?_) (fun f cdv A outer s H vs Q E hr h => ?_)
  · obtain ⟨_, _, _, _, _, rfl, _⟩ := h
    rfl
  obtain ⟨al, ps, fs, gs, t, rfl, hO, hsm, hok, htk, hT, k⟩ := h
  refine ⟨_, (pss_one (ps_if (pt_cmpR op_eq (pv 1) pe_str (nomark _)) (pss_cons (ps_asg (pe_bm0 PySem.F.plainAttrs_list PySem.F.slot_list_pop PySem.F.type_list_pop mt_pop (pv 0)) (pg_tup rfl (pgs_cons (pg_name (i := 2) sc_take.nd rfl (Or.inl rfl)) (pgs_cons (pg_name (i := 3) sc_take.nd rfl (Or.inl rfl)) pgs_nil))))
    (pss_one (ps_expr (pe_callD d__put (hr.mono (by decide)) rfl (pa_cons (pv 0) (pa_cons (pe_tup (pa_cons pe_str (pa_cons (pe_callTy call_tuple_of (by rfl) b_tuple (by decide +kernel) (pa_cons (pv 3) pa_nil)) pa_nil))) pa_nil)))))) (pss_one (ps_if (pt_cmpR op_eq (pv 1) pe_str (nomark _)) (pss_cons (ps_asg (pe_bm0 PySem.F.plainAttrs_list PySem.F.slot_list_pop PySem.F.type_list_pop mt_pop (pv 0)) (pg_tup rfl (pgs_cons (pg_name (i := 2) sc_take.nd rfl (Or.inl rfl)) (pgs_cons (pg_name (i := 3) sc_take.nd rfl (Or.inl rfl)) pgs_nil))))
    (pss_one (ps_expr (pe_callD d__put (hr.mono (by decide)) rfl (pa_cons (pv 0) (pa_cons (pe_tup (pa_cons pe_str (pa_cons (pe_callTy call_tuple_of (by rfl) b_tuple (by decide +kernel) (pa_cons (pv 3) pa_nil)) pa_nil))) pa_nil)))))) (pss_one (ps_if (pt_val (pe_callD d_is_sign (hr.mono (by decide)) rfl (pa_cons (pv 1) pa_nil))) (pss_one (ps_expr (pe_callD d__put (hr.mono (by decide)) rfl (pa_cons (pv 0) (pa_cons (pe_tup (pa_cons pe_str (pa_cons (pv 1) pa_nil))) pa_nil))))) (pss_one (ps_expr (pe_bm PySem.F.plainAttrs_list PySem.F.slot_list_append PySem.F.type_list_append mt_append (pv 0) (pa_cons (pe_tup (pa_cons (pv 1) (pa_cons (pe_lst pa_nil) pa_nil))) pa_nil)))))))))), ?_⟩
  -- what is closed
  have close : ∀ (kd : Str) (mk : List Fm → Fm), (∀ xs, (mk xs).dat = .tuple [.str kd, .tuple (Fm.dats xs)]) → (∀ o xs fs2, fs = (o, xs) :: fs2 → putF fs2 (mk xs) = some gs) → fs ≠ [] → ∀ (σ : L2.St), σ = [some (.ref al), some (.str t.w), none, none] →
      tSeq (tAsg (tBM0 K "list" rPop (tVar 0)) (gTup K 2 (gCons (gName 2) (gCons (gName 3) gNil)))) (tDrop (tCall (spPut K) [] E0 (tCons (tVar 0) (tCons (tTup (tCons (tC (.str kd)) (tCons (tCB (fun xs H Q => ∃ p ys, xs = [V.ref p] ∧ ((SqL K H p ys ∧ ∀ (l : Addr), H l = none → Q (V.ref l) (upd H l (HO.tup ys))) ∨ SqT K H p ys ∧ Q (V.ref p) H)) (tCons (tVar 3) tNil)) tNil))) tNil)))) { nx := fun _ H' => Q .non H', rt := Q } σ H := by
    rintro kd mk hmk hput hne σ rfl
    cases fs with
    | nil => exact absurd rfl hne
    | cons fr fs =>
    obtain ⟨o, xs⟩ := fr
    cases ps with
    | nil => have := hO.fr; cases this
    | cons p ps =>
    obtain ⟨h1, h2, h3, ws, h4, h5⟩ := hO.at_
    have hl := fmsLen h5
    have hlx : xs.length ≤ 1000 := hsm.2 (o, xs) (by simp)
    have npal : p.2 ≠ al := fun e => hO.nd.1 (by rw [← e]; exact mem2 (by simp))
    refine ⟨_, rfl, .inl ⟨rfl, _, sL hO.top⟩, al, _, .ref p.1, rfl, rfl, hO.top, ?_, ?_⟩
    · rw [List.map_cons, List.reverse_cons]
      simp
    · have hO4 := hO.pop
      have kp4 : Kp (lsS al (p :: ps)) H _ := (Kp.same (.refl H)).w (p := al) (o := .lst (((p :: ps).map fun p => V.ref p.1).reverse.dropLast)) (List.mem_cons_self)
      have kt4 : Kt H _ := Kt.w (o := .lst (((p :: ps).map fun p => V.ref p.1).reverse.dropLast)) hO.top
      have h24 := sqTW (K := K) (o := .lst (((p :: ps).map fun p => V.ref p.1).reverse.dropLast)) hO.top h2
      have h44 : (upd H al (.lst (((p :: ps).map fun p => V.ref p.1).reverse.dropLast))) p.2 = some (.lst ws) := by rw [upd_ne npal]; exact h4
      have h54 := fmsW' (o := .lst (((p :: ps).map fun p => V.ref p.1).reverse.dropLast)) hO.top h5
      generalize upd H al (.lst (((p :: ps).map fun p => V.ref p.1).reverse.dropLast)) = H4 at hO4 kp4 kt4 h24 h44 h54 ⊢
      refine ⟨p.1, _, rfl, h24, rfl, _, _, rfl, _, _, rfl, rfl, ?_⟩
      refine ⟨_, rfl, _, rfl, p.2, ws, rfl, .inl ⟨sL h44, fun l nl => ⟨(by show 2 ≤ sizeLine; decide), fun r nr => ?_⟩⟩⟩
      have s5 : Same H4 (upd H4 l (.tup ws)) := .new nl
      have s6 : Same (upd H4 l (.tup ws)) (upd (upd H4 l (.tup ws)) r (.tup [.str kd, .ref l])) := .new nr
      have hr : FmAt K (upd (upd H4 l (.tup ws)) r (.tup [.str kd, .ref l])) (.ref r) (mk xs) := by
        unfold FmAt
        rw [hmk]
        exact .tup (sT upd_same) (.cons (.str _) (.cons (.tup (sT (s6 _ _ upd_same)) (dpsS (s5.trans s6) h54)) .nil))
      have s56 := s5.trans s6
      generalize upd (upd H4 l (.tup ws)) r (.tup [.str kd, .ref l]) = H6 at s56 hr ⊢
      refine ⟨al, .ref r, ps, fs, gs, mk xs, rfl, hO4.same s56, ⟨by have := hsm.1; simp only [List.length_cons] at this; omega, fun f hf => hsm.2 f (List.mem_cons_of_mem _ hf)⟩, hr, hput o xs fs rfl, fun H7 qs kp kt hO7 hq => ?_⟩
      refine k H7 qs (kp4.trans ((Kp.same s56).trans (kp.sub fun x hx => ?_))) (kt4.trans ((Kt.same s56).trans kt)) hO7 (.inl (hq.trans (List.suffix_cons p ps)))
      rcases List.mem_cons.mp hx with rfl | hx
      · exact List.mem_cons_self
      · exact List.mem_cons_of_mem _ (List.mem_cons_of_mem _ hx)
  match t, hok, htk with
  | .cl, _, htk =>
    refine ⟨_, rfl, rfl, _, rfl, iteT' (by decide +kernel) ?_⟩
    exact close "row" .row (fun xs => rfl) (fun o xs fs2 e => by subst e; exact htk) (fun e => by subst e; cases htk) _ rfl
  | .cp, _, htk =>
    refine ⟨_, rfl, rfl, _, rfl, iteF' (by decide +kernel) ?_⟩
    refine ⟨_, rfl, rfl, _, rfl, iteT' (by decide +kernel) ?_⟩
    exact close "pick" .pick (fun xs => rfl) (fun o xs fs2 e => by subst e; exact htk) (fun e => by subst e; cases htk) _ rfl
  | .sg sg, hok, htk =>
    rw [take_sg] at htk
    have hs : signS sg = true := hok
    obtain ⟨_, q2, q3, q4, q5, q6⟩ := sign_word hs
    refine ⟨_, rfl, rfl, _, rfl, iteF' (by rw [show Tk.w (.sg sg) = sg from rfl, strNe q3]; decide) ?_⟩
    refine ⟨_, rfl, rfl, _, rfl, iteF' (by rw [show Tk.w (.sg sg) = sg from rfl, strNe q4]; decide) ?_⟩
    refine ⟨_, rfl, .str sg, .str sg, rfl, .str _, fun t e => by cases e; omega, hT, _, rfl, ?_⟩
    rw [show signD (.str sg) = true from hs]
    refine iteT ?_
    refine ⟨_, rfl, _, rfl, (by show 2 ≤ sizeLine; decide), fun r nr => ?_⟩
    have s5 : Same H (upd H r (.tup [.str "sign", .str sg])) := .new nr
    refine ⟨al, .ref r, ps, fs, gs, .sign sg, rfl, hO.same s5, hsm, sign_at upd_same, htk, fun H7 qs kp kt hO7 hq => ?_⟩
    exact k H7 qs ((Kp.same s5).trans kp) ((Kt.same s5).trans kt) hO7 (.inl hq)
  | .op o2, hok, htk =>
    rw [take_op] at htk
    cases htk
    obtain ⟨q1, q2, q3, q4⟩ := op_word hok.2 hok.1
    refine ⟨_, rfl, rfl, _, rfl, iteF' (by rw [show Tk.w (.op o2) = o2.w from rfl, strNe q1]; decide) ?_⟩
    refine ⟨_, rfl, rfl, _, rfl, iteF' (by rw [show Tk.w (.op o2) = o2.w from rfl, strNe q2]; decide) ?_⟩
    refine ⟨_, rfl, .str _, .str o2.w, rfl, .str _, fun t e => by cases e; exact q4, hT, _, rfl, ?_⟩
    rw [show signD (.str o2.w) = false from q3]
    refine iteF ?_
    refine ⟨_, rfl, .inl ⟨rfl, _, sL hO.top⟩, _, rfl, (by show 0 ≤ sizeLine; decide), fun l nl => ⟨(by show 2 ≤ sizeLine; decide), fun r nr => ?_⟩⟩
    have s5 : Same H (upd H l (.lst [])) := .new nl
    have s6 : Same (upd H l (.lst [])) (upd (upd H l (.lst [])) r (.tup [.str (Tk.w (.op o2)), .ref l])) := .new nr
    have hr6 : (upd (upd H l (.lst [])) r (.tup [.str (Tk.w (.op o2)), .ref l])) r = some (.tup [.str (Tk.w (.op o2)), .ref l]) := upd_same
    have hl6 : (upd (upd H l (.lst [])) r (.tup [.str (Tk.w (.op o2)), .ref l])) l = some (.lst []) := s6 _ _ upd_same
    have hO6 := (hO.same s5).same s6
    have nl1 : l ≠ al := (ne_of_none hO.top nl).symm
    have nl2 : l ∉ ps.map (·.2) := fun h => by
      obtain ⟨p, hp, e⟩ := List.mem_map.mp h
      obtain ⟨b, _, _, _, ws, hws, _⟩ := pairedMem hO.fr hp
      rw [e, nl] at hws
      cases hws
    have s56 := s5.trans s6
    generalize upd (upd H l (.lst [])) r (.tup [.str (Tk.w (.op o2)), .ref l]) = H6 at s56 hr6 hl6 hO6 ⊢
    have hpl : ps.length = fs.length := Paired.length hO.fr
    refine ⟨al, _, _, rfl, rfl, hO6.top, szb (by rw [List.length_reverse, List.length_map, hpl]; have := hsm.1; omega), ?_⟩
    refine k _ ((r, l) :: ps) (((Kp.same s56)).w List.mem_cons_self) ((Kt.same s56).trans (Kt.w hO6.top)) (hO6.push hok.2 hr6 hl6 nl1 nl2) (.inr ⟨_, rfl, nl⟩)
end
end Sw
set_option Elab.async false
set_option maxRecDepth 100000
set_option maxHeartbeats 8000000
namespace Sw
open PySem L2 PySem.Spec PyProof.Rows
/-! ### forms are told apart by their data -/
def kdD : PyData → Option Str
  | .tuple (.str s :: _) => some s
  | _ => none
theorem kdFm (f : Fm) : kdD f.dat = some f.kind := by cases f <;> rfl
theorem kdNe {f g : Fm} (h : f.dat = g.dat) : f.kind = g.kind := by
  have := congrArg kdD h
  rw [kdFm, kdFm] at this
  exact Option.some.inj this
theorem highInj : ∀ {u v : Option Nat}, highD u = highD v → u = v
  | none, none, _ => rfl
  | none, some _, h => by cases h
  | some _, none, h => by cases h
  | some a, some b, h => by
    have : ((a : Nat) : Int) = ((b : Nat) : Int) := PyData.int.inj h
    rw [Int.ofNat_inj.mp this]
mutual
theorem fmInj : ∀ f g : Fm, f.dat = g.dat → f = g
  | .sign s, .sign t, h => by simp only [Fm.dat, PyData.tuple.injEq, List.cons.injEq, PyData.str.injEq, true_and, and_true] at h; rw [h]
  | .row ps, .row qs, h => by simp only [Fm.dat, PyData.tuple.injEq, List.cons.injEq, true_and, and_true] at h; rw [fmsInj ps qs h]
  | .pick ps, .pick qs, h => by simp only [Fm.dat, PyData.tuple.injEq, List.cons.injEq, true_and, and_true] at h; rw [fmsInj ps qs h]
  | .times p l u, .times q m v, h => by
    simp only [Fm.dat, PyData.tuple.injEq, List.cons.injEq, true_and, and_true, PyData.int.injEq] at h
    obtain ⟨h1, h2, h3⟩ := h
    rw [fmInj p q h1, Int.ofNat_inj.mp h2, highInj h3]
  | .sign s, .row ps, h => absurd (kdNe h) (show ¬ (Str.ofString "sign" = Str.ofString "row") by decide +kernel)
  | .sign s, .pick ps, h => absurd (kdNe h) (show ¬ (Str.ofString "sign" = Str.ofString "pick") by decide +kernel)
  | .sign s, .times _ _ _, h => absurd (kdNe h) (show ¬ (Str.ofString "sign" = Str.ofString "times") by decide +kernel)
  | .row s, .sign ps, h => absurd (kdNe h) (show ¬ (Str.ofString "row" = Str.ofString "sign") by decide +kernel)
  | .row s, .pick ps, h => absurd (kdNe h) (show ¬ (Str.ofString "row" = Str.ofString "pick") by decide +kernel)
  | .row s, .times _ _ _, h => absurd (kdNe h) (show ¬ (Str.ofString "row" = Str.ofString "times") by decide +kernel)
  | .pick s, .sign ps, h => absurd (kdNe h) (show ¬ (Str.ofString "pick" = Str.ofString "sign") by decide +kernel)
  | .pick s, .row ps, h => absurd (kdNe h) (show ¬ (Str.ofString "pick" = Str.ofString "row") by decide +kernel)
  | .pick s, .times _ _ _, h => absurd (kdNe h) (show ¬ (Str.ofString "pick" = Str.ofString "times") by decide +kernel)
  | .times _ _ _, .sign ps, h => absurd (kdNe h) (show ¬ (Str.ofString "times" = Str.ofString "sign") by decide +kernel)
  | .times _ _ _, .row ps, h => absurd (kdNe h) (show ¬ (Str.ofString "times" = Str.ofString "row") by decide +kernel)
  | .times _ _ _, .pick _, h => absurd (kdNe h) (show ¬ (Str.ofString "times" = Str.ofString "pick") by decide +kernel)
theorem fmsInj : ∀ ps qs : List Fm, Fm.dats ps = Fm.dats qs → ps = qs
  | [], [], _ => rfl
  | [], q :: qs, h => by cases h
  | p :: ps, [], h => by cases h
  | p :: ps, q :: qs, h => by
    simp only [Fm.dats, List.cons.injEq] at h
    rw [fmInj p q h.1, fmsInj ps qs h.2]
end
theorem signS_ok {t : Str} (h : signS t = true) : PyData.strOk t = true := by
  unfold signS at h
  rw [Bool.and_eq_true] at h
  have h2 := h.2
  unfold PyData.strOk
  rw [← Array.all_toList]
  refine List.all_eq_true.mpr fun c hc => decide_eq_true ?_
  have := List.all_eq_true.mp h2 c hc
  unfold letter at this
  rw [Bool.and_eq_true] at this
  have := of_decide_eq_true this.2
  omega
theorem signS_len {t : Str} (h : signS t = true) : t.length ≤ 6 := by
  unfold signS at h
  rw [Bool.and_eq_true, Bool.and_eq_true] at h
  exact of_decide_eq_true h.1.2
mutual
theorem prOk : ∀ f : Fm, f.pr = true → f.okB = true ∧ bdD f.dat = true
  | .sign s, h => by
    have h : signS s = true := h
    have e : bdD (.str "sign") = true := by decide +kernel
    have e2 : bdD (.str s) = true := by rw [bdD]; exact decide_eq_true (by have := signS_len h; omega)
    exact ⟨signS_ok h, by simp [Fm.dat, bdD, bdDs, e2] at e ⊢; exact ⟨e, by have := signS_len h; omega⟩⟩
  | .row ps, h => by
    rw [Fm.pr, Bool.and_eq_true] at h
    obtain ⟨h1, h2⟩ := prsOk ps h.2
    have hl := of_decide_eq_true h.1
    have e : bdD (.str "row") = true := by decide +kernel
    refine ⟨h1, ?_⟩
    rw [Fm.dat, bdD, bdDs, bdDs, bdDs, e, bdD, h2, Fm.dats_map, List.length_map, decide_eq_true (show ps.length ≤ 10000 by omega)]
    rfl
  | .pick ps, h => by
    rw [Fm.pr, Bool.and_eq_true, Bool.and_eq_true] at h
    obtain ⟨h1, h2⟩ := prsOk ps h.2
    have hl := of_decide_eq_true h.1.2
    have e : bdD (.str "pick") = true := by decide +kernel
    refine ⟨h1, ?_⟩
    rw [Fm.dat, bdD, bdDs, bdDs, bdDs, e, bdD, h2, Fm.dats_map, List.length_map, decide_eq_true (show ps.length ≤ 10000 by omega)]
    rfl
  | .times p l u, h => by
    rw [Fm.pr, Bool.and_eq_true] at h
    obtain ⟨h1, h2⟩ := prOk p h.2
    have e : bdD (.str "times") = true := by decide +kernel
    have e2 : bdD (highD u) = true := by cases u <;> rfl
    refine ⟨h1, ?_⟩
    rw [Fm.dat, bdD, bdDs, bdDs, bdDs, bdDs, bdDs, e, h2, e2]
    rfl
theorem prsOk : ∀ ps : List Fm, Fm.prs ps = true → Fm.oksB ps = true ∧ bdDs (Fm.dats ps) = true
  | [], _ => ⟨rfl, rfl⟩
  | p :: ps, h => by
    rw [Fm.prs, Bool.and_eq_true] at h
    obtain ⟨h1, h2⟩ := prOk p h.1
    obtain ⟨h3, h4⟩ := prsOk ps h.2
    refine ⟨by rw [Fm.oksB, h1, h3]; rfl, by rw [Fm.dats, bdDs, h2, h4]; rfl⟩
end
theorem But.sameF' {p : Addr} {H H1 H2 : Hp} (b : But p H1 H2) (s : Same H H1) (h : H p = none) : Same H H2 := fun x o e => b x o (s x o e) (ne_of_none e h)
end Sw
set_option Elab.async false
set_option maxRecDepth 100000
set_option maxHeartbeats 8000000
namespace Sw
open PySem L2 PySem.Spec PyProof.Rows TL
theorem ps_no {X : Cx} {st : Stmt} : PS X st (fun _ _ _ => False) := ⟨fun _ _ _ _ _ _ h => h.elim⟩
/-! ### bounds that a run keeps -/
def Bd (n m : Nat) (fs : List Fr) : Prop := fs.length ≤ n ∧ ∀ f, f ∈ fs → f.2.length ≤ m
theorem put_bd : ∀ {fs gs : List Fr} {f : Fm} {n m : Nat}, putF fs f = some gs → Bd n m fs → Bd n (m + 1) gs
  | [], _, _, _, _, h, _ => by cases h
  | (.times l u, _) :: fs, gs, f, n, m, h, b => put_bd (fs := fs) h ⟨by have := b.1; simp only [List.length_cons] at this; omega, fun g hg => b.2 g (List.mem_cons_of_mem _ hg)⟩
  | (.top, xs) :: fs, gs, f, n, m, h, b => by
    cases h
    refine ⟨by have := b.1; simpa using this, fun g hg => ?_⟩
    rcases List.mem_cons.mp hg with rfl | hg
    · have := b.2 (.top, xs) (by simp); simp only [List.length_append, List.length_singleton]; dsimp only at this; omega
    · have := b.2 g (List.mem_cons_of_mem _ hg); omega
  | (.row, xs) :: fs, gs, f, n, m, h, b => by
    cases h
    refine ⟨by have := b.1; simpa using this, fun g hg => ?_⟩
    rcases List.mem_cons.mp hg with rfl | hg
    · have := b.2 (.row, xs) (by simp); simp only [List.length_append, List.length_singleton]; dsimp only at this; omega
    · have := b.2 g (List.mem_cons_of_mem _ hg); omega
  | (.pick, xs) :: fs, gs, f, n, m, h, b => by
    cases h
    refine ⟨by have := b.1; simpa using this, fun g hg => ?_⟩
    rcases List.mem_cons.mp hg with rfl | hg
    · have := b.2 (.pick, xs) (by simp); simp only [List.length_append, List.length_singleton]; dsimp only at this; omega
    · have := b.2 g (List.mem_cons_of_mem _ hg); omega
theorem Bd.up {n m n' m' : Nat} {fs : List Fr} (b : Bd n m fs) (h1 : n ≤ n') (h2 : m ≤ m') : Bd n' m' fs := ⟨by have := b.1; omega, fun f hf => by have := b.2 f hf; omega⟩
theorem Bd.tl {n m : Nat} {f : Fr} {fs : List Fr} (b : Bd n m (f :: fs)) : Bd n m fs := ⟨by have := b.1; simp only [List.length_cons] at this; omega, fun g hg => b.2 g (List.mem_cons_of_mem _ hg)⟩
theorem take_bd {fs gs : List Fr} {t : Tk} {n m : Nat} (h : takeF fs t = some gs) (b : Bd n m fs) : Bd (n + 1) (m + 1) gs := by
  cases t with
  | sg s => rw [take_sg] at h; exact (put_bd h b).up (by omega) (Nat.le_refl _)
  | op o =>
    rw [take_op] at h
    cases h
    refine ⟨by have := b.1; simp only [List.length_cons]; omega, fun g hg => ?_⟩
    rcases List.mem_cons.mp hg with rfl | hg
    · exact Nat.zero_le _
    · have := b.2 g hg; omega
  | cl =>
    cases fs with
    | nil => cases h
    | cons fr fs => exact (put_bd (fs := fs) h b.tl).up (by omega) (Nat.le_refl _)
  | cp =>
    cases fs with
    | nil => cases h
    | cons fr fs => exact (put_bd (fs := fs) h b.tl).up (by omega) (Nat.le_refl _)
theorem run_inv {fs gs : List Fr} {t : Tk} {ts : List Tk} (h : runF fs (t :: ts) = some gs) : fitF fs t = true ∧ ∃ hs, takeF fs t = some hs ∧ runF hs ts = some gs := by
  rw [runF] at h
  by_cases q : fitF fs t = true
  · rw [if_pos q] at h
    cases e : takeF fs t with
    | none => rw [e] at h; cases h
    | some hs => rw [e] at h; exact ⟨q, hs, rfl, h⟩
  · rw [if_neg q] at h; cases h
def LastP (ps : List (Addr × Addr)) (p : Addr × Addr) : Prop := ∃ pre, ps = pre ++ [p]
theorem LastP.suf {ps qs : List (Addr × Addr)} {p : Addr × Addr} (h : LastP ps p) (s : qs <:+ ps) (n : qs ≠ []) : LastP qs p := by
  obtain ⟨pre, rfl⟩ := h
  obtain ⟨t, ht⟩ := s
  obtain ⟨r, b, rfl⟩ : ∃ r b, qs = r ++ [b] := ⟨qs.dropLast, qs.getLast n, (List.dropLast_concat_getLast n).symm⟩
  rw [← List.append_assoc] at ht
  obtain ⟨_, e⟩ := List.append_inj' ht rfl
  cases e
  exact ⟨r, rfl⟩
section
variable {P : Program} {w : World} {K : PySem.W.Frag} {mg : Str → Option Value} {base : Heap}
/-- a form within the bounds -/
structure Fit (f : Fm) : Prop where
  pr : f.pr = true
  size : f.size ≤ 60
  dp : f.dp ≤ 12
  nst : f.nst ≤ 3
  sg : (nubL (sgF f)).length ≤ 6
abbrev n_read_form : List Str := ["text", "words", "whole", "opened", "at", "word"]
theorem sc_read_form : FnScope n_read_form ["text"] (defScope s_read_form) := ⟨rfl, rfl, rfl, by decide +kernel, rfl, by decide +kernel, by decide +kernel⟩
def spRead (K : PySem.W.Frag) (T : Addr) : Sp := fun vs H Q _ => ∃ f, vs = [.str (Txt.join " " f.wd)] ∧ Fit f ∧ H T = some (TabE T) ∧ ∀ H' v, Same H H' → FmAt K H' v f → Q v H'
theorem join_len (f : Fm) (h : f.pr = true) (hs : f.size ≤ 60) : (Txt.join " " f.wd).length + 2 ≤ sizeLine := by
  have key : ∀ l : List Str, (joinL (tl " ") (l.map tl)).length ≤ (l.map (·.length)).sum + l.length * 1 := by
    intro l
    induction l with
    | nil => simp [joinL]
    | cons x l ih =>
      cases l with
      | nil => simp [joinL, Str.length]
      | cons y l =>
        have e : joinL (tl " ") ((x :: y :: l).map tl) = tl x ++ (tl " " ++ joinL (tl " ") ((y :: l).map tl)) := rfl
        rw [e, List.length_append, List.length_append]
        have e1 : (tl " ").length = 1 := by decide +kernel
        have e2 : (tl x).length = x.length := (len_tl x).symm
        simp only [List.map_cons, List.sum_cons, List.length_cons] at ih ⊢
        omega
  have h1 := key f.wd
  have h2 := wd_sum h
  have h3 : (Txt.join " " f.wd).length = (joinL (tl " ") (f.wd.map tl)).length := by rw [len_tl, join_eq, tl_join]
  exact szl (by omega)
theorem ok_read_form {T : Addr} (F : DefAt K mg "read_form" s_read_form ["text"]) (d__fits : DefOk P w K mg base "_fits" 3 ["opened", "word"] (spFits K T)) (d__take : DefOk P w K mg base "_take" 3 ["opened", "word"] (spTake K T))
    (d_is_form : DefOk P w K mg base "is_form" 4 ["thing"] (spIsForm K T)) (b_enumerate : mg "enumerate" = none) : DefOk P w K mg base "read_form" 5 ["text"] (spRead K T) := by
  refine F.ok sc_read_form (fun vs H Q E h => ?_) (fun f cdv A outer s H vs Q E hr h => ?_)
  · obtain ⟨_, rfl, _⟩ := h
    rfl
  obtain ⟨fm, rfl, hfit, hT, k⟩ := h
  refine ⟨_, (pss_cons (ps_set (i := 1) sc_read_form.nd rfl (Or.inl rfl) (pe_split (pv 0) pe_str))
    (pss_cons (ps_set (i := 2) sc_read_form.nd rfl (Or.inl rfl) (pe_lst pa_nil))
    (pss_cons (ps_set (i := 3) sc_read_form.nd rfl (Or.inl rfl) (pe_lst (pa_cons (pe_tup (pa_cons pe_str (pa_cons (pv 2) pa_nil))) pa_nil)))
    (pss_cons (ps_for PassesOwn.never rfl (pi_enum (by rfl) b_enumerate (pa_cons (pv 1) pa_nil)) (pg_tup rfl (pgs_cons (pg_name (i := 4) sc_read_form.nd rfl (Or.inl rfl)) (pgs_cons (pg_name (i := 5) sc_read_form.nd rfl (Or.inl rfl)) pgs_nil)))
      (pss_cons (ps_if (pt_not (pt_val (pe_callD d__fits (hr.mono (by decide)) rfl (pa_cons (pv 3) (pa_cons (pv 5) pa_nil))))) (pss_one ps_no) pss_nil)
    (pss_one (ps_expr (pe_callD d__take (hr.mono (by decide)) rfl (pa_cons (pv 3) (pa_cons (pv 5) pa_nil)))))))
    (pss_cons (ps_if (PW.pt (pw_or (pt_not (pt_truth (pv 2) (by intro _; rfl))) (pw_or1 (pt_not (pt_val (pe_callD d_is_form (hr.mono (by decide)) rfl (pa_cons (pe_ix ix_list (pv 2) pe_int (fun _ _ => rfl)) pa_nil))))))) (pss_one ps_no) pss_nil)
    (pss_one (ps_ret (pe_ix ix_list (pv 2) pe_int (fun _ _ => rfl))))))))), ?_⟩
  refine ⟨_, rfl, ⟨_, rfl⟩, _, _, rfl, rfl, by decide +kernel, join_len fm hfit.pr hfit.size, ?_⟩
  rw [wd_split hfit.pr]
  intro aw naw
  refine ⟨(by show 0 ≤ sizeLine; decide), fun wl nwl => ⟨_, rfl, (by show 2 ≤ sizeLine; decide), fun tp ntp => ⟨(by show 1 ≤ sizeLine; decide), fun al nal => ?_⟩⟩⟩
  have s1 : Same H (upd H aw (.lst (fm.wd.map V.str))) := .new naw
  have e1 : (upd H aw (.lst (fm.wd.map V.str))) aw = some (.lst (fm.wd.map V.str)) := upd_same
  generalize upd H aw (.lst (fm.wd.map V.str)) = H1 at s1 e1 nwl ntp nal ⊢
  have s2 : Same H1 (upd H1 wl (.lst [])) := .new nwl
  have e2 : (upd H1 wl (.lst [])) wl = some (.lst []) := upd_same
  generalize upd H1 wl (.lst []) = H2 at s2 e2 ntp nal ⊢
  have s3 : Same H2 (upd H2 tp (.tup [.str "", .ref wl])) := .new ntp
  have e3 : (upd H2 tp (.tup [.str "", .ref wl])) tp = some (.tup [.str "", .ref wl]) := upd_same
  generalize upd H2 tp (.tup [.str "", .ref wl]) = H3 at s3 e3 nal ⊢
  have s4 : Same H3 (upd H3 al (.lst [.ref tp])) := .new nal
  have e4 : (upd H3 al (.lst [.ref tp])) al = some (.lst [.ref tp]) := upd_same
  generalize upd H3 al (.lst [.ref tp]) = H4 at s4 e4 ⊢
  have nalwl : al ≠ wl := fun e => by rw [e, s3 _ _ e2] at nal; cases nal
  have s14 : Same H1 H4 := s2.trans (s3.trans s4)
  have s04 := s1.trans s14
  have fal : H1 al = none := freeB (s2.trans s3) nal
  have O4 : OpAt K H4 al [(tp, wl)] [(.top, [])] := ⟨e4, .cons ⟨sT (s4 _ _ e3), trivial, [], s4 _ _ (s3 _ _ e2), .nil⟩ .nil, by simpa using nalwl, by simp⟩
  refine ⟨_, rfl, aw, _, rfl, sL (s14 _ _ e1), ?_⟩
  have hrun : runF [(.top, [])] fm.tk = some [(.top, [fm])] := run_fm fm _ _ hfit.pr rfl rfl
  have htl := tk_len fm
  refine for_enum (K := K) (a := aw) (xs := fm.wd.map V.str) (fun i σ H' => ∃ (ps : List (Addr × Addr)) (fs : List Fr) (o4 o5 : Option V), σ = [some (.str (Txt.join " " fm.wd)), some (.ref aw), some (.ref wl), some (.ref al), o4, o5] ∧ Same H1 H' ∧ OpAt K H' al ps fs ∧ runF fs (fm.tk.drop i) = some [(.top, [fm])] ∧ Bd (1 + i) i fs ∧ LastP ps (tp, wl) ∧ ∀ x, x ∈ lsS al ps → H1 x = none)
    ⟨_, _, none, none, rfl, s14, O4, hrun, ⟨by simp, fun f hf => by rw [List.mem_singleton.mp hf]; exact Nat.le_refl _⟩, ⟨[], rfl⟩, fun x hx => ?_⟩ (fun i σ H' _ ⟨_, _, _, _, _, s, _⟩ => sL (s _ _ e1)) ?_ ?_
  · rcases List.mem_cons.mp hx with rfl | hx
    · exact fal
    · rw [List.map_cons, List.map_nil, List.mem_singleton] at hx
      rw [hx]
      exact nwl
  · rintro i x tt σ H5 hx ⟨ps, fs, o4, o5, rfl, s5, O5, hr5, hb5, hl5, hf5⟩ ntt
    rw [List.getElem?_map] at hx
    obtain ⟨wd, hwd, rfl⟩ := Option.map_eq_some_iff.mp hx
    unfold Fm.wd at hwd
    rw [List.getElem?_map] at hwd
    obtain ⟨t, ht, rfl⟩ := Option.map_eq_some_iff.mp hwd
    have hi := (List.getElem?_eq_some_iff.mp ht).1
    have hd : fm.tk.drop i = t :: fm.tk.drop (i + 1) := by
      rw [List.drop_eq_getElem_cons hi]
      rw [List.getElem?_eq_getElem hi] at ht
      rw [Option.some.inj ht]
    rw [hd] at hr5
    obtain ⟨q1, hs, q2, q3⟩ := run_inv hr5
    have hok := tk_ok fm hfit.pr t (List.mem_of_getElem? ht)
    have hsm : smallF fs := ⟨by have := hb5.1; have := hfit.size; omega, fun g hg => by have := hb5.2 g hg; have := hfit.size; omega⟩
    have s6 : Same H5 (upd H5 tt (.tup [.int (i : Nat), .str (Tk.w t)])) := .new ntt
    refine ⟨tt, _, rfl, sT upd_same, rfl, _, _, rfl, _, _, rfl, rfl, ?_⟩
    generalize upd H5 tt (.tup [.int (i : Nat), .str (Tk.w t)]) = H6 at s6 ⊢
    have O6 := O5.same s6
    have hT6 : H6 T = some (TabE T) := (s1.trans (s5.trans s6)) _ _ hT
    refine ⟨_, rfl, _, rfl, al, ps, fs, t, rfl, O6, hsm, hok, q1, hT6, fun H7 s7 => ⟨_, rfl, iteF ?_⟩⟩
    refine ⟨_, rfl, _, rfl, al, ps, fs, hs, t, rfl, O6.same s7, hsm, hok, q2, s7 _ _ hT6, fun H8 qs kp8 kt8 O8 hq8 => ?_⟩
    have s57 := s5.trans (s6.trans s7)
    have s8 : Same H1 H8 := fun y o e => kp8 y o (s57 y o e) fun hy => by rw [hf5 y hy] at e; cases e
    refine ⟨qs, hs, _, _, rfl, s8, O8, q3, (take_bd q2 hb5).up (by omega) (Nat.le_refl _), ?_, ?_⟩
    · rcases hq8 with hq8 | ⟨q, rfl, hq⟩
      · refine hl5.suf hq8 fun e => ?_
        subst e
        have := O8.fr
        cases this
        generalize fm.tk.drop (i + 1) = tz at q3
        cases tz with
        | nil => cases q3
        | cons t2 ts => obtain ⟨z, hs2, _, _⟩ := run_inv q3; cases t2 <;> cases z
      · obtain ⟨pre, rfl⟩ := hl5
        exact ⟨q :: pre, rfl⟩
    · intro y hy
      rcases hq8 with hq8 | ⟨q, rfl, hq⟩
      · refine hf5 y ?_
        rcases List.mem_cons.mp hy with rfl | hy
        · exact List.mem_cons_self
        · obtain ⟨p, hp, rfl⟩ := List.mem_map.mp hy
          exact List.mem_cons_of_mem _ (mem2 (hq8.subset hp))
      · rcases List.mem_cons.mp hy with rfl | hy
        · exact hf5 _ List.mem_cons_self
        · rw [List.map_cons] at hy
          rcases List.mem_cons.mp hy with rfl | hy
          · exact freeB s57 hq
          · exact hf5 y (List.mem_cons_of_mem _ hy)
  · rintro σ H5 ⟨ps, fs, o4, o5, rfl, s5, O5, hr5, hb5, hl5, hf5⟩
    have hlen : (fm.wd.map V.str).length = fm.tk.length := by unfold Fm.wd; rw [List.length_map, List.length_map]
    rw [hlen, List.drop_length] at hr5
    cases hr5
    obtain ⟨h1, h2, h3⟩ := O5
    cases h2 with
    | cons r t =>
    cases t
    obtain ⟨pre, hpre⟩ := hl5
    have epre : pre = [] := by
      have := congrArg List.length hpre
      simp at this
      exact this
    subst epre
    cases hpre
    obtain ⟨_, _, ws, hws, hfs⟩ := r
    obtain ⟨v, us, rfl, hv, hus⟩ := dpCons hfs
    cases dpNil hus
    have hT5 : H5 T = some (TabE T) := (s1.trans s5) _ _ hT
    refine ⟨_, rfl, _, .inl ⟨_, sL hws, rfl⟩, iteF ?_⟩
    refine ⟨_, rfl, wl, _, 0, _, rfl, rfl, sL hws, atI_nat (j := 0) rfl, v, fm.dat, rfl, hv, (prOk fm hfit.pr).2, shFm (prOk fm hfit.pr).1 (by have := hfit.dp; omega), hT5, fun H6 b s6 hb => ?_⟩
    have eb := isForm_of hfit.pr hb (fmInj fm)
    rw [decide_eq_true hfit.size, decide_eq_true hfit.dp, decide_eq_true hfit.nst, decide_eq_true hfit.sg] at eb
    subst eb
    refine ⟨_, rfl, iteF ?_⟩
    refine ⟨_, rfl, wl, _, 0, _, rfl, rfl, sL (s6 _ _ hws), atI_nat (j := 0) rfl, ?_⟩
    exact k H6 v (s1.trans (s5.trans s6)) (dpS s6 hv)
end
end Sw
set_option Elab.async false
set_option maxRecDepth 100000
set_option maxHeartbeats 8000000
namespace Sw
open PySem L2 PySem.Spec PyProof.Rows TL
/-! ### a form, spelled -/
def Fm.sp : Fm → List PyData
  | .sign s => [.str s]
  | .row ps => .str "[" :: (Fm.dats ps ++ [.str "]"])
  | .pick ps => .str "(" :: (Fm.dats ps ++ [.str ")"])
  | .times p l u => [.str (tw l u), p.dat]
theorem fj1 {l : Nat} (h : l ≤ 12) : Str.empty ++ Str.ofString (toString ((l : Nat) : Int)) ++ Str.ofString ".." = tw l none ∧ (Str.empty ++ Str.ofString (toString ((l : Nat) : Int))).length ≤ 10 ∧ (tw l none).length ≤ 10 ∧ ((l : Nat) : Int).natAbs.log2 < 1920 := by
  have : ∀ l : Fin 13, Str.empty ++ Str.ofString (toString ((l.val : Nat) : Int)) ++ Str.ofString ".." = tw l.val none ∧ (Str.empty ++ Str.ofString (toString ((l.val : Nat) : Int))).length ≤ 10 ∧ (tw l.val none).length ≤ 10 ∧ ((l.val : Nat) : Int).natAbs.log2 < 1920 := by decide +kernel
  exact this ⟨l, by omega⟩
theorem fj2 {l k : Nat} (h : l ≤ 12) (hk : k ≤ 12) : Str.empty ++ Str.ofString (toString ((l : Nat) : Int)) ++ Str.ofString ".." ++ Str.ofString (toString ((k : Nat) : Int)) = tw l (some k) ∧ (tw l (some k)).length ≤ 10 := by
  have : ∀ l : Fin 13, ∀ k : Fin 13, Str.empty ++ Str.ofString (toString ((l.val : Nat) : Int)) ++ Str.ofString ".." ++ Str.ofString (toString ((k.val : Nat) : Int)) = tw l.val (some k.val) ∧ (tw l.val (some k.val)).length ≤ 10 := by decide +kernel
  exact this ⟨l, by omega⟩ ⟨k, by omega⟩
section
variable {P : Program} {w : World} {K : PySem.W.Frag} {mg : Str → Option Value} {base : Heap}
abbrev n_spelled : List Str := ["piece"]
theorem sc_spelled : FnScope n_spelled ["piece"] (defScope s_spelled) := ⟨rfl, rfl, rfl, by decide +kernel, rfl, by decide +kernel, by decide +kernel⟩
def spSpelled (K : PySem.W.Frag) : Sp := fun vs H Q _ => ∃ v f H0, vs = [v] ∧ Same H0 H ∧ FmAt K H0 v f ∧ f.pr = true ∧ ∀ H' a ws, Same H H' → H a = none → H' a = some (.lst ws) → DpAll K H0 ws f.sp → Q (.ref a) H'
theorem ok_spelled (F : DefAt K mg "_spelled" s_spelled ["piece"]) (b_list : mg "list" = none) : DefOk P w K mg base "_spelled" 1 ["piece"] (spSpelled K) := by
  refine F.ok sc_spelled (fun vs H Q E h => ?_) (fun f cdv A outer s H vs Q E hr h => ?_)
  · obtain ⟨_, _, _, rfl, _⟩ := h
    rfl
  obtain ⟨v, fm, H0, rfl, s0, hf, hpr, k⟩ := h
  refine ⟨_, (pss_cons (ps_if (pt_cmpR op_eq (pe_ix ix_tup (pv 0) pe_int (fun _ _ => rfl)) pe_str (nomark _)) (pss_one (ps_ret (pe_lst (pa_cons (pe_ix ix_tup (pv 0) pe_int (fun _ _ => rfl)) pa_nil)))) pss_nil)
    (pss_cons (ps_if (pt_cmpR op_eq (pe_ix ix_tup (pv 0) pe_int (fun _ _ => rfl)) pe_str (nomark _)) (pss_one (ps_ret (pe_op op_cat (pe_op op_cat (pe_lst (pa_cons pe_str pa_nil)) (pe_callTy call_list_of (by rfl) b_list (by decide +kernel) (pa_cons (pe_ix ix_tup (pv 0) pe_int (fun _ _ => rfl)) pa_nil))) (pe_lst (pa_cons pe_str pa_nil))))) pss_nil)
    (pss_cons (ps_if (pt_cmpR op_eq (pe_ix ix_tup (pv 0) pe_int (fun _ _ => rfl)) pe_str (nomark _)) (pss_one (ps_ret (pe_op op_cat (pe_op op_cat (pe_lst (pa_cons pe_str pa_nil)) (pe_callTy call_list_of (by rfl) b_list (by decide +kernel) (pa_cons (pe_ix ix_tup (pv 0) pe_int (fun _ _ => rfl)) pa_nil))) (pe_lst (pa_cons pe_str pa_nil))))) pss_nil)
    (pss_cons (ps_if (pt_cmp (pc_isN (pe_ix ix_tup (pv 0) pe_int (fun _ _ => rfl))) rfl) (pss_one (ps_ret (pe_lst (pa_cons (pe_joined (.cons (pe_fmt (pe_ix ix_tup (pv 0) pe_int (fun _ _ => rfl))) (.cons pe_str .nil))) (pa_cons (pe_ix ix_tup (pv 0) pe_int (fun _ _ => rfl)) pa_nil))))) pss_nil)
    (pss_one (ps_ret (pe_lst (pa_cons (pe_joined (.cons (pe_fmt (pe_ix ix_tup (pv 0) pe_int (fun _ _ => rfl))) (.cons pe_str (.cons (pe_fmt (pe_ix ix_tup (pv 0) pe_int (fun _ _ => rfl))) .nil)))) (pa_cons (pe_ix ix_tup (pv 0) pe_int (fun _ _ => rfl)) pa_nil))))))))), ?_⟩
  have brk : ∀ (a b : Str) (ps : List Fm) (vs : List V) (c : Addr) (hl : ps.length ≤ 8) (hb : SqT K H0 c vs) (hv : FmsAt K H0 vs ps) (R : VK), (∀ H' q, Same H H' → H q = none → H' q = some (.lst (V.str a :: (vs ++ [V.str b]))) → R (.ref q) H') →
      ∀ p, H p = none → ∀ l, upd H p (.lst [.str a]) l = none → rCat (.ref p) (.ref l) (upd (upd H p (.lst [.str a])) l (.lst vs)) fun x H1 => [V.str b].length ≤ sizeLine ∧ ∀ r, H1 r = none → rCat x (.ref r) (upd H1 r (.lst [.str b])) R := by
    intro a b ps vs c hl hb hv R hR p np l nl
    have s1 : Same H (upd H p (.lst [.str a])) := .new np
    have s2 : Same (upd H p (.lst [.str a])) (upd (upd H p (.lst [.str a])) l (.lst vs)) := .new nl
    have hvl := fmsLen hv
    refine ⟨p, l, _, _, rfl, rfl, s2 _ _ upd_same, upd_same, szl (by rw [hvl]; simp; omega), fun z nz => ⟨(by show 1 ≤ sizeLine; decide), fun r nr => ?_⟩⟩
    have s12 := s1.trans s2
    generalize upd (upd H p (.lst [.str a])) l (.lst vs) = H2 at s12 nz nr ⊢
    refine ⟨z, r, _, _, rfl, rfl, (Same.new nr) _ _ upd_same, upd_same, szl (by simp [hvl]; omega), fun q nq => ?_⟩
    refine hR _ q (s12.trans ((Same.new nz).trans ((Same.new nr).trans (.new nq)))) (freeB (s12.trans ((Same.new nz).trans (.new nr))) nq) ?_
    rw [upd_same]
    simp
  cases fm with
  | sign t =>
    obtain ⟨a, rfl, ht⟩ := fmSign hf
    refine ⟨_, rfl, a, _, 0, _, rfl, rfl, s0.sqT ht, atI_nat (j := 0) rfl, rfl, _, rfl, iteT ?_⟩
    refine ⟨_, rfl, a, _, 1, _, rfl, rfl, s0.sqT ht, atI_nat (j := 1) rfl, (by show 1 ≤ sizeLine; decide), fun p np => ?_⟩
    exact k _ p _ (.new np) np upd_same (.cons (.str _) .nil)
  | row ps =>
    obtain ⟨a, b, vs, rfl, ht, hb, hv⟩ := fmRow hf
    rw [Fm.pr, Bool.and_eq_true] at hpr
    refine ⟨_, rfl, a, _, 0, _, rfl, rfl, s0.sqT ht, atI_nat (j := 0) rfl, rfl, _, rfl, iteF ?_⟩
    refine ⟨_, rfl, a, _, 0, _, rfl, rfl, s0.sqT ht, atI_nat (j := 0) rfl, rfl, _, rfl, iteT ?_⟩
    refine ⟨(by show 1 ≤ sizeLine; decide), fun p np => ⟨_, rfl, a, _, 1, _, rfl, rfl, (s0.trans (.new np)).sqT ht, atI_nat (j := 1) rfl, b, vs, rfl, .inr ((s0.trans (.new np)).sqT hb), fun l nl => ?_⟩⟩
    exact brk "[" "]" ps vs b (of_decide_eq_true hpr.1) hb hv _ (fun H' q s nq hq => k H' q _ s nq hq (.cons (.str _) (dpsApp hv (.cons (.str _) .nil)))) p np l nl
  | pick ps =>
    obtain ⟨a, b, vs, rfl, ht, hb, hv⟩ := fmPick hf
    rw [Fm.pr, Bool.and_eq_true, Bool.and_eq_true] at hpr
    refine ⟨_, rfl, a, _, 0, _, rfl, rfl, s0.sqT ht, atI_nat (j := 0) rfl, rfl, _, rfl, iteF ?_⟩
    refine ⟨_, rfl, a, _, 0, _, rfl, rfl, s0.sqT ht, atI_nat (j := 0) rfl, rfl, _, rfl, iteF ?_⟩
    refine ⟨_, rfl, a, _, 0, _, rfl, rfl, s0.sqT ht, atI_nat (j := 0) rfl, rfl, _, rfl, iteT ?_⟩
    refine ⟨(by show 1 ≤ sizeLine; decide), fun p np => ⟨_, rfl, a, _, 1, _, rfl, rfl, (s0.trans (.new np)).sqT ht, atI_nat (j := 1) rfl, b, vs, rfl, .inr ((s0.trans (.new np)).sqT hb), fun l nl => ?_⟩⟩
    exact brk "(" ")" ps vs b (of_decide_eq_true hpr.1.2) hb hv _ (fun H' q s nq hq => k H' q _ s nq hq (.cons (.str _) (dpsApp hv (.cons (.str _) .nil)))) p np l nl
  | times p l u =>
    have hc := pr_cnt hpr
    obtain ⟨a, b, rfl, ht, hb⟩ := fmTimes hf
    refine ⟨_, rfl, a, _, 0, _, rfl, rfl, s0.sqT ht, atI_nat (j := 0) rfl, rfl, _, rfl, iteF ?_⟩
    refine ⟨_, rfl, a, _, 0, _, rfl, rfl, s0.sqT ht, atI_nat (j := 0) rfl, rfl, _, rfl, iteF ?_⟩
    refine ⟨_, rfl, a, _, 0, _, rfl, rfl, s0.sqT ht, atI_nat (j := 0) rfl, rfl, _, rfl, iteF ?_⟩
    refine ⟨_, rfl, a, _, 3, _, rfl, rfl, s0.sqT ht, atI_nat (j := 3) rfl, ?_⟩
    obtain ⟨g1, g2, g3, g4⟩ := fj1 hc.1
    cases u with
    | none =>
      refine ⟨_, rfl, iteT ?_⟩
      refine ⟨_, rfl, a, _, 2, _, rfl, rfl, s0.sqT ht, atI_nat (j := 2) rfl, .inr ⟨_, rfl, g4, _, rfl, szl (by omega), _, rfl, ?_, ?_⟩⟩
      · rw [g1]; exact szl (by omega)
      · rw [g1]
        refine ⟨_, rfl, a, _, 1, _, rfl, rfl, s0.sqT ht, atI_nat (j := 1) rfl, (by show 2 ≤ sizeLine; decide), fun q nq => ?_⟩
        exact k _ q _ (.new nq) nq upd_same (.cons (.str _) (.cons hb .nil))
    | some h =>
      obtain ⟨g5, g6⟩ := fj2 hc.1 (hc.2 h rfl).2
      obtain ⟨_, _, _, g7⟩ := fj1 (hc.2 h rfl).2
      refine ⟨_, rfl, iteF ?_⟩
      refine ⟨_, rfl, a, _, 2, _, rfl, rfl, s0.sqT ht, atI_nat (j := 2) rfl, .inr ⟨_, rfl, g4, _, rfl, szl (by omega), _, rfl, ?_, ?_⟩⟩
      · rw [g1]; exact szl (by omega)
      · refine ⟨_, rfl, a, _, 3, _, rfl, rfl, s0.sqT ht, atI_nat (j := 3) rfl, .inr ⟨_, rfl, g7, _, rfl, ?_, ?_⟩⟩
        · rw [g5]; exact szl (by omega)
        · rw [g5]
          refine ⟨_, rfl, a, _, 1, _, rfl, rfl, s0.sqT ht, atI_nat (j := 1) rfl, (by show 2 ≤ sizeLine; decide), fun q nq => ?_⟩
          exact k _ q _ (.new nq) nq upd_same (.cons (.str _) (.cons hb .nil))
end
end Sw
set_option Elab.async false
set_option maxRecDepth 100000
set_option maxHeartbeats 8000000
namespace Sw
open PySem L2 PySem.Spec PyProof.Rows TL
/-! ### what is still to be written -/
inductive It
  | t (s : Str)
  | f (g : Fm)
def It.dat : It → PyData
  | .t s => .str s
  | .f g => g.dat
def It.wd : It → List Str
  | .t s => [s]
  | .f g => g.wd
def It.wt : It → Nat
  | .t _ => 1
  | .f g => 4 * g.size
def wts (l : List It) : Nat := (l.map It.wt).sum
def Fm.its : Fm → List It
  | .sign s => [.t s]
  | .row ps => .t "[" :: (ps.map It.f ++ [It.t "]"])
  | .pick ps => .t "(" :: (ps.map It.f ++ [It.t ")"])
  | .times p l u => [.t (tw l u), .f p]
theorem its_dat (f : Fm) : f.sp = f.its.map It.dat := by
  have e : ∀ ps : List Fm, Fm.dats ps = (ps.map It.f).map It.dat := fun ps => by rw [Fm.dats_map, List.map_map]; rfl
  cases f with
  | sign s => rfl
  | row ps => simp only [Fm.sp, Fm.its, e, List.map_cons, List.map_append, It.dat, List.map_nil]
  | pick ps => simp only [Fm.sp, Fm.its, e, List.map_cons, List.map_append, It.dat, List.map_nil]
  | times p l u => rfl
theorem wds_flat : ∀ ps : List Fm, Fm.wds ps = (ps.map It.f).flatMap It.wd
  | [] => rfl
  | p :: ps => by
    rw [List.map_cons, List.flatMap_cons, ← wds_flat ps]
    show (p.tk ++ Fm.tks ps).map Tk.w = p.tk.map Tk.w ++ (Fm.tks ps).map Tk.w
    rw [List.map_append]
theorem its_wd (f : Fm) : f.its.flatMap It.wd = f.wd := by
  cases f with
  | sign s => rfl
  | row ps =>
    show ("[" : Str) :: ((ps.map It.f ++ [It.t "]"]).flatMap It.wd) = (Tk.op .row :: (Fm.tks ps ++ [.cl])).map Tk.w
    rw [List.flatMap_append, ← wds_flat, List.map_cons, List.map_append]
    rfl
  | pick ps =>
    show ("(" : Str) :: ((ps.map It.f ++ [It.t ")"]).flatMap It.wd) = (Tk.op .pick :: (Fm.tks ps ++ [.cp])).map Tk.w
    rw [List.flatMap_append, ← wds_flat, List.map_cons, List.map_append]
    rfl
  | times p l u => exact congrArg (tw l u :: ·) (List.append_nil _)
theorem wts_app (a b : List It) : wts (a ++ b) = wts a + wts b := by simp [wts, List.sum_append]
theorem wts_f : ∀ ps : List Fm, wts (ps.map It.f) = 4 * Fm.sizes ps
  | [] => rfl
  | p :: ps => by
    have := wts_f ps
    simp only [wts, List.map_cons, List.sum_cons, It.wt, Fm.sizes] at this ⊢
    omega
theorem its_wt (f : Fm) : wts f.its < 4 * f.size := by
  cases f with
  | sign s => simp [wts, Fm.its, It.wt, Fm.size]
  | row ps =>
    have := wts_f ps
    rw [Fm.its, Fm.size]
    show 1 + wts (ps.map It.f ++ [It.t "]"]) < _
    rw [wts_app, this]
    show 1 + (4 * Fm.sizes ps + 1) < _
    omega
  | pick ps =>
    have := wts_f ps
    rw [Fm.its, Fm.size]
    show 1 + wts (ps.map It.f ++ [It.t ")"]) < _
    rw [wts_app, this]
    show 1 + (4 * Fm.sizes ps + 1) < _
    omega
  | times p l u =>
    rw [Fm.its, Fm.size]
    show 1 + (4 * p.size + 0) < _
    omega
theorem wts_len : ∀ l : List It, l.length ≤ wts l
  | [] => Nat.zero_le _
  | x :: l => by
    have := wts_len l
    have h : 1 ≤ x.wt := by
      cases x with
      | t s => exact Nat.le_refl _
      | f g => have := g.size_pos; show 1 ≤ 4 * g.size; omega
    simp only [wts, List.map_cons, List.sum_cons, List.length_cons] at this ⊢
    omega
theorem its_pr {f : Fm} (h : f.pr = true) : ∀ g, It.f g ∈ f.its → g.pr = true := by
  intro g hg
  refine pr_parts h g ?_
  cases f with
  | sign s => simp [Fm.its] at hg
  | row ps => simpa [Fm.its, Fm.parts] using hg
  | pick ps => simpa [Fm.its, Fm.parts] using hg
  | times p l u => simpa [Fm.its, Fm.parts] using hg
section
variable {P : Program} {w : World} {K : PySem.W.Frag} {mg : Str → Option Value} {base : Heap}
def FtI (K : PySem.W.Frag) (H : Hp) (v : V) (aw ah : Addr) (f : Fm) (m : Nat) (σ : L2.St) (H' : Hp) : Prop :=
  ∃ (dn : List Str) (its : List It) (vs : List V) (o3 : Option V), m = wts its ∧ σ = [some v, some (.ref aw), some (.ref ah), o3] ∧ Same H H' ∧ H' aw = some (.lst (dn.map V.str)) ∧ H' ah = some (.lst vs.reverse) ∧ DpAll K H vs (its.map It.dat) ∧ dn ++ its.flatMap It.wd = f.wd ∧ (∀ g, It.f g ∈ its → g.pr = true) ∧ wts its ≤ 4 * f.size
abbrev n_form_text : List Str := ["form", "words", "ahead", "piece"]
theorem sc_form_text : FnScope n_form_text ["form"] (defScope s_form_text) := ⟨rfl, rfl, rfl, by decide +kernel, rfl, by decide +kernel, by decide +kernel⟩
def spText (K : PySem.W.Frag) : Sp := fun vs H Q _ => ∃ v f, vs = [v] ∧ FmAt K H v f ∧ f.pr = true ∧ f.size ≤ 60 ∧ ∀ H', Same H H' → Q (.str (Txt.join " " f.wd)) H'
theorem ok_form_text (F : DefAt K mg "form_text" s_form_text ["form"]) (d__spelled : DefOk P w K mg base "_spelled" 1 ["piece"] (spSpelled K)) (b_isinstance : mg "isinstance" = none) (b_str : mg "str" = none) : DefOk P w K mg base "form_text" 2 ["form"] (spText K) := by
  refine F.ok sc_form_text (fun vs H Q E h => ?_) (fun f cdv A outer s H vs Q E hr h => ?_)
  · obtain ⟨_, _, rfl, _⟩ := h
    rfl
  obtain ⟨v, fm, rfl, hf, hpr, hsz, k⟩ := h
  refine ⟨_, (pss_cons (ps_set (i := 1) sc_form_text.nd rfl (Or.inl rfl) (pe_lst pa_nil))
    (pss_cons (ps_set (i := 2) sc_form_text.nd rfl (Or.inl rfl) (pe_lst (pa_cons (pv 0) pa_nil)))
    (pss_cons (ps_while PassesOwn.never (pt_truth (pv 2) (by intro _; rfl)) (pss_cons (ps_set (i := 3) sc_form_text.nd rfl (Or.inl rfl) (pe_bm0 PySem.F.plainAttrs_list PySem.F.slot_list_pop PySem.F.type_list_pop mt_pop (pv 2)))
    (pss_one (ps_if (pt_val (pe_callB call_isi (by rfl) b_isinstance (by decide +kernel) (pa_cons (pv 3) (pa_cons (pe_bltn (v := .ty "str") (by rfl) b_str (by decide +kernel) rfl) pa_nil)))) (pss_one (ps_expr (pe_bm PySem.F.plainAttrs_list PySem.F.slot_list_append PySem.F.type_list_append mt_append (pv 1) (pa_cons (pv 3) pa_nil)))) (pss_one (ps_expr (pe_bm PySem.F.plainAttrs_list PySem.F.slot_list_extend PySem.F.type_list_extend mt_extend (pv 2) (pa_cons (pe_revL (pe_callD d__spelled (hr.mono (by decide)) rfl (pa_cons (pv 3) pa_nil))) pa_nil))))))))
    (pss_one (ps_ret (pe_join pe_str (pv 1))))))), ?_⟩
  refine ⟨(by show 0 ≤ sizeLine; decide), fun aw naw => ⟨_, rfl, (by show 1 ≤ sizeLine; decide), fun ah nah => ?_⟩⟩
  have nawh : aw ≠ ah := fun e => by rw [← e, upd_same] at nah; cases nah
  have fah : H ah = none := freeB (.new naw) nah
  refine ⟨FtI K H v aw ah fm, ⟨_, [], [.f fm], [v], none, rfl, rfl, Same.trans (.new naw) (.new nah), by rw [upd_ne nawh, upd_same]; rfl, upd_same, .cons hf .nil, by show [] ++ (fm.wd ++ []) = _; rw [List.append_nil, List.nil_append], fun g hg => by rw [List.mem_singleton] at hg; cases hg; exact hpr, by show 4 * fm.size + 0 ≤ _; omega⟩, ?_⟩
  rintro m σ H3 ⟨dn, its, vs, o3, rfl, rfl, s3, hw3, ha3, hvs, hwd, hpr3, hwt⟩
  have hwl : fm.wd.length ≤ 120 := by
    have := tk_len fm
    unfold Fm.wd
    rw [List.length_map]
    omega
  have hdl : dn.length ≤ 120 := by
    have := congrArg List.length hwd
    rw [List.length_append] at this
    omega
  refine ⟨_, rfl, _, .inl ⟨_, sL ha3, rfl⟩, ?_⟩
  cases its with
  | nil =>
    cases dpNil hvs
    refine iteF ?_
    rw [List.flatMap_nil, List.append_nil] at hwd
    subst hwd
    refine ⟨⟨_, rfl⟩, _, rfl, _, aw, fm.wd, rfl, rfl, .inl (sL hw3), ?_, k _ s3⟩
    have := wd_sum hpr
    have e1 : (Str.ofString " ").length = 1 := by decide +kernel
    rw [e1]
    omega
  | cons x its =>
    obtain ⟨u, vs, rfl, hu, hvs2⟩ := dpCons hvs
    have hvl := dpsLen hvs2
    rw [List.length_map] at hvl
    have hil := wts_len its
    have hwt' : x.wt + wts its ≤ 4 * fm.size := hwt
    rw [List.reverse_cons] at ha3 ⊢
    refine iteT' (by simp) ?_
    refine ⟨fun σ' H' => ∃ m', m' < wts (x :: its) ∧ FtI K H v aw ah fm m' σ' H', fun σ' H' h => h, ?_⟩
    refine ⟨_, rfl, .inl ⟨rfl, _, sL ha3⟩, ah, _, u, rfl, rfl, ha3, by simp, ?_⟩
    rw [List.dropLast_concat]
    have s4 : Same H (upd H3 ah (.lst vs.reverse)) := s3.mut fah
    have hw4 : (upd H3 ah (.lst vs.reverse)) aw = some (.lst (dn.map V.str)) := by rw [upd_ne nawh]; exact hw3
    have ha4 : (upd H3 ah (.lst vs.reverse)) ah = some (.lst vs.reverse) := upd_same
    generalize upd H3 ah (.lst vs.reverse) = H4 at s4 hw4 ha4 ⊢
    refine ⟨_, rfl, u, .ty "str", _, _, _, rfl, .ty _, tyX (dpS s4 hu), isStr (dpS s4 hu), ?_⟩
    cases x with
    | t t =>
      cases dpStr hu
      refine ⟨_, rfl, ?_⟩
      rw [show isStrD (It.t t).dat = true from rfl]
      refine iteT ?_
      refine ⟨_, rfl, .inl ⟨rfl, _, sL hw4⟩, _, rfl, aw, _, _, rfl, rfl, hw4, szb (by rw [List.length_map]; omega), ?_⟩
      refine ⟨wts its, by show _ < 1 + wts its; omega, dn ++ [t], its, vs, _, rfl, rfl, s4.mut naw, by rw [upd_same, List.map_append]; rfl, by rw [upd_ne nawh.symm]; exact ha4, hvs2, ?_, fun g hg => hpr3 g (List.mem_cons_of_mem _ hg), by omega⟩
      rw [← hwd, List.append_assoc]
      rfl
    | f g =>
      have hg : isStrD (It.f g).dat = false := by cases g <;> rfl
      refine ⟨_, rfl, ?_⟩
      rw [hg]
      refine iteF ?_
      have hgp := hpr3 g (by simp)
      refine ⟨_, rfl, .inl ⟨rfl, _, sL ha4⟩, _, rfl, u, g, H, rfl, s4, hu, hgp, fun H5 a ws s5 na ha hws => ?_⟩
      refine ⟨a, ws, rfl, sL ha, fun r nr => ?_⟩
      have nra : r ≠ ah := (ne_of_none (s5 _ _ ha4) nr).symm
      rw [its_dat] at hws
      have hwsl := dpsLen hws
      rw [List.length_map] at hwsl
      have hil2 := wts_len g.its
      have hgw := its_wt g
      have hgw2 : (It.f g).wt = 4 * g.size := rfl
      refine ⟨ah, r, vs.reverse, ws.reverse, rfl, rfl, (Same.new nr) _ _ (s5 _ _ ha4), upd_same, szl (by rw [List.length_reverse, List.length_reverse]; omega), ?_⟩
      have s6 : Same H (upd H5 r (.lst ws.reverse)) := s4.trans (s5.trans (.new nr))
      refine ⟨wts (g.its ++ its), by rw [wts_app]; show _ < 4 * g.size + wts its; omega, dn, g.its ++ its, ws ++ vs, _, rfl, rfl, s6.mut fah, ?_, ?_, ?_, ?_, ?_, ?_⟩
      · rw [upd_ne nawh]
        exact (Same.new nr) _ _ (s5 _ _ hw4)
      · rw [upd_same, List.reverse_append]
      · rw [List.map_append]
        exact dpsApp hws hvs2
      · rw [← hwd, List.flatMap_append, its_wd]
        rfl
      · intro q hq
        rcases List.mem_append.mp hq with hq | hq
        · exact its_pr hgp q hq
        · exact hpr3 q (List.mem_cons_of_mem _ hq)
      · rw [wts_app]
        omega
end
end Sw
set_option Elab.async false
set_option maxRecDepth 100000
set_option maxHeartbeats 8000000
namespace Sw
open PySem L2 PySem.Spec PyProof.Rows TL
theorem fj3 {l : Nat} (h : l ≤ 12) : Str.ofString (toString ((l : Nat) : Int)) ++ Str.ofString ".." ++ Str.ofString "" = tw l none ∧ (Str.ofString (toString ((l : Nat) : Int))).length ≤ 10 ∧ (Str.ofString (toString ((l : Nat) : Int)) ++ Str.ofString "..").length ≤ 10 ∧ ((l : Nat) : Int).natAbs.log2 < 1920 := by
  have : ∀ l : Fin 13, Str.ofString (toString ((l.val : Nat) : Int)) ++ Str.ofString ".." ++ Str.ofString "" = tw l.val none ∧ (Str.ofString (toString ((l.val : Nat) : Int))).length ≤ 10 ∧ (Str.ofString (toString ((l.val : Nat) : Int)) ++ Str.ofString "..").length ≤ 10 ∧ ((l.val : Nat) : Int).natAbs.log2 < 1920 := by decide +kernel
  exact this ⟨l, by omega⟩
theorem fj4 {l k : Nat} (h : l ≤ 12) (hk : k ≤ 12) : Str.ofString (toString ((l : Nat) : Int)) ++ Str.ofString ".." ++ Str.ofString (toString ((k : Nat) : Int)) = tw l (some k) := by
  have : ∀ l : Fin 13, ∀ k : Fin 13, Str.ofString (toString ((l.val : Nat) : Int)) ++ Str.ofString ".." ++ Str.ofString (toString ((k.val : Nat) : Int)) = tw l.val (some k.val) := by decide +kernel
  exact this ⟨l, by omega⟩ ⟨k, by omega⟩
theorem tks_app : ∀ a b : List Fm, Fm.tks (a ++ b) = Fm.tks a ++ Fm.tks b
  | [], b => rfl
  | p :: a, b => by rw [List.cons_append, Fm.tks, Fm.tks, tks_app a b, List.append_assoc]
theorem wds_app (a b : List Fm) : Fm.wds (a ++ b) = Fm.wds a ++ Fm.wds b := by unfold Fm.wds; rw [tks_app, List.map_append]
theorem wds_one (p : Fm) : Fm.wds [p] = p.wd := by show (p.tk ++ []).map Tk.w = _; rw [List.append_nil]; rfl
theorem wds_len (ps : List Fm) : (Fm.wds ps).length ≤ 2 * Fm.sizes ps := by unfold Fm.wds; rw [List.length_map]; exact tks_len ps
theorem wd_row (ps : List Fm) : (Fm.row ps).wd = ("[" : Str) :: (Fm.wds ps ++ [("]" : Str)]) := by show (Tk.op .row :: (Fm.tks ps ++ [Tk.cl])).map Tk.w = _; rw [List.map_cons, List.map_append]; rfl
theorem wd_pick (ps : List Fm) : (Fm.pick ps).wd = ("(" : Str) :: (Fm.wds ps ++ [(")" : Str)]) := by show (Tk.op .pick :: (Fm.tks ps ++ [Tk.cp])).map Tk.w = _; rw [List.map_cons, List.map_append]; rfl
theorem sizes_sub : ∀ (ps : List Fm) (i : Nat), Fm.sizes (ps.take i) ≤ Fm.sizes ps
  | [], i => by simp
  | p :: ps, 0 => by simp [Fm.sizes]
  | p :: ps, i + 1 => by have := sizes_sub ps i; rw [List.take_succ_cons, Fm.sizes, Fm.sizes]; omega
section
variable {P : Program} {w : World} {K : PySem.W.Frag} {mg : Str → Option Value} {base : Heap}
abbrev n_law_words : List Str := ["form", "found", "part"]
theorem sc_law_words : FnScope n_law_words ["form"] (defScope s_law_words) := ⟨rfl, rfl, rfl, by decide +kernel, rfl, by decide +kernel, by decide +kernel⟩
def spWords (K : PySem.W.Frag) (n : Nat) : Sp := fun vs H Q _ => ∃ v f, vs = [v] ∧ FmAt K H v f ∧ f.pr = true ∧ f.size ≤ 60 ∧ f.dp ≤ n ∧ ∀ H' a, Same H H' → H a = none → H' a = some (.lst (f.wd.map V.str)) → Q (.ref a) H'
theorem ok_law_wordsS (n : Nat) (F : DefAt K mg "_law_words" s_law_words ["form"]) (d__law_inner : DefOk P w K mg base "_law_inner" 1 ["form"] (spInner K)) (d__law_words : DefOk P w K mg base "_law_words" (n + 1) ["form"] (spWords K n)) (b_str : mg "str" = none) :
    DefOk P w K mg base "_law_words" (n + 2) ["form"] (spWords K (n + 1)) := by
  refine F.ok sc_law_words (fun vs H Q E h => ?_) (fun f cdv A outer s H vs Q E hr h => ?_)
  · obtain ⟨_, _, rfl, _⟩ := h
    rfl
  obtain ⟨v, fm, rfl, hf, hpr, hsz, hdp, k⟩ := h
  refine ⟨_, (pss_cons (ps_if (pt_cmpR op_eq (pe_ix ix_tup (pv 0) pe_int (fun _ _ => rfl)) pe_str (nomark _)) (pss_one (ps_ret (pe_lst (pa_cons (pe_ix ix_tup (pv 0) pe_int (fun _ _ => rfl)) pa_nil)))) pss_nil)
    (pss_cons (ps_set (i := 1) sc_law_words.nd rfl (Or.inl rfl) (pe_lst pa_nil))
    (pss_cons (ps_for PassesOwn.never rfl (pi_list (pe_callD d__law_inner (hr.mono (by omega)) rfl (pa_cons (pv 0) pa_nil))) (pg_name (i := 2) sc_law_words.nd rfl (Or.inl rfl))
      (pss_one (ps_set (i := 1) sc_law_words.nd rfl (Or.inl rfl) (pe_op op_cat (pv 1) (pe_callD d__law_words (hr.mono (by omega)) rfl (pa_cons (pv 2) pa_nil))))))
    (pss_cons (ps_if (pt_cmpR op_eq (pe_ix ix_tup (pv 0) pe_int (fun _ _ => rfl)) pe_str (nomark _)) (pss_one (ps_ret (pe_op op_cat (pe_lst (pa_cons (pe_op op_add_str (pe_op op_add_str (pe_callTy call_str_int (by rfl) b_str (by decide +kernel) (pa_cons (pe_ix ix_tup (pv 0) pe_int (fun _ _ => rfl)) pa_nil)) pe_str) (pe_ifExp (pt_cmp (pc_isN (pe_ix ix_tup (pv 0) pe_int (fun _ _ => rfl))) rfl) pe_str (pe_callTy call_str_int (by rfl) b_str (by decide +kernel) (pa_cons (pe_ix ix_tup (pv 0) pe_int (fun _ _ => rfl)) pa_nil)))) pa_nil)) (pv 1)))) pss_nil)
    (pss_one (ps_ret (pe_ifExp (pt_cmpR op_eq (pe_ix ix_tup (pv 0) pe_int (fun _ _ => rfl)) pe_str (nomark _)) (pe_op op_cat (pe_op op_cat (pe_lst (pa_cons pe_str pa_nil)) (pv 1)) (pe_lst (pa_cons pe_str pa_nil))) (pe_op op_cat (pe_op op_cat (pe_lst (pa_cons pe_str pa_nil)) (pv 1)) (pe_lst (pa_cons pe_str pa_nil)))))))))), ?_⟩
  obtain ⟨a0, us, rfl, h0, hk0⟩ := fm0 hf
  refine ⟨_, rfl, a0, _, 0, _, rfl, rfl, h0, atI_nat (j := 0) hk0, rfl, _, rfl, ?_⟩
  show if isSg fm = true then _ else _
  by_cases hsg : ∃ t, fm = .sign t
  · obtain ⟨t, rfl⟩ := hsg
    obtain ⟨a, ea, ht⟩ := fmSign hf
    cases ea
    refine iteT ?_
    refine ⟨_, rfl, a0, _, 1, _, rfl, rfl, ht, atI_nat (j := 1) rfl, (by show 1 ≤ sizeLine; decide), fun p np => ?_⟩
    exact k _ p (.new np) np upd_same
  have hsg' : isSg fm = false := by
    cases fm with
    | sign t => exact absurd ⟨t, rfl⟩ hsg
    | row _ => rfl
    | pick _ => rfl
    | times _ _ _ => rfl
  rw [hsg']
  refine iteF ?_
  refine ⟨(by show 0 ≤ sizeLine; decide), fun fd nfd => ?_⟩
  have s1 : Same H (upd H fd (.lst [])) := .new nfd
  have e1 : (upd H fd (.lst [])) fd = some (.lst (([] : List Str).map V.str)) := upd_same
  generalize upd H fd (.lst []) = H1 at s1 e1 ⊢
  refine ⟨_, rfl, _, fm, rfl, dpS s1 hf, fun H2 a ws s2 na ha hws => ⟨a, rfl, ⟨_, sL ha⟩, ?_⟩⟩
  have hwl := fmsLen hws
  have hspar : 1 + Fm.sizes fm.parts = fm.size := (Fm.size_eq fm).symm
  refine for_list (K := K) (a := a) (xs := ws) (fun i σ H' => ∃ (fd : Addr) (o2 : Option V), σ = [some (.ref a0), some (.ref fd), o2] ∧ H fd = none ∧ Same H2 H' ∧ H' fd = some (.lst ((Fm.wds (fm.parts.take i)).map V.str)))
    ⟨fd, none, rfl, nfd, .refl _, s2 _ _ e1⟩ (fun i σ H' _ ⟨_, _, _, _, g, _⟩ => sL (g _ _ ha)) ?_ ?_
  · rintro i x σ H3 hx ⟨fd, o2, rfl, nfd, s3, hfd⟩
    obtain ⟨g, hg, hxg⟩ := fmsAtI hws hx
    have hgm := List.mem_of_getElem? hg
    have hgs := size_parts hgm
    have hgd := dp_parts hgm
    refine ⟨_, rfl, _, rfl, x, g, rfl, dpS s3 hxg, pr_parts hpr g hgm, by omega, by omega, fun H4 b s4 nb hb => ?_⟩
    have l1 := wds_len (fm.parts.take i)
    have l2 := sizes_sub fm.parts i
    have l3 : g.wd.length ≤ 2 * g.size := by unfold Fm.wd; rw [List.length_map]; exact tk_len g
    refine ⟨fd, b, _, _, rfl, rfl, s4 _ _ hfd, hb, szl (by rw [List.length_map, List.length_map]; omega), fun z nz => ?_⟩
    refine ⟨z, _, rfl, freeB ((s1.trans s2).trans (s3.trans s4)) nz, s3.trans (s4.trans (.new nz)), ?_⟩
    rw [upd_same, List.take_add_one, hg, Option.toList_some, wds_app, wds_one, List.map_append]
  · rintro σ H3 ⟨fd, o2, rfl, nfd, s3, hfd⟩
    rw [hwl, List.take_length] at hfd
    have s03 := (s1.trans s2).trans s3
    have l1 := wds_len fm.parts
    have brk : ∀ (x y : Str) (R : VK), (∀ H' q, Same H H' → H q = none → H' q = some (.lst ((x :: (Fm.wds fm.parts ++ [y])).map V.str)) → R (.ref q) H') →
        ∀ p, H3 p = none → rCat (.ref p) (.ref fd) (upd H3 p (.lst [.str x])) fun u H1 => [V.str y].length ≤ sizeLine ∧ ∀ r, H1 r = none → rCat u (.ref r) (upd H1 r (.lst [.str y])) R := by
      intro x y R hR p np
      have s4 : Same H3 (upd H3 p (.lst [.str x])) := .new np
      refine ⟨p, fd, _, _, rfl, rfl, upd_same, s4 _ _ hfd, szl (by simp; omega), fun z nz => ⟨(by show 1 ≤ sizeLine; decide), fun r nr => ?_⟩⟩
      generalize upd H3 p (.lst [.str x]) = H4 at s4 nz nr ⊢
      refine ⟨z, r, _, _, rfl, rfl, (Same.new nr) _ _ upd_same, upd_same, szl (by simp; omega), fun q nq => ?_⟩
      have s5 := s03.trans (s4.trans ((Same.new nz).trans (Same.new (o := .lst [.str y]) nr)))
      refine hR _ q (s5.trans (.new nq)) (freeB s5 nq) ?_
      rw [upd_same]
      simp
    have h03 := s03.sqT h0
    refine ⟨_, rfl, a0, _, 0, _, rfl, rfl, h03, atI_nat (j := 0) hk0, rfl, _, rfl, ?_⟩
    cases fm with
    | sign t => exact absurd ⟨t, rfl⟩ hsg
    | row ps =>
      refine iteF ?_
      refine ⟨_, rfl, a0, _, 0, _, rfl, rfl, h03, atI_nat (j := 0) hk0, rfl, _, rfl, ?_⟩
      refine iteT ?_
      refine ⟨(by show 1 ≤ sizeLine; decide), fun p np => ⟨_, rfl, ?_⟩⟩
      refine brk "[" "]" _ (fun H' q s nq hq => k H' q s nq ?_) p np
      rw [wd_row]
      exact hq
    | pick ps =>
      refine iteF ?_
      refine ⟨_, rfl, a0, _, 0, _, rfl, rfl, h03, atI_nat (j := 0) hk0, rfl, _, rfl, ?_⟩
      refine iteF ?_
      refine ⟨(by show 1 ≤ sizeLine; decide), fun p np => ⟨_, rfl, ?_⟩⟩
      refine brk "(" ")" _ (fun H' q s nq hq => k H' q s nq ?_) p np
      rw [wd_pick]
      exact hq
    | times p l u =>
      have hc := pr_cnt hpr
      obtain ⟨a, b, ea, ht, hb⟩ := fmTimes hf
      cases ea
      have ht3 := s03.sqT ht
      obtain ⟨g1, g2, g3, g4⟩ := fj3 hc.1
      have d2 : (Str.ofString "..").length = 2 := by decide +kernel
      have d0 : (Str.ofString "").length = 0 := by decide +kernel
      have tlt : (tw l u).length ≤ 6 := (tk_word (t := .op (.times l u)) ⟨(fun e => by cases e), hc⟩).2
      have fin : ∀ q, H3 q = none → rCat (.ref q) (.ref fd) (upd H3 q (.lst [.str (tw l u)])) fun x H1 => Q x H1 := fun q nq => by
        refine ⟨q, fd, _, _, rfl, rfl, upd_same, (Same.new nq) _ _ hfd, szl (by simp; omega), fun z nz => ?_⟩
        refine k _ z (s03.trans ((Same.new nq).trans (.new nz))) (freeB (s03.trans (.new nq)) nz) ?_
        rw [upd_same]
        show some (HO.lst ([V.str (tw l u)] ++ (Fm.wds [p]).map V.str)) = _
        rw [wds_one]
        rfl
      refine iteT ?_
      refine ⟨_, rfl, a0, _, 2, _, rfl, rfl, ht3, atI_nat (j := 2) rfl, _, rfl, g4, _, _, rfl, rfl, szl (by omega), ?_⟩
      refine ⟨_, rfl, a0, _, 3, _, rfl, rfl, ht3, atI_nat (j := 3) rfl, ?_⟩
      cases u with
      | none =>
        refine ⟨_, rfl, iteT ?_⟩
        refine ⟨_, _, rfl, rfl, szl (by omega), ?_⟩
        rw [g1]
        exact ⟨(by show 1 ≤ sizeLine; decide), fun q nq => ⟨_, rfl, fin q nq⟩⟩
      | some h =>
        obtain ⟨_, g6, _, g7⟩ := fj3 (hc.2 h rfl).2
        refine ⟨_, rfl, iteF ?_⟩
        refine ⟨_, rfl, a0, _, 3, _, rfl, rfl, ht3, atI_nat (j := 3) rfl, _, rfl, g7, ?_⟩
        refine ⟨_, _, rfl, rfl, szl (by omega), ?_⟩
        rw [fj4 hc.1 (hc.2 h rfl).2]
        exact ⟨(by show 1 ≤ sizeLine; decide), fun q nq => ⟨_, rfl, fin q nq⟩⟩
theorem ok_law_words0 (F : DefAt K mg "_law_words" s_law_words ["form"]) : DefOk P w K mg base "_law_words" 1 ["form"] (spWords K 0) := by
  refine F.ok sc_law_words (fun vs H Q E h => ?_) (fun f cdv A outer s H vs Q E hr h => ?_)
  · obtain ⟨_, _, rfl, _⟩ := h
    rfl
  obtain ⟨v, fm, rfl, hf, hpr, hsz, hdp, k⟩ := h
  have := dp_pos fm
  omega
theorem ok_law_words (F : DefAt K mg "_law_words" s_law_words ["form"]) (d__law_inner : DefOk P w K mg base "_law_inner" 1 ["form"] (spInner K)) (b_str : mg "str" = none) : ∀ n : Nat, DefOk P w K mg base "_law_words" (n + 1) ["form"] (spWords K n)
  | 0 => ok_law_words0 F
  | n + 1 => ok_law_wordsS n F d__law_inner (ok_law_words F d__law_inner b_str n) b_str
end
end Sw
set_option Elab.async false
set_option maxRecDepth 100000
set_option maxHeartbeats 8000000
namespace Sw
open PySem L2 PySem.Spec PyProof.Rows TL
section
variable {P : Program} {w : World} {K : PySem.W.Frag} {mg : Str → Option Value} {base : Heap}
abbrev n_law_whole : List Str := ["form", "number", "part"]
theorem sc_law_whole : FnScope n_law_whole ["form"] (defScope s_law_whole) := ⟨rfl, rfl, rfl, by decide +kernel, rfl, by decide +kernel, by decide +kernel⟩
def spWhol (K : PySem.W.Frag) (n : Nat) : Sp := fun vs H Q _ => ∃ v f, vs = [v] ∧ FmAt K H v f ∧ f.pr = true ∧ f.dp ≤ n ∧ ∀ H', Same H H' → Q (.bl true) H'
theorem ok_law_wholeS (n : Nat) (F : DefAt K mg "_law_whole" s_law_whole ["form"]) (d__law_inner : DefOk P w K mg base "_law_inner" 1 ["form"] (spInner K)) (d__law_whole : DefOk P w K mg base "_law_whole" (n + 1) ["form"] (spWhol K n))
    (b_isinstance : mg "isinstance" = none) (b_bool : mg "bool" = none) (b_int : mg "int" = none) (b_len : mg "len" = none) :
    DefOk P w K mg base "_law_whole" (n + 2) ["form"] (spWhol K (n + 1)) := by
  refine F.ok sc_law_whole (fun vs H Q E h => ?_) (fun f cdv A outer s H vs Q E hr h => ?_)
  · obtain ⟨_, _, rfl, _⟩ := h
    rfl
  obtain ⟨v, fm, rfl, hf, hpr, hdp, k⟩ := h
  obtain ⟨tb, hb, fb⟩ : ∃ tb, PSs (cxOf CX0 P w K mg base n_law_whole "_law_whole" (defScope s_law_whole) f cdv A outer s H E).nox ((defBody s_law_whole).drop 1) tb ∧
      ∀ (o1 : Option V) (H1 : Hp), Same H H1 → tb { nx := fun _ H' => Q .non H', rt := Q } [some v, o1, none] H1 := by
    refine ⟨_, (pss_one (ps_ret (pe_cmpR op_eq (pe_callB call_len_seq (by rfl) b_len PySem.boot_len (pa_cons (pe_lc (own := [("part", 2)]) (g := gName 2) rfl sc_law_whole.nd (pi_list (pe_callD d__law_inner (hr.mono (by omega)) rfl (pa_cons (pv 0) pa_nil))) (blkOk_by (own := [("part", 2)]) (N := n_law_whole) (sc := defScope s_law_whole) (by decide +kernel)) (fun _ _ _ _ _ => (pg_name (i := 2) sc_law_whole.nd rfl (Or.inl rfl))) (fun _ _ _ _ _ => (pts_one (pt_not (pt_val (pe_callD d__law_whole (hr.mono (by omega)) rfl (pa_cons (pv 2) pa_nil)))))) (fun _ _ _ _ _ => (pv 2))) pa_nil)) pe_int (nomark _)))), ?_⟩
    intro o1 H1 s1
    refine ⟨_, rfl, v, fm, rfl, dpS s1 hf, fun H2 a ws s2 na ha hws => ⟨a, rfl, ⟨_, sL ha⟩, fun D nD => ?_⟩⟩
    refine lc_list (K := K) (a := a) (xs := ws) (fun i H' => Same H2 H' ∧ H' D = some (.lst [])) ⟨.new nD, upd_same⟩ (fun i H' _ ⟨g, _⟩ => sL (g _ _ ha)) ?_ ?_
    · rintro i x H3 hx ⟨s3, hD⟩
      obtain ⟨g, hg, hxg⟩ := fmsAtI hws hx
      have hgm := List.mem_of_getElem? hg
      have hgd := dp_parts hgm
      refine ⟨rfl, ?_⟩
      exact ⟨_, rfl, x, g, rfl, dpS s3 hxg, pr_parts hpr g hgm, by omega, fun H4 s4 => ⟨_, rfl, iteF ⟨s3.trans s4, s4 _ _ hD⟩⟩⟩
    · rintro H3 ⟨s3, hD⟩
      refine ⟨D, [], rfl, .inl (sL hD), rfl, ?_⟩
      exact k _ (s1.trans (s2.trans s3))
  refine ⟨_, (pss_cons (ps_if (pt_cmpR op_eq (pe_ix ix_tup (pv 0) pe_int (fun _ _ => rfl)) pe_str (nomark _)) (pss_one (ps_for PassesOwn.never rfl (pi_tup (pe_tup (pa_cons (pe_ix ix_tup (pv 0) pe_int (fun _ _ => rfl)) (pa_cons (pe_ix ix_tup (pv 0) pe_int (fun _ _ => rfl)) pa_nil)))) (pg_name (i := 1) sc_law_whole.nd rfl (Or.inl rfl))
      (pss_one (ps_if (PW.pt (pw_or (pt_val (pe_callB call_isi (by rfl) b_isinstance (by decide +kernel) (pa_cons (pv 1) (pa_cons (pe_bltn (v := .ty "bool") (by rfl) b_bool (by decide +kernel) rfl) pa_nil)))) (pw_or1 (PW.pt (pw_and (pt_cmp (pc_notN (pv 1)) rfl) (pw_and1 (pt_not (pt_val (pe_callB call_isi (by rfl) b_isinstance (by decide +kernel) (pa_cons (pv 1) (pa_cons (pe_bltn (v := .ty "int") (by rfl) b_int (by decide +kernel) rfl) pa_nil))))))))))) (pss_one (ps_ret pe_bl)) pss_nil)))) pss_nil) hb), ?_⟩
  obtain ⟨a0, us, rfl, h0, hk0⟩ := fm0 hf
  refine ⟨_, rfl, a0, _, 0, _, rfl, rfl, h0, atI_nat (j := 0) hk0, rfl, _, rfl, ?_⟩
  cases fm with
  | sign t => exact iteF (fb _ _ (.refl _))
  | row ps => exact iteF (fb _ _ (.refl _))
  | pick ps => exact iteF (fb _ _ (.refl _))
  | times p l u =>
    obtain ⟨a, b, ea, ht, hb⟩ := fmTimes hf
    cases ea
    refine iteT ?_
    refine ⟨_, rfl, a0, _, 2, _, rfl, rfl, ht, atI_nat (j := 2) rfl, _, rfl, a0, _, 3, _, rfl, rfl, ht, atI_nat (j := 3) rfl, (by show 2 ≤ sizeLine; decide), fun q nq => ?_⟩
    have s1 : Same H (upd H q (.tup [.int (l : Int), highV u])) := .new nq
    have hq : (upd H q (.tup [.int (l : Int), highV u])) q = some (.tup [.int (l : Int), highV u]) := upd_same
    generalize upd H q (.tup [.int (l : Int), highV u]) = H1 at s1 hq ⊢
    refine ⟨q, rfl, ⟨_, sT hq⟩, ?_⟩
    refine for_tup (K := K) (a := q) (xs := [.int (l : Int), highV u]) (fun i σ H' => ∃ (o1 : Option V), σ = [some (.ref a0), o1, none] ∧ H' = H1) ⟨none, rfl, rfl⟩ (fun i σ H' _ ⟨_, _, e⟩ => by rw [e]; exact sT hq) ?_ ?_
    · rintro i x σ H3 hx ⟨o1, rfl, rfl⟩
      have ex : ∃ d, Dp K H3 x d ∧ isBoolD d = false ∧ ((x = .non) ∨ (x ≠ .non ∧ isIntD d = true)) := by
        match i, hx with
        | 0, hx =>
          cases hx
          exact ⟨_, .int _, rfl, .inr ⟨(fun e => by cases e), rfl⟩⟩
        | 1, hx =>
          cases hx
          cases u with
          | none => exact ⟨_, .non, rfl, .inl rfl⟩
          | some h => exact ⟨_, .int _, rfl, .inr ⟨(fun e => by cases e), rfl⟩⟩
        | i + 2, hx => simp at hx
      obtain ⟨d, hd, hb0, hx2⟩ := ex
      refine ⟨_, rfl, x, .ty "bool", _, _, _, rfl, .ty _, tyX hd, isBool hd, _, rfl, ?_⟩
      rw [hb0]
      refine iteF ?_
      refine ⟨_, rfl, ?_⟩
      rcases hx2 with rfl | ⟨hne, hi⟩
      · exact ⟨_, rfl, iteF' (by simp) (iteF ⟨_, rfl, rfl⟩)⟩
      · refine ⟨_, rfl, iteT' (by rw [decide_eq_false hne]; rfl) ?_⟩
        refine ⟨_, rfl, x, .ty "int", _, _, _, rfl, .ty _, tyX hd, isInt hd, _, rfl, ?_⟩
        rw [hi]
        exact iteF ⟨_, rfl, rfl⟩
    · rintro σ H3 ⟨o1, rfl, rfl⟩
      exact fb _ _ s1
theorem ok_law_whole0 (F : DefAt K mg "_law_whole" s_law_whole ["form"]) : DefOk P w K mg base "_law_whole" 1 ["form"] (spWhol K 0) := by
  refine F.ok sc_law_whole (fun vs H Q E h => ?_) (fun f cdv A outer s H vs Q E hr h => ?_)
  · obtain ⟨_, _, rfl, _⟩ := h
    rfl
  obtain ⟨v, fm, rfl, hf, hpr, hdp, k⟩ := h
  have := dp_pos fm
  omega
theorem ok_law_whole (F : DefAt K mg "_law_whole" s_law_whole ["form"]) (d__law_inner : DefOk P w K mg base "_law_inner" 1 ["form"] (spInner K)) (b_isinstance : mg "isinstance" = none) (b_bool : mg "bool" = none) (b_int : mg "int" = none) (b_len : mg "len" = none) : ∀ n : Nat, DefOk P w K mg base "_law_whole" (n + 1) ["form"] (spWhol K n)
  | 0 => ok_law_whole0 F
  | n + 1 => ok_law_wholeS n F d__law_inner (ok_law_whole F d__law_inner b_isinstance b_bool b_int b_len n) b_isinstance b_bool b_int b_len
end
end Sw
set_option Elab.async false
set_option maxRecDepth 100000
set_option maxHeartbeats 8000000
namespace Sw
open PySem L2 PySem.Spec PyProof.Rows TL
theorem join_one : ∀ cs : List Nat, joinL [] (cs.map fun c => [c]) = cs
  | [] => rfl
  | [c] => rfl
  | c :: d :: cs => by
    have ih := join_one (d :: cs)
    show [c] ++ ([] ++ joinL [] ((d :: cs).map fun c => [c])) = _
    rw [ih]
    rfl
def oneS (c : Nat) : Str := ⟨#[c]⟩
theorem join_word (cs : List Nat) : tl (Txt.join "" (cs.map oneS)) = cs := by
  rw [join_eq, tl_join, List.map_map]
  exact join_one cs
theorem word_sign {cs : List Nat} (h : cs.all letter = true) (h1 : 1 ≤ cs.length) (h6 : cs.length ≤ 6) : signS (Txt.join "" (cs.map oneS)) = true := by
  have e := join_word cs
  unfold signS
  have hl : (Txt.join "" (cs.map oneS)).length = cs.length := by rw [len_tl, e]
  rw [hl, decide_eq_true h1, decide_eq_true h6]
  show (true && true && (tl (Txt.join "" (cs.map oneS))).all letter) = true
  rw [e, h]
  rfl
def abc : Str := "abcdefghijklmnopqrstuvwxyz"
theorem abc_at (j : Nat) (h : j < 26) : ∃ c, (tl abc)[j]? = some c ∧ letter c = true := by
  have : ∀ j : Fin 26, (match (tl abc)[j.val]? with | some c => letter c | none => false) = true := by decide +kernel
  have := this ⟨j, h⟩
  cases e : (tl abc)[j]? with
  | none => rw [e] at this; cases this
  | some c => rw [e] at this; exact ⟨c, rfl, this⟩
section
variable {P : Program} {w : World} {K : PySem.W.Frag} {mg : Str → Option Value} {base : Heap}
abbrev n_law_word : List Str := ["cell", "letters", "base", "k"]
theorem sc_law_word : FnScope n_law_word ["cell"] (defScope s_law_word) := ⟨rfl, rfl, rfl, by decide +kernel, rfl, by decide +kernel, by decide +kernel⟩
def spWord : Sp := fun vs H Q _ => ∃ c : Int, vs = [.int c] ∧ ∀ H' t, Same H H' → signS t = true → Q (.str t) H'
theorem ok_law_word (F : DefAt K mg "_law_word" s_law_word ["cell"]) (b_range : mg "range" = none) : DefOk P w K mg base "_law_word" 1 ["cell"] spWord := by
  refine F.ok sc_law_word (fun vs H Q E h => ?_) (fun f cdv A outer s H vs Q E hr h => ?_)
  · obtain ⟨_, rfl, _⟩ := h
    rfl
  obtain ⟨c, rfl, k⟩ := h
  refine ⟨_, (pss_cons (ps_set (i := 1) sc_law_word.nd rfl (Or.inr rfl) pe_str)
    (pss_cons (ps_set (i := 2) sc_law_word.nd rfl (Or.inr rfl) (pe_op op_mod (pe_op op_fdiv (pv 0) pe_int) pe_int))
    (pss_one (ps_ret (pe_join pe_str (pe_lc (own := [("k", 3)]) (g := gName 3) rfl sc_law_word.nd (pi_range1 rfl b_range (pa_cons (pe_op op_add pe_int (pe_op op_mod (pv 0) pe_int)) pa_nil)) (blkOk_by (own := [("k", 3)]) (N := n_law_word) (sc := defScope s_law_word) (by decide +kernel)) (fun _ _ _ _ _ => (pg_name (i := 3) sc_law_word.nd rfl (Or.inl rfl))) (fun _ _ _ _ _ => pts_nil) (fun _ _ _ _ _ => (pe_ix (r := rIxS) ix_str (pv 1) (pe_op op_mod (pe_op op_fdiv (pe_op op_mod (pe_op op_pow (pe_op op_add (pe_op op_add (pv 2) (pe_op op_mul pe_int (pv 3))) pe_int) pe_int) pe_int) pe_int) pe_int) (fun _ _ => rfl))))))))), ?_⟩
  refine ⟨_, rfl, _, _, rfl, rfl, ⟨by decide, by decide⟩, _, _, rfl, rfl, (by show (0 : Int) < 1000003; decide), ?_⟩
  have hb0 : 0 ≤ c / 6 % 1000003 := Int.emod_nonneg _ (by decide)
  have hb1 : c / 6 % 1000003 < 1000003 := Int.emod_lt_of_pos _ (by decide)
  have hm0 : 0 ≤ c % 6 := Int.emod_nonneg _ (by decide)
  have hm6 : c % 6 < 6 := Int.emod_lt_of_pos _ (by decide)
  refine ⟨⟨_, rfl⟩, _, rfl, _, _, rfl, rfl, (by show (0 : Int) < 6; decide), _, _, rfl, rfl, _, rfl, by omega, by omega, fun D nD => ?_⟩
  refine lc_range (lo := 0) (n := (1 + c % 6).toNat) (fun i H' => ∃ cs : List Nat, Same H H' ∧ H' D = some (.lst ((cs.map oneS).map V.str)) ∧ cs.length = i ∧ cs.all letter = true) ⟨[], .new nD, upd_same, rfl, rfl⟩ ?_ ?_
  · rintro i H2 hi ⟨cs, s2, hD, hl, hcs⟩
    refine ⟨rfl, ?_⟩
    obtain ⟨j, hj, hj26⟩ : ∃ j : Nat, ((c / 6 % 1000003 + 7919 * (0 + (i : Int)) + 1) ^ (5 : Int).toNat % 2147483647 / 8) % 26 = (j : Int) ∧ j < 26 :=
      ⟨(((c / 6 % 1000003 + 7919 * (0 + (i : Int)) + 1) ^ (5 : Int).toNat % 2147483647 / 8) % 26).toNat, by have := Int.emod_nonneg (((c / 6 % 1000003 + 7919 * (0 + (i : Int)) + 1) ^ (5 : Int).toNat % 2147483647 / 8)) (b := 26) (by decide); omega, by have := Int.emod_lt_of_pos (((c / 6 % 1000003 + 7919 * (0 + (i : Int)) + 1) ^ (5 : Int).toNat % 2147483647 / 8)) (b := 26) (by decide); omega⟩
    obtain ⟨ch, hc1, hc2⟩ := abc_at j hj26
    refine ⟨_, rfl, _, rfl, _, rfl, _, _, rfl, rfl, .inl ⟨by decide, by decide⟩, _, _, rfl, rfl, _, _, rfl, rfl, _, _, rfl, rfl, ⟨by decide, by decide, by omega⟩, _, _, rfl, rfl, (by show (0 : Int) < 2147483647; decide), _, _, rfl, rfl, ⟨by decide, by decide⟩, _, _, rfl, rfl, (by show (0 : Int) < 26; decide), ?_⟩
    refine ⟨abc, _, ch, rfl, rfl, by decide +kernel, (by rw [hj]; exact atI_nat hc1), ?_⟩
    refine ⟨_, hD, szb (by rw [List.length_map, List.length_map]; omega), cs ++ [ch], s2.mut nD, by rw [upd_same, List.map_append, List.map_append]; rfl, by rw [List.length_append, hl]; rfl, ?_⟩
    rw [List.all_append, hcs]
    show (true && (letter ch && true)) = true
    rw [hc2]
    rfl
  · rintro H2 ⟨cs, s2, hD, hl, hcs⟩
    have key : ((cs.map oneS).map (·.length)).sum ≤ 6 := by
      have : ∀ l : List Nat, ((l.map oneS).map (·.length)).sum = l.length := fun l => by
        induction l with
        | nil => rfl
        | cons x l ih => simp only [List.map_cons, List.sum_cons, ih, List.length_cons]; show 1 + _ = _; omega
      rw [this]
      omega
    refine ⟨_, D, cs.map oneS, rfl, rfl, .inl (sL hD), ?_, k H2 _ s2 (word_sign hcs (by omega) (by omega))⟩
    rw [show (Str.ofString "").length = 0 from by decide +kernel]
    omega
end
end Sw
set_option Elab.async false
set_option maxRecDepth 100000
set_option maxHeartbeats 4000000
namespace Sw
open PySem L2 PySem.Spec PyProof.Rows
theorem zip_prs {P : Program} {w : World} {ex : List V} : ∀ (kvs : List (Key × V)) (us ws : List Value), Vals ((kvs.map fun kv => kV kv.1) ++ ex) us → Vals (kvs.map (·.2)) ws →
    ∃ prs : List (Key × Value), KV kvs prs ∧ prs.length = kvs.length ∧ ∀ (i : Nat) (k v : Value), us[i]? = some k → ws[i]? = some v → ∃ kk, prs[i]? = some (kk, v) ∧ (mixKind P w).is kk k = true
  | [], us, ws, h1, h2 => by
    cases h2
    exact ⟨[], .nil, rfl, fun i k v e e2 => by simp at e2⟩
  | kv :: kvs, us, ws, h1, h2 => by
    cases h1 with
    | cons a c =>
      cases h2 with
      | cons b d =>
        rename_i u us' y ws'
        obtain ⟨prs, r, hl, hp⟩ := zip_prs (P := P) (w := w) kvs us' ws' c d
        refine ⟨(kv.1, y) :: prs, .cons ⟨rfl, b⟩ r, by rw [List.length_cons, List.length_cons, hl], fun i k v e1 e2 => ?_⟩
        cases i with
        | zero =>
          cases e1
          cases e2
          exact ⟨kv.1, rfl, kV_is a⟩
        | succ i =>
          obtain ⟨kk, z1, z2⟩ := hp i k v (by simpa using e1) (by simpa using e2)
          exact ⟨kk, by simpa using z1, z2⟩
/-- dict(zip(ks, vs)), ks and vs lists -/
def tDZip (K : PySem.W.Frag) (ta : TA) : TE := fun σ H Q => ta σ H fun vs H1 => ∃ (a b : Addr) (kvs : List (Key × V)) (ex : List V), vs = [.ref a, .ref b] ∧ SqL K H1 a ((kvs.map fun kv => kV kv.1) ++ ex) ∧ SqL K H1 b (kvs.map (·.2)) ∧
  ∀ p, H1 p = none → Q (.ref p) (upd H1 p (.dK (mergeK [] kvs)))
theorem pe_dictZip {X : Cx} {e e2 : Expr} {ta : TA} {p p2 pos pos2 : Pos} (hc : X.calm = true) (hg : Gl X "dict") (hm : X.mg "dict" = none) (hg2 : Gl X "zip") (hm2 : X.mg "zip" = none) (ha : PA X [e, e2] ta)
    (hs : starEach [e, e2] X.env = (false, eval e X.env) :: starEach [e2] X.env := by rfl) (hpl : (backTo pos2 (starEach [e2] X.env)).any (·.1) = false := by rfl)
    (hs1 : starEach [.Call (.Name "zip" p2) [e, e2] [] pos2] X.env = (false, eval (.Call (.Name "zip" p2) [e, e2] [] pos2) X.env) :: starEach [] X.env := by rfl) :
    PE X (.Call (.Name "dict" p) [.Call (.Name "zip" p2) [e, e2] [] pos2] [] pos) (tDZip X.K ta) := by
  refine ⟨fun pins s σ H Q I h => ?_⟩
  refine Call_ (ld_blt I hg hm PyProof.Rows.boot_dict (PyProof.Rows.callWith_type1 (args_cons ?_ hs1) hs1 rfl))
  refine Call_ (ld_blt I hg2 hm2 PyProof.Rows.boot_zip (PyProof.Rows.callWith_type1 (thn (ha.run pos2 pins s σ H _ I h) fun us s1 ⟨vs, H1, I1, r1, q1⟩ => ?_) hs hpl))
  obtain ⟨a, b, kvs, xtra, ex, hqx, hqy, q⟩ := q1
  subst ex
  cases r1 with
  | cons r rr =>
    cases rr with
    | cons r' rr =>
      cases rr
      cases r
      cases r'
      obtain ⟨its, rv, p1, z1⟩ := I1.list hqx
      obtain ⟨its2, rv2, p2, _⟩ := I1.list hqy
      have la : a < s1.heap.objs.size := p1.lt
      have lb : b < s1.heap.objs.size := p2.lt
      have fresh5 : ∀ c, c ∈ [s1.heap.objs.size + 4, s1.heap.objs.size + 3, s1.heap.objs.size, s1.heap.objs.size + 1] → FpOk X pins H1 c := fun c hcm => by
        have e' : c = s1.heap.objs.size + 4 ∨ c = s1.heap.objs.size + 3 ∨ c = s1.heap.objs.size ∨ c = s1.heap.objs.size + 1 := by simpa using hcm
        have hle : s1.heap.objs.size ≤ c := by
          rcases e' with z | z | z | z
          · rw [z]; exact Nat.le_add_right _ _
          · rw [z]; exact Nat.le_add_right _ _
          · rw [z]; exact Nat.le_refl _
          · rw [z]; exact Nat.le_add_right _ _
        exact I1.fpOk hle (I1.hok.fresh hle)
      refine call_zip_2 p1.isList p2.isList fun h' hz hTI hTO h1 h2 hsz hk => args_nil ?_
      have I2 : Inv X pins σ H1 { s1 with heap := h' } := I1.kept (t' := s1.toks) hk
      obtain ⟨prs, rel, hl, hp⟩ := zip_prs (P := X.prog) (w := X.w) kvs its its2 rv rv2
      have l1 : kvs.length ≤ its.length := by have := rv.length; rw [List.length_append, List.length_map] at this; omega
      have l2 : its2.length = kvs.length := by have := rv2.length; rw [List.length_map] at this; exact this.symm
      have hmin : min its.toArray.size its2.toArray.size = kvs.length := by rw [List.size_toArray, List.size_toArray, l2, Nat.min_eq_right l1]
      have hkl : kvs.length ≤ sizeLine := by rw [List.length_append, List.length_map] at z1; omega
      refine PySem.call_dict_pairs (knd := mixKind X.prog X.w) (kvs := prs) (PairArg.zip (s1.heap.objs.size + 4) (s1.heap.objs.size + 2) (s1.heap.objs.size + 3) s1.heap.objs.size (s1.heap.objs.size + 1) a b (PySem.W.ktu_apart s1.heap.objs.size a b la lb) its.toArray its2.toArray)
        (I2.ok.hd hc) ⟨hz, hTI, ⟨_, _, hTO⟩, h1, h2, p1.isList.at fun o e => hk _ o e, p2.isList.at fun o e => hk _ o e⟩ ⟨by rw [hl, hmin], fun i k v hh => ?_⟩ (by rw [hmin]; exact hkl) fun h'' tk hd k => ?_
      · obtain ⟨e1, e2⟩ := hh
        obtain ⟨kk, y1, y2⟩ := hp i k v (by simpa using e1) (by simpa using e2)
        exact ⟨kk, y1, y2⟩
      · have hm : (h'.objs.size == sysModules) = false := beq_eq_false_iff_ne.mpr (Nat.ne_of_gt I2.big)
        have hlen : (mergeK [] kvs).length ≤ sizeLine := by
          refine Nat.le_trans (length_mergeK kvs []) ?_
          rw [List.length_nil, Nat.zero_add]
          exact hkl
        refine ⟨.ref h'.objs.size, upd H1 h'.objs.size (.dK (mergeK [] kvs)), I2.turnedNew (t' := tk) (ch := [s1.heap.objs.size + 4, s1.heap.objs.size + 3, s1.heap.objs.size, s1.heap.objs.size + 1]) k fresh5 (Nat.le_refl _) ?_, rfl, q _ (I2.hok.fresh (Nat.le_refl _))⟩
        exact (show ObjOk X.prog X.w _ _ _ (.dK (mergeK [] kvs)) from ⟨hlen, hm, merged [] prs, KV.merge rel .nil, hd⟩)
end Sw
set_option Elab.async false
set_option maxRecDepth 100000
set_option maxHeartbeats 8000000
namespace Sw
open PySem L2 PySem.Spec PyProof.Rows TL
/-! ### other names for the signs -/
mutual
def Fm.ren (nm : Str → Str) : Fm → Fm
  | .sign s => .sign (nm s)
  | .row ps => .row (Fm.rens nm ps)
  | .pick ps => .pick (Fm.rens nm ps)
  | .times p l u => .times (p.ren nm) l u
def Fm.rens (nm : Str → Str) : List Fm → List Fm
  | [] => []
  | p :: ps => p.ren nm :: Fm.rens nm ps
end
theorem rens_map (nm : Str → Str) : ∀ ps : List Fm, Fm.rens nm ps = ps.map (Fm.ren nm)
  | [] => rfl
  | p :: ps => by rw [Fm.rens, rens_map nm ps, List.map_cons]
mutual
theorem ren_facts {nm : Str → Str} (hn : ∀ s, signS s = true → signS (nm s) = true) : ∀ f : Fm, (f.pr = true → (f.ren nm).pr = true) ∧ (f.ren nm).size = f.size ∧ (f.ren nm).dp = f.dp ∧ (f.ren nm).nst = f.nst ∧ (f.ren nm).sg = f.sg.map nm
  | .sign s => ⟨hn s, rfl, rfl, rfl, rfl⟩
  | .row ps => by
    obtain ⟨h1, h2, h3, h4, h5⟩ := rens_facts hn ps
    refine ⟨fun h => ?_, by simp [Fm.ren, Fm.size, h2], by simp [Fm.ren, Fm.dp, h3], by simp [Fm.ren, Fm.nst, h4], by simp [Fm.ren, Fm.sg, h5]⟩
    rw [Fm.pr, Bool.and_eq_true] at h
    rw [Fm.ren, Fm.pr, h1 h.2, rens_map, List.length_map, h.1]
    rfl
  | .pick ps => by
    obtain ⟨h1, h2, h3, h4, h5⟩ := rens_facts hn ps
    refine ⟨fun h => ?_, by simp [Fm.ren, Fm.size, h2], by simp [Fm.ren, Fm.dp, h3], by simp [Fm.ren, Fm.nst, h4], by simp [Fm.ren, Fm.sg, h5]⟩
    rw [Fm.pr, Bool.and_eq_true] at h
    rw [Fm.ren, Fm.pr, h1 h.2, rens_map, List.length_map, h.1]
    rfl
  | .times p l u => by
    obtain ⟨h1, h2, h3, h4, h5⟩ := ren_facts hn p
    refine ⟨fun h => ?_, by simp [Fm.ren, Fm.size, h2], by simp [Fm.ren, Fm.dp, h3], by simp [Fm.ren, Fm.nst, h4], by simp [Fm.ren, Fm.sg, h5]⟩
    rw [Fm.pr, Bool.and_eq_true] at h
    rw [Fm.ren, Fm.pr, h1 h.2, h.1]
    rfl
theorem rens_facts {nm : Str → Str} (hn : ∀ s, signS s = true → signS (nm s) = true) : ∀ ps : List Fm, (Fm.prs ps = true → Fm.prs (Fm.rens nm ps) = true) ∧ Fm.sizes (Fm.rens nm ps) = Fm.sizes ps ∧ Fm.dps (Fm.rens nm ps) = Fm.dps ps ∧ Fm.nsts (Fm.rens nm ps) = Fm.nsts ps ∧ Fm.sgs (Fm.rens nm ps) = (Fm.sgs ps).map nm
  | [] => ⟨fun _ => rfl, rfl, rfl, rfl, rfl⟩
  | p :: ps => by
    obtain ⟨h1, h2, h3, h4, h5⟩ := ren_facts hn p
    obtain ⟨g1, g2, g3, g4, g5⟩ := rens_facts hn ps
    refine ⟨fun h => ?_, by simp [Fm.rens, Fm.sizes, h2, g2], by simp [Fm.rens, Fm.dps, h3, g3], by simp [Fm.rens, Fm.nsts, h4, g4], by simp [Fm.rens, Fm.sgs, h5, g5]⟩
    rw [Fm.prs, Bool.and_eq_true] at h
    rw [Fm.rens, Fm.prs, h1 h.1, g1 h.2]
    rfl
end
theorem valV_mem : ∀ {kvs : List (L2.Key × V)} {k : L2.Key} {v : V}, valV kvs k = some v → ∃ kv, kv ∈ kvs ∧ kv.2 = v
  | [], k, v, h => by cases h
  | p :: r, k, v, h => by
    by_cases e : p.1 = k
    · rw [valV_pos e] at h
      exact ⟨p, by simp, Option.some.inj h⟩
    · rw [valV_neg e] at h
      obtain ⟨kv, h1, h2⟩ := valV_mem h
      exact ⟨kv, List.mem_cons_of_mem _ h1, h2⟩
theorem mergeK_all {Pr : V → Prop} : ∀ (more acc : List (L2.Key × V)), (∀ kv, kv ∈ acc → Pr kv.2) → (∀ kv, kv ∈ more → Pr kv.2) → ∀ kv, kv ∈ mergeK acc more → Pr kv.2
  | [], acc, h1, _, kv, hm => h1 kv hm
  | p :: r, acc, h1, h2, kv, hm => by
    refine mergeK_all r (putK acc p.1 p.2) (fun q hq => ?_) (fun q hq => h2 q (List.mem_cons_of_mem _ hq)) kv hm
    unfold putK at hq
    by_cases a : (acc.any fun kv => decide (kv.1 = p.1)) = true
    · rw [if_pos a] at hq
      obtain ⟨x, hx, rfl⟩ := List.mem_map.mp hq
      by_cases e : x.1 = p.1
      · rw [if_pos e]; exact h2 p (by simp)
      · rw [if_neg e]; exact h1 x hx
    · rw [if_neg a] at hq
      rcases List.mem_append.mp hq with hq | hq
      · exact h1 q hq
      · rw [List.mem_singleton.mp hq]; exact h2 p (by simp)
/-- the table's names -/
def nmOf (kvs : List (L2.Key × V)) (s : Str) : Str := match (valV kvs (.inr s)).getD (.str s) with
  | .str t => t
  | _ => s
theorem nmOf_eq {kvs : List (L2.Key × V)} (h : ∀ kv, kv ∈ kvs → ∃ t, kv.2 = .str t ∧ signS t = true) (s : Str) : (valV kvs (.inr s)).getD (.str s) = .str (nmOf kvs s) ∧ (signS s = true → signS (nmOf kvs s) = true) := by
  unfold nmOf
  cases e : valV kvs (.inr s) with
  | none => exact ⟨rfl, fun h => h⟩
  | some v =>
    obtain ⟨kv, h1, rfl⟩ := valV_mem e
    obtain ⟨t, h2, h3⟩ := h kv h1
    rw [h2]
    exact ⟨rfl, fun _ => h3⟩
section
variable {P : Program} {w : World} {K : PySem.W.Frag} {mg : Str → Option Value} {base : Heap}
abbrev n_law_named : List Str := ["form", "table", "part"]
theorem sc_law_named : FnScope n_law_named ["form", "table"] (defScope s_law_named) := ⟨rfl, rfl, rfl, by decide +kernel, rfl, by decide +kernel, by decide +kernel⟩
def spNamed (K : PySem.W.Frag) (n : Nat) : Sp := fun vs H Q _ => ∃ v ta f kvs, vs = [v, .ref ta] ∧ FmAt K H v f ∧ f.pr = true ∧ f.dp ≤ n ∧ H ta = some (.dK kvs) ∧ (∀ kv, kv ∈ kvs → ∃ t, kv.2 = .str t ∧ signS t = true) ∧ ∀ H' v', Same H H' → FmAt K H' v' (f.ren (nmOf kvs)) → Q v' H'
theorem ok_law_namedS (n : Nat) (F : DefAt K mg "_law_named" s_law_named ["form", "table"]) (d__law_named : DefOk P w K mg base "_law_named" (n + 1) ["form", "table"] (spNamed K n)) (b_tuple : mg "tuple" = none) : DefOk P w K mg base "_law_named" (n + 2) ["form", "table"] (spNamed K (n + 1)) := by
  refine F.ok sc_law_named (fun vs H Q E h => ?_) (fun f cdv A outer s H vs Q E hr h => ?_)
  · obtain ⟨_, _, _, _, rfl, _⟩ := h
    rfl
  obtain ⟨v, ta, fm, kvs, rfl, hf, hpr, hdp, hta, hkv, k⟩ := h
  have hu := hu_of hr
  refine ⟨_, (pss_cons (ps_if (pt_cmpR op_eq (pe_ix ix_tup (pv 0) pe_int (fun _ _ => rfl)) pe_str (nomark _)) (pss_one (ps_ret (pe_tup (pa_cons pe_str (pa_cons (pe_dget2 hu (pv 1) (pe_ix ix_tup (pv 0) pe_int (fun _ _ => rfl)) (pe_ix ix_tup (pv 0) pe_int (fun _ _ => rfl)) ⟨rfl, rfl, rfl, rfl⟩) pa_nil))))) pss_nil)
    (pss_cons (ps_if (pt_cmpR op_eq (pe_ix ix_tup (pv 0) pe_int (fun _ _ => rfl)) pe_str (nomark _)) (pss_one (ps_ret (pe_tup (pa_cons pe_str (pa_cons (pe_callD d__law_named (hr.mono (by omega)) rfl (pa_cons (pe_ix ix_tup (pv 0) pe_int (fun _ _ => rfl)) (pa_cons (pv 1) pa_nil))) (pa_cons (pe_ix ix_tup (pv 0) pe_int (fun _ _ => rfl)) (pa_cons (pe_ix ix_tup (pv 0) pe_int (fun _ _ => rfl)) pa_nil))))))) pss_nil)
    (pss_one (ps_ret (pe_tup (pa_cons (pe_ix ix_tup (pv 0) pe_int (fun _ _ => rfl)) (pa_cons (pe_callTy call_tuple_of (by rfl) b_tuple (by decide +kernel) (pa_cons (pe_lc (own := [("part", 2)]) (g := gName 2) rfl sc_law_named.nd (pi_tup (pe_ix ix_tup (pv 0) pe_int (fun _ _ => rfl))) (blkOk_by (own := [("part", 2)]) (N := n_law_named) (sc := defScope s_law_named) (by decide +kernel)) (fun _ _ _ _ _ => (pg_name (i := 2) sc_law_named.nd rfl (Or.inl rfl))) (fun _ _ _ _ _ => pts_nil) (fun _ _ _ _ _ => (pe_callD d__law_named (hr.mono (by omega)) rfl (pa_cons (pv 2) (pa_cons (pv 1) pa_nil))))) pa_nil)) pa_nil))))))), ?_⟩
  have walk : ∀ (a0 b : Addr) (us : List V) (ps : List Fm) (kd : Str) (hkd : us[0]? = some (.str kd)) (h1 : us[1]? = some (.ref b)) (h0 : SqT K H a0 us) (hb : ∃ vs, SqT K H b vs ∧ FmsAt K H vs ps) (hps : ∀ p, p ∈ ps → p.pr = true ∧ p.dp ≤ n) (hpl : ps.length ≤ 8)
      (R : VK), (∀ H' q, Same H H' → Dp K H' (.ref q) (.tuple [.str kd, .tuple (Fm.dats (Fm.rens (nmOf kvs) ps))]) → R (.ref q) H') →
      tTup (tCons (tOp (rIxT K) (tVar 0) (tC (.int 0))) (tCons (tCB (fun xs H Q => ∃ p ys, xs = [V.ref p] ∧ ((SqL K H p ys ∧ ∀ (l : Addr), H l = none → Q (V.ref l) (upd H l (HO.tup ys))) ∨ SqT K H p ys ∧ Q (V.ref p) H))
        (tCons (tLc (iTup K (tOp (rIxT K) (tVar 0) (tC (.int 1)))) (gName 2) tYes (tCall (spNamed K n) [] E0 (tCons (tVar 2) (tCons (tVar 1) tNil))) [2]) tNil)) tNil)) [some (.ref a0), some (.ref ta), none] H R := by
    rintro a0 b us ps kd hkd h1 h0 ⟨vs, hb, hvs⟩ hps hpl R hR
    have hvl := fmsLen hvs
    refine ⟨_, rfl, a0, us, 0, _, rfl, rfl, h0, atI_nat (j := 0) hkd, _, rfl, a0, us, 1, _, rfl, rfl, h0, atI_nat (j := 1) h1, b, rfl, ⟨_, hb⟩, fun D nD => ?_⟩
    refine lc_tup (K := K) (a := b) (xs := vs) (fun i H' => ∃ ws, Same H H' ∧ H' D = some (.lst ws) ∧ FmsAt K H' ws (Fm.rens (nmOf kvs) (ps.take i))) ⟨[], .new nD, upd_same, .nil⟩ (fun i H' _ ⟨_, g, _⟩ => g.sqT hb) ?_ ?_
    · rintro i x H2 hx ⟨ws, s2, hD, hws⟩
      obtain ⟨g, hg, hxg⟩ := fmsAtI hvs hx
      obtain ⟨g1, g2⟩ := hps g (List.mem_of_getElem? hg)
      have hwl := fmsLen hws
      refine ⟨rfl, ?_⟩
      refine ⟨_, rfl, _, rfl, x, ta, g, kvs, rfl, dpS s2 hxg, g1, g2, s2 _ _ hta, hkv, fun H3 y s3 hy => ?_⟩
      have hD3 := s3 _ _ hD
      refine ⟨ws, hD3, szb (by rw [hwl, rens_map, List.length_map, List.length_take]; omega), ws ++ [y], (s2.trans s3).mut nD, upd_same, ?_⟩
      rw [List.take_add_one, hg, Option.toList_some, rens_map, List.map_append, ← rens_map]
      exact fmsSnoc (fmW hD3 hy) (fmsW hD3 (dpsS s3 hws))
    · rintro H2 ⟨ws, s2, hD, hws⟩
      rw [hvl, List.take_length] at hws
      refine ⟨D, ws, rfl, .inl ⟨sL hD, fun l nl => ⟨(by show 2 ≤ sizeLine; decide), fun q nq => ?_⟩⟩⟩
      have r1 : Same H2 (upd H2 l (.tup ws)) := .new nl
      have r2 : Same (upd H2 l (.tup ws)) (upd (upd H2 l (.tup ws)) q (.tup [.str kd, .ref l])) := .new nq
      exact hR _ q (s2.trans (r1.trans r2)) (.tup (sT upd_same) (.cons (.str _) (.cons (.tup (sT (r2 _ _ upd_same)) (dpsS (r1.trans r2) hws)) .nil)))
  obtain ⟨a0, us, rfl, h0, hk0⟩ := fm0 hf
  refine ⟨_, rfl, a0, _, 0, _, rfl, rfl, h0, atI_nat (j := 0) hk0, rfl, _, rfl, ?_⟩
  have sub : ∀ p, p ∈ fm.parts → p.pr = true ∧ p.dp ≤ n := fun p hp => ⟨pr_parts hpr p hp, by have := dp_parts hp; omega⟩
  cases fm with
  | sign t =>
    obtain ⟨a, ea, ht⟩ := fmSign hf
    cases ea
    refine iteT ?_
    refine ⟨_, rfl, ta, rfl, .inl ⟨_, .inl hta⟩, _, rfl, a0, _, 1, _, rfl, rfl, ht, atI_nat (j := 1) rfl, _, rfl, a0, _, 1, _, rfl, rfl, ht, atI_nat (j := 1) rfl, _, DGet.k (k := .inr t) hta, ?_⟩
    rw [(nmOf_eq hkv t).1]
    exact ⟨(by show 2 ≤ sizeLine; decide), fun q nq => k _ _ (.new nq) (sign_at upd_same)⟩
  | row ps =>
    obtain ⟨a, b, vs, ea, ht, hb, hv⟩ := fmRow hf
    cases ea
    refine iteF ?_
    refine ⟨_, rfl, a0, _, 0, _, rfl, rfl, h0, atI_nat (j := 0) hk0, rfl, _, rfl, iteF ?_⟩
    refine walk a0 b _ ps "row" rfl rfl ht ⟨vs, hb, hv⟩ sub ?_ _ fun H' q s hq => k H' _ s hq
    rw [Fm.pr, Bool.and_eq_true] at hpr
    exact of_decide_eq_true hpr.1
  | pick ps =>
    obtain ⟨a, b, vs, ea, ht, hb, hv⟩ := fmPick hf
    cases ea
    refine iteF ?_
    refine ⟨_, rfl, a0, _, 0, _, rfl, rfl, h0, atI_nat (j := 0) hk0, rfl, _, rfl, iteF ?_⟩
    refine walk a0 b _ ps "pick" rfl rfl ht ⟨vs, hb, hv⟩ sub ?_ _ fun H' q s hq => k H' _ s hq
    rw [Fm.pr, Bool.and_eq_true, Bool.and_eq_true] at hpr
    exact of_decide_eq_true hpr.1.2
  | times p l u =>
    obtain ⟨a, b, ea, ht, hb⟩ := fmTimes hf
    cases ea
    obtain ⟨g1, g2⟩ := sub p (List.mem_singleton.mpr rfl)
    refine iteF ?_
    refine ⟨_, rfl, a0, _, 0, _, rfl, rfl, h0, atI_nat (j := 0) hk0, rfl, _, rfl, iteT ?_⟩
    refine ⟨_, rfl, a0, _, 1, _, rfl, rfl, ht, atI_nat (j := 1) rfl, _, rfl, b, ta, p, kvs, rfl, hb, g1, g2, hta, hkv, fun H2 y s2 hy => ?_⟩
    have ht2 := s2.sqT ht
    refine ⟨_, rfl, a0, _, 2, _, rfl, rfl, ht2, atI_nat (j := 2) rfl, _, rfl, a0, _, 3, _, rfl, rfl, ht2, atI_nat (j := 3) rfl, (by show 4 ≤ sizeLine; decide), fun q nq => ?_⟩
    exact k _ _ (s2.trans (.new nq)) (.tup (sT upd_same) (.cons (.str _) (.cons (dpS (.new nq) hy) (.cons (.int _) (.cons (highDp u) .nil)))))
theorem ok_law_named0 (F : DefAt K mg "_law_named" s_law_named ["form", "table"]) : DefOk P w K mg base "_law_named" 1 ["form", "table"] (spNamed K 0) := by
  refine F.ok sc_law_named (fun vs H Q E h => ?_) (fun f cdv A outer s H vs Q E hr h => ?_)
  · obtain ⟨_, _, _, _, rfl, _⟩ := h
    rfl
  obtain ⟨v, ta, fm, kvs, rfl, hf, hpr, hdp, hta, hkv, k⟩ := h
  have := dp_pos fm
  omega
theorem ok_law_named (F : DefAt K mg "_law_named" s_law_named ["form", "table"]) (b_tuple : mg "tuple" = none) : ∀ n : Nat, DefOk P w K mg base "_law_named" (n + 1) ["form", "table"] (spNamed K n)
  | 0 => ok_law_named0 F
  | n + 1 => ok_law_namedS n F (ok_law_named F b_tuple n) b_tuple
end
end Sw
set_option Elab.async false
set_option maxRecDepth 100000
set_option maxHeartbeats 8000000
namespace Sw
open PySem L2 PySem.Spec PyProof.Rows TL
theorem neDD {K : PySem.W.Frag} {H : Hp} {x y : V} {d : PyData} {Q : VK} (hx : Dp K H x d) (hy : Dp K H y d) (hs : SeqAt.shaped d = true) (he : PyData.eqv d d = true) (q : Q (.bl false) H) : rNeD K x y H Q :=
  ⟨d, d, hx, hy, hs, hs, by rw [he]; exact q⟩
theorem cut_last3 (ns : List Int) : ∃ ms : List Int, cutV (ns.map V.int) (some (-3)) none = ms.map V.int ∧ ms.length ≤ 3 := by
  refine ⟨(ns.drop (HT.sIx (ns.map V.int).length 0 (some (-3)))).take (HT.sIx (ns.map V.int).length (ns.map V.int).length none - HT.sIx (ns.map V.int).length 0 (some (-3))), ?_, ?_⟩
  · unfold cutV
    rw [List.map_take, List.map_drop]
  · rw [List.length_take, List.length_drop, List.length_map, HT.sIx_none]
    have : ns.length - 3 ≤ HT.sIx ns.length 0 (some (-3)) := by
      unfold HT.sIx
      first | (simp; omega) | (simp only []; split <;> omega) | omega
    omega
/-- zip of the three names and some words -/
def zipK (ts : List Str) : List (L2.Key × V) := ((["a", "b", "ab"] : List Str).zip ts).map fun p => (.inr p.1, .str p.2)
theorem zipK_keys : ∀ (ts : List Str), ts.length ≤ 3 → ∃ ex : List V, [V.str "a", V.str "b", V.str "ab"] = ((zipK ts).map fun kv => kV kv.1) ++ ex ∧ (zipK ts).map (·.2) = ts.map V.str
  | [], _ => ⟨[V.str "a", V.str "b", V.str "ab"], rfl, rfl⟩
  | [x], _ => ⟨[V.str "b", V.str "ab"], rfl, rfl⟩
  | [x, y], _ => ⟨[V.str "ab"], rfl, rfl⟩
  | [x, y, z], _ => ⟨[], rfl, rfl⟩
  | _ :: _ :: _ :: _ :: _, h => absurd h (by simp)
theorem zipK_val {ts : List Str} (h : ∀ t, t ∈ ts → signS t = true) : ∀ kv, kv ∈ zipK ts → ∃ t, kv.2 = .str t ∧ signS t = true := by
  intro kv hm
  obtain ⟨p, hp, rfl⟩ := List.mem_map.mp hm
  exact ⟨p.2, rfl, h p.2 (List.of_mem_zip hp).2⟩
section
variable {P : Program} {w : World} {K : PySem.W.Frag} {mg : Str → Option Value} {base : Heap}
abbrev n_law : List Str := ["script", "state", "form", "cell", "words", "one", "k", "near", "more", "text", "told", "found"]
theorem sc_law : FnScope n_law ["script"] (defScope s_law) := ⟨rfl, rfl, rfl, by decide +kernel, rfl, by decide +kernel, by decide +kernel⟩
def spLaw (K : PySem.W.Frag) (T : Addr) : Sp := fun vs H Q _ => ∃ (a : Addr) (ns : List Int), vs = [.ref a] ∧ SqL K H a (ns.map V.int) ∧ ns.length ≤ 63 ∧ H T = some (TabE T) ∧ ∀ H', Same H H' → Q (.bl true) H'
/-- what stands when the form is drawn -/
structure FmSt (K : PySem.W.Frag) (H H' : Hp) (v : V) (f : Fm) (s d : Nat) (L : List Str) : Prop where
  same : Same H H'
  at_ : FmAt K H' v f
  pr : f.pr = true
  size : f.size ≤ s
  dp : f.dp ≤ d
  nst : f.nst ≤ 3
  sg : ∀ t, t ∈ f.sg → t ∈ L
theorem lw_sg : ∀ (n : Nat) (f : Fm), Lw n f → ∀ t, t ∈ f.sg → t ∈ (["a", "b", "ab", "c"] : List Str)
  | 0, .sign s, h, t, ht => by
    rw [Fm.sg, List.mem_singleton] at ht
    subst ht
    rcases h with rfl | rfl | rfl | rfl <;> simp
  | 0, .row ps, h, _, _ => h.elim
  | 0, .pick ps, h, _, _ => h.elim
  | 0, .times p l u, h, _, _ => h.elim
  | n + 1, .sign s, h, t, ht => by
    rw [Fm.sg, List.mem_singleton] at ht
    subst ht
    rcases h with rfl | rfl | rfl | rfl <;> simp
  | n + 1, .row ps, h, t, ht => by
    rw [Fm.sg] at ht
    obtain ⟨p, hp, ht⟩ := sgs_mem.mp ht
    exact lw_sg n p (h.2 p hp) t ht
  | n + 1, .pick ps, h, t, ht => by
    rw [Fm.sg] at ht
    obtain ⟨p, hp, ht⟩ := sgs_mem.mp ht
    exact lw_sg n p (h.2.2 p hp) t ht
  | n + 1, .times p l u, h, t, ht => by
    rw [Fm.sg] at ht
    exact lw_sg n p h.1 t ht
theorem sgs_append : ∀ (a b : List Fm), Fm.sgs (a ++ b) = Fm.sgs a ++ Fm.sgs b
  | [], b => rfl
  | p :: a, b => by rw [List.cons_append, Fm.sgs, Fm.sgs, sgs_append a b, List.append_assoc]
theorem nsts_append : ∀ (a b : List Fm), Fm.nsts (a ++ b) = max (Fm.nsts a) (Fm.nsts b)
  | [], b => by simp [Fm.nsts]
  | p :: a, b => by simp [Fm.nsts, nsts_append a b, Nat.max_assoc]
theorem repB : ∀ m : Nat, Fm.nsts (List.replicate m (.sign "b")) = 0 ∧ ∀ t, t ∈ Fm.sgs (List.replicate m (.sign "b")) → t = "b"
  | 0 => ⟨rfl, fun t h => by cases h⟩
  | m + 1 => by
    obtain ⟨h1, h2⟩ := repB m
    rw [List.replicate_succ]
    refine ⟨by rw [Fm.nsts, h1]; rfl, fun t ht => ?_⟩
    rw [Fm.sgs, List.mem_append] at ht
    rcases ht with ht | ht
    · exact List.mem_singleton.mp ht
    · exact h2 t ht
theorem ok_law {f : Addr} {fd : FuncData} {T : Addr} (F : Fun K "law" "law" s_law f fd) (d__law_form : DefOk P w K mg base "_law_form" 5 ["state", "left", "times"] (spForm K 3)) (d__law_word : DefOk P w K mg base "_law_word" 1 ["cell"] spWord)
    (d__law_named : DefOk P w K mg base "_law_named" 5 ["form", "table"] (spNamed K 4)) (d__law_words : DefOk P w K mg base "_law_words" 13 ["form"] (spWords K 12)) (d_form_text : DefOk P w K mg base "form_text" 2 ["form"] (spText K)) (d_read_form : DefOk P w K mg base "read_form" 5 ["text"] (spRead K T))
    (d__law_whole : DefOk P w K mg base "_law_whole" 13 ["form"] (spWhol K 12)) (b_len : mg "len" = none) (b_range : mg "range" = none) (b_isinstance : mg "isinstance" = none) (b_str : mg "str" = none) (b_dict : mg "dict" = none) (b_zip : mg "zip" = none) : FnOk P w K mg base CX0 14 f fd ["script"] (spLaw K T) := by
  refine F.ok sc_law (fun vs H Q E h => ?_) (fun cdv A outer s H vs Q E hr h => ?_)
  · obtain ⟨_, _, rfl, _⟩ := h
    rfl
  obtain ⟨a, ns, rfl, hS, hlen, hT, k⟩ := h
  -- behind the form
  obtain ⟨t2, h2, f2⟩ : ∃ t2, PSs (cxOf CX0 P w K mg base n_law "law" (defScope s_law) f cdv A outer s H E).nox ((defBody s_law).drop 6) t2 ∧
      ∀ (v : V) (fm : Fm) (st : Addr) (o3 o4 o5 o6 o7 o8 : Option V) (L : List Str) (H1 : Hp), L.length ≤ 5 → FmSt K H H1 v fm 56 12 L →
        t2 { nx := fun _ H' => Q .non H', rt := Q } [some (.ref a), some (.ref st), some v, o3, o4, o5, o6, o7, o8, none, none, none] H1 := by
    refine ⟨_, (pss_cons (ps_set (i := 9) sc_law.nd rfl (Or.inl rfl) (pe_join pe_str (pe_callD d__law_words (hr.mono (by decide)) rfl (pa_cons (pv 2) pa_nil))))
    (pss_cons (ps_set (i := 10) sc_law.nd rfl (Or.inl rfl) (pe_callD d_form_text (hr.mono (by decide)) rfl (pa_cons (pv 2) pa_nil)))
    (pss_cons (ps_set (i := 11) sc_law.nd rfl (Or.inl rfl) (pe_callD d_read_form (hr.mono (by decide)) rfl (pa_cons (pv 9) pa_nil)))
    (pss_cons (ps_if (PW.pt (pw_or (pt_not (pt_val (pe_callB call_isi (by rfl) b_isinstance (by decide +kernel) (pa_cons (pv 10) (pa_cons (pe_bltn (v := .ty "str") (by rfl) b_str (by decide +kernel) rfl) pa_nil))))) (pw_or (pt_cmpR op_ne (pv 10) (pv 9) (nomark _)) (pw_or (pt_cmpR (op_neD hr.units) (pv 11) (pv 2) (nomark _)) (pw_or1 (pt_not (pt_val (pe_callD d__law_whole (hr.mono (by decide)) rfl (pa_cons (pv 11) pa_nil))))))))) (pss_one (ps_ret pe_bl)) pss_nil)
    (pss_one (ps_ret (pe_cmpR op_eq (pe_callD d_form_text (hr.mono (by decide)) rfl (pa_cons (pv 11) pa_nil)) (pv 9) (nomark _)))))))), ?_⟩
    intro v fm st o3 o4 o5 o6 o7 o8 L H1 hL FS
    obtain ⟨s1, hf, hpr, hsz, hdp, hns, hsg⟩ := FS
    have hfit : Fit fm := ⟨hpr, by omega, hdp, hns, by
      rw [sgF_sg]
      exact Nat.le_trans (nd_le (nubL_nd _) fun x hx => hsg x (nubL_mem.mp hx)) (by omega)⟩
    have hshf : SeqAt.shaped fm.dat = true := shFm (prOk fm hpr).1 (by omega)
    refine ⟨⟨_, rfl⟩, _, rfl, v, fm, rfl, hf, hpr, by omega, hdp, fun H2 wa s2 nwa hwa => ⟨_, wa, fm.wd, rfl, rfl, .inl (sL hwa), ?_, ?_⟩⟩
    · have := wd_sum hpr
      rw [show (Str.ofString " ").length = 1 from by decide +kernel]
      omega
    refine ⟨_, rfl, v, fm, rfl, dpS s2 hf, hpr, by omega, fun H3 s3 => ?_⟩
    have hT3 := (s1.trans (s2.trans s3)) _ _ hT
    refine ⟨_, rfl, fm, rfl, hfit, hT3, fun H4 u s4 hu => ?_⟩
    have hv4 := dpS (s2.trans (s3.trans s4)) hf
    refine ⟨_, rfl, _, .ty "str", _, _, _, rfl, .ty _, tyX (K := K) (H := H4) (.str (Txt.join " " fm.wd)), isStr (K := K) (H := H4) (.str (Txt.join " " fm.wd)), _, rfl, ?_⟩
    rw [show isStrD (.str (Txt.join " " fm.wd)) = true from rfl]
    refine iteF ?_
    refine ⟨_, rfl, _, rfl, rfl, _, rfl, ?_⟩
    rw [decide_eq_true (show V.str (Txt.join " " fm.wd) = V.str (Txt.join " " fm.wd) from rfl)]
    refine iteF ?_
    refine ⟨_, rfl, _, rfl, neDD (K := K) hu hv4 hshf (eqvFm fm) ?_⟩
    refine ⟨_, rfl, iteF ?_⟩
    refine ⟨_, rfl, u, fm, rfl, hu, hpr, hdp, fun H5 s5 => ⟨_, rfl, iteF ?_⟩⟩
    refine ⟨_, rfl, u, fm, rfl, dpS s5 hu, hpr, by omega, fun H6 s6 => ?_⟩
    refine ⟨_, rfl, rfl, ?_⟩
    rw [decide_eq_true (show V.str (Txt.join " " fm.wd) = V.str (Txt.join " " fm.wd) from rfl)]
    exact k _ (s1.trans (s2.trans (s3.trans (s4.trans (s5.trans s6)))))
  -- behind the cell
  obtain ⟨t3, h3, f3⟩ : ∃ t3, PSs (cxOf CX0 P w K mg base n_law "law" (defScope s_law) f cdv A outer s H E).nox ((defBody s_law).drop 3) t3 ∧
      ∀ (v : V) (fm : Fm) (st : Addr) (c : Int) (H1 : Hp), FmSt K H H1 v fm 40 4 ["a", "b", "ab", "c"] →
        t3 { nx := fun _ H' => Q .non H', rt := Q } [some (.ref a), some (.ref st), some v, some (.int c), none, none, none, none, none, none, none, none] H1 := by
    refine ⟨_, (pss_cons (ps_setLc (i := 4) (own := [("one", 5)]) (g := gName 5) rfl sc_law.nd rfl rfl (sw_true rfl rfl rfl (by decide +kernel)) (pi_list (pe_slice sl_list (pv 0) (po_some (pe_un un_neg pe_int)) po_none)) (blkOk_by (own := [("one", 5)]) (N := n_law) (sc := defScope s_law) (by decide +kernel)) (fun _ _ _ _ _ => (pg_name (i := 5) sc_law.nd rfl (Or.inl rfl))) (fun _ _ _ _ _ => pts_nil) (fun _ _ _ _ _ => (pe_callD d__law_word (hr.mono (by decide)) rfl (pa_cons (pv 5) pa_nil))))
    (pss_cons (ps_set (i := 2) sc_law.nd rfl (Or.inl rfl) (pe_callD d__law_named (hr.mono (by decide)) rfl (pa_cons (pv 2) (pa_cons (pe_dictZip rfl rfl b_dict rfl b_zip (pa_cons (pe_lst (pa_cons pe_str (pa_cons pe_str (pa_cons pe_str pa_nil)))) (pa_cons (pv 4) pa_nil))) pa_nil))))
    (pss_cons (ps_for PassesOwn.never rfl (pi_range1 rfl b_range (pa_cons (pe_op op_mod (pe_op op_fdiv (pv 3) pe_int) pe_int) pa_nil)) (pg_name (i := 6) sc_law.nd rfl (Or.inl rfl))
      (pss_cons (ps_set (i := 7) sc_law.nd rfl (Or.inl rfl) (pe_op op_fdiv (pe_op op_mod (pe_op op_pow (pe_op op_add (pe_op op_add (pe_op op_mod (pe_op op_fdiv (pv 3) pe_int) pe_int) (pe_op op_mul pe_int (pv 6))) pe_int) pe_int) pe_int) pe_int))
    (pss_cons (ps_set (i := 8) sc_law.nd rfl (Or.inl rfl) (pe_op op_mulA (pe_tup (pa_cons (pe_tup (pa_cons pe_str (pa_cons pe_str pa_nil))) pa_nil)) (pe_op op_mod (pe_op op_fdiv (pv 7) pe_int) pe_int)))
    (pss_one (ps_set (i := 2) sc_law.nd rfl (Or.inl rfl) (pe_tup (pa_cons (pe_ix ix_list (pe_lst (pa_cons pe_str (pa_cons pe_str pa_nil))) (pe_op op_mod (pv 7) pe_int) (fun _ _ => rfl)) (pa_cons (pe_op op_catA (pv 8) (pe_tup (pa_cons (pv 2) pa_nil))) pa_nil))))))))
      h2))), ?_⟩
    rintro v0 fm0' st c H1 F1
    -- words
    obtain ⟨ms, hms, hml⟩ := cut_last3 ns
    refine ⟨_, rfl, _, rfl, _, rfl, a, _, rfl, F1.same.seq hS, fun sl nsl => ?_⟩
    rw [hms]
    have r1 : Same H1 (upd H1 sl (.lst (ms.map V.int))) := .new nsl
    have hsl : (upd H1 sl (.lst (ms.map V.int))) sl = some (.lst (ms.map V.int)) := upd_same
    generalize upd H1 sl (.lst (ms.map V.int)) = H2 at r1 hsl ⊢
    refine ⟨sl, rfl, ⟨_, sL hsl⟩, fun D nD => ?_⟩
    refine lc_list (K := K) (a := sl) (xs := ms.map V.int) (fun i H' => ∃ ts : List Str, Same H2 H' ∧ H' D = some (.lst (ts.map V.str)) ∧ ts.length = i ∧ ∀ t, t ∈ ts → signS t = true) ⟨[], .new nD, upd_same, rfl, fun t h => by cases h⟩ (fun i H' _ ⟨_, g, _⟩ => sL (g _ _ hsl)) ?_ ?_
    · rintro i x H3 hx ⟨ts, s3, hD, hl, hts⟩
      rw [List.getElem?_map] at hx
      obtain ⟨z, hz, rfl⟩ := Option.map_eq_some_iff.mp hx
      have hi := (List.getElem?_eq_some_iff.mp hz).1
      refine ⟨rfl, ?_⟩
      refine ⟨_, rfl, z, rfl, fun H4 t s4 ht => ?_⟩
      have hD4 := s4 _ _ hD
      refine ⟨_, hD4, szb (by rw [List.length_map]; omega), ts ++ [t], (s3.trans s4).mut nD, by rw [upd_same, List.map_append]; rfl, by rw [List.length_append, hl]; rfl, fun u hu => ?_⟩
      rcases List.mem_append.mp hu with hu | hu
      · exact hts u hu
      · rw [List.mem_singleton.mp hu]; exact ht
    rintro H3 ⟨ts, s3, hD, hl, hts⟩
    rw [List.length_map] at hl
    obtain ⟨ex, hk1, hk2⟩ := zipK_keys ts (by omega)
    have hkv := mergeK_all (Pr := fun v => ∃ t, v = .str t ∧ signS t = true) (zipK ts) [] (fun kv h => by cases h) (zipK_val hts)
    have s13 := F1.same.trans (r1.trans s3)
    -- other names
    refine ⟨_, rfl, (by show 3 ≤ sizeLine; decide), fun kl nkl => ⟨_, rfl, kl, D, zipK ts, ex, rfl, ?_, ?_, fun dt ndt => ?_⟩⟩
    · rw [← hk1]
      exact sL upd_same
    · rw [hk2]
      exact sL ((Same.new nkl) _ _ hD)
    have r4 : Same H3 (upd H3 kl (.lst [.str "a", .str "b", .str "ab"])) := .new nkl
    have r5 : Same (upd H3 kl (.lst [.str "a", .str "b", .str "ab"])) (upd (upd H3 kl (.lst [.str "a", .str "b", .str "ab"])) dt (.dK (mergeK [] (zipK ts)))) := .new ndt
    have r35 := r4.trans r5
    refine ⟨v0, dt, fm0', mergeK [] (zipK ts), rfl, dpS (r1.trans (s3.trans r35)) F1.at_, F1.pr, F1.dp, upd_same, hkv, fun H4 v1 s4 hv1 => ?_⟩
    have hn : ∀ s, signS s = true → signS (nmOf (mergeK [] (zipK ts)) s) = true := fun s => (nmOf_eq hkv s).2
    obtain ⟨n1, n2, n3, n4, n5⟩ := ren_facts hn fm0'
    have F4 : FmSt K H H4 v1 (fm0'.ren (nmOf (mergeK [] (zipK ts)))) 40 4 ("b" :: (["a", "b", "ab", "c"] : List Str).map (nmOf (mergeK [] (zipK ts)))) :=
      ⟨s13.trans (r35.trans s4), hv1, n1 F1.pr, by rw [n2]; exact F1.size, by rw [n3]; exact F1.dp, by rw [n4]; exact F1.nst, fun t ht => by
        rw [n5] at ht
        obtain ⟨x, hx, rfl⟩ := List.mem_map.mp ht
        exact List.mem_cons_of_mem _ (List.mem_map.mpr ⟨x, F1.sg x hx, rfl⟩)⟩
    have hL5 : (("b" : Str) :: (["a", "b", "ab", "c"] : List Str).map (nmOf (mergeK [] (zipK ts)))).length ≤ 5 := by simp
    generalize hLL : (("b" : Str) :: (["a", "b", "ab", "c"] : List Str).map (nmOf (mergeK [] (zipK ts)))) = L at F4 hL5
    have hbL : ("b" : Str) ∈ L := by rw [← hLL]; exact List.mem_cons_self
    generalize fm0'.ren (nmOf (mergeK [] (zipK ts))) = fm1 at F4
    -- around it
    have hm0 : 0 ≤ c / 5 % 9 := Int.emod_nonneg _ (by decide)
    have hm9 : c / 5 % 9 < 9 := Int.emod_lt_of_pos _ (by decide)
    refine ⟨_, rfl, _, _, rfl, rfl, ⟨by decide, by decide⟩, _, _, rfl, rfl, (by show (0 : Int) < 9; decide), _, rfl, by omega, by omega, ?_⟩
    refine for_range (lo := 0) (n := (c / 5 % 9).toNat) (fun i σ H' => ∃ (v : V) (fm : Fm) (o5 o6 o7 o8 : Option V), σ = [some (.ref a), some (.ref st), some v, some (.int c), some (.ref D), o5, o6, o7, o8, none, none, none] ∧ FmSt K H H' v fm (40 + 2 * i) (4 + i) L)
      ⟨v1, fm1, _, none, none, none, rfl, F4⟩ ?_ ?_
    · rintro i σ H2' hi ⟨v, fm, o5, o6, o7, o8, rfl, F2⟩
      clear F4
      obtain ⟨s2, hf, hpr, hsz, hdp, hns, hsg⟩ := F2
      have hi9 : i < 9 := by omega
      -- near
      refine ⟨_, rfl, _, _, rfl, rfl, ⟨by decide, by decide⟩, _, _, rfl, rfl, (by show (0 : Int) < 1000003; decide), _, rfl, _, _, rfl, rfl, .inl ⟨by decide, by decide⟩, _, _, rfl, rfl, _, _, rfl, rfl, _, _, rfl, rfl, ⟨by decide, by decide, ?_⟩, _, _, rfl, rfl, (by show (0 : Int) < 2147483647; decide), _, _, rfl, rfl, ⟨by decide, by decide⟩, ?_⟩
      · have q0 : 0 ≤ c / 45 % 1000003 := Int.emod_nonneg _ (by decide)
        have q1 : c / 45 % 1000003 < 1000003 := Int.emod_lt_of_pos _ (by decide)
        omega
      refine ⟨(by show 2 ≤ sizeLine; decide), fun sb nsb => ?_⟩
      have r2 : Same H2' (upd H2' sb (.tup [.str "sign", .str "b"])) := .new nsb
      have hb : FmAt K (upd H2' sb (.tup [.str "sign", .str "b"])) (.ref sb) (.sign "b") := sign_at upd_same
      generalize upd H2' sb (.tup [.str "sign", .str "b"]) = H4' at r2 hb ⊢
      refine ⟨(by show 1 ≤ sizeLine; decide), fun tb ntb => ?_⟩
      have r3 : Same H4' (upd H4' tb (.tup [.ref sb])) := .new ntb
      have htb : SqT K (upd H4' tb (.tup [.ref sb])) tb [.ref sb] := sT upd_same
      generalize upd H4' tb (.tup [.ref sb]) = H5 at r3 htb ⊢
      obtain ⟨m, hm, hm1⟩ := mod2 (((c / 45 % 1000003 + 7919 * (0 + (i : Int)) + 1) ^ (5 : Int).toNat % 2147483647 / 8) / 2)
      refine ⟨_, rfl, _, _, rfl, rfl, ⟨by decide, by decide⟩, _, _, rfl, rfl, (by show (0 : Int) < 2; decide), tb, _, _, rfl, rfl, htb, by simp, by omega, by omega, by simp, fun H6 mb r4 hmb => ?_⟩
      have hmb : SqT K H6 mb (List.replicate m [V.ref sb]).flatten := by
        have e : (((c / 45 % 1000003 + 7919 * (0 + (i : Int)) + 1) ^ (5 : Int).toNat % 2147483647 / 8) / 2 % 2).toNat = m := by rw [hm, Int.toNat_natCast]
        rw [← e]
        exact hmb
      refine ⟨(by show 2 ≤ sizeLine; decide), fun Lr nL => ?_⟩
      have r5 : Same H6 (upd H6 Lr (.lst [.str "row", .str "pick"])) := .new nL
      have hLr : (upd H6 Lr (.lst [.str "row", .str "pick"])) Lr = some (.lst [.str "row", .str "pick"]) := upd_same
      generalize upd H6 Lr (.lst [.str "row", .str "pick"]) = H7 at r5 hLr ⊢
      obtain ⟨kd, hk1', hk2'⟩ := pick2 ((c / 45 % 1000003 + 7919 * (0 + (i : Int)) + 1) ^ (5 : Int).toNat % 2147483647 / 8)
      refine ⟨_, rfl, _, _, rfl, rfl, (by show (0 : Int) < 2; decide), Lr, _, _, _, rfl, rfl, sL hLr, hk1', ?_⟩
      refine ⟨_, rfl, _, rfl, (by show 1 ≤ sizeLine; decide), fun tv ntv => ?_⟩
      have r6 : Same H7 (upd H7 tv (.tup [v])) := .new ntv
      refine catA ((r5.trans r6).sqT hmb) (sT upd_same) (szl (by rw [flatLen]; show m + 1 ≤ _; omega)) fun H8 pt r7 hpt => ?_
      have r27 := r2.trans (r3.trans (r4.trans (r5.trans (r6.trans r7))))
      refine ⟨(by show 2 ≤ sizeLine; decide), fun nf nnf => ?_⟩
      have r8 : Same H8 (upd H8 nf (.tup [.str kd, .ref pt])) := .new nnf
      have hnf : (upd H8 nf (.tup [.str kd, .ref pt])) nf = some (.tup [.str kd, .ref pt]) := upd_same
      generalize upd H8 nf (.tup [.str kd, .ref pt]) = H9 at r8 hnf ⊢
      have hps : FmsAt K H9 ((List.replicate m [V.ref sb]).flatten ++ [v]) (List.replicate m (.sign "b") ++ [fm]) := fmsSnoc (dpS (r27.trans r8) hf) (fmsRep (dpS (r3.trans (r4.trans (r5.trans (r6.trans (r7.trans r8))))) hb) m)
      obtain ⟨e1, e2, _⟩ := repS (.sign "b") m
      obtain ⟨e4, e5⟩ := repB m
      have z1 : Fm.sizes (List.replicate m (.sign "b") ++ [fm]) ≤ m + fm.size := by rw [sizes_append, e1]; simp [Fm.sizes, Fm.size]
      have z2 : Fm.dps (List.replicate m (.sign "b") ++ [fm]) ≤ max 1 fm.dp := by
        rw [dps_append]
        simp [Fm.dps]
        simp [Fm.dp] at e2
        omega
      have z3 : Fm.nsts (List.replicate m (.sign "b") ++ [fm]) ≤ 3 := by rw [nsts_append, e4]; simp [Fm.nsts]; exact hns
      have z4 : ∀ t, t ∈ Fm.sgs (List.replicate m (.sign "b") ++ [fm]) → t ∈ L := fun t ht => by
        rw [sgs_append, List.mem_append] at ht
        rcases ht with ht | ht
        · rw [e5 t ht]; exact hbL
        · rw [Fm.sgs, Fm.sgs, List.append_nil] at ht
          exact hsg t ht
      have z5 : Fm.prs (List.replicate m (.sign "b") ++ [fm]) = true := prs_mk fun p hp => by
        rcases List.mem_append.mp hp with hp | hp
        · rw [List.eq_of_mem_replicate hp]; decide +kernel
        · rw [List.mem_singleton.mp hp]; exact hpr
      have z6 : (List.replicate m (Fm.sign "b") ++ [fm]).length = m + 1 := by rw [List.length_append, List.length_replicate]; rfl
      have s28 := s2.trans (r27.trans r8)
      have hd1 := dp_pos fm
      rcases hk2' with rfl | rfl
      · exact ⟨.ref nf, .row (List.replicate m (.sign "b") ++ [fm]), _, _, _, _, rfl, s28, .tup (sT hnf) (.cons (.str _) (.cons (.tup (r8.sqT hpt) hps) .nil)), by rw [Fm.pr, z5, z6, decide_eq_true (by omega)]; rfl, by rw [Fm.size]; omega, by rw [Fm.dp]; omega, by rw [Fm.nst]; exact z3, by rw [Fm.sg]; exact z4⟩
      · exact ⟨.ref nf, .pick (List.replicate m (.sign "b") ++ [fm]), _, _, _, _, rfl, s28, .tup (sT hnf) (.cons (.str _) (.cons (.tup (r8.sqT hpt) hps) .nil)), by rw [Fm.pr, z5, z6, decide_eq_true (by omega), decide_eq_true (by omega)]; rfl, by rw [Fm.size]; omega, by rw [Fm.dp]; omega, by rw [Fm.nst]; exact z3, by rw [Fm.sg]; exact z4⟩
    rintro σ H2' ⟨v, fm, o5, o6, o7, o8, rfl, F2⟩
    have hle : (c / 5 % 9).toNat ≤ 8 := by omega
    exact f2 v fm st _ _ _ _ _ _ L H2' hL5 ⟨F2.same, F2.at_, F2.pr, by have := F2.size; omega, by have := F2.dp; omega, F2.nst, F2.sg⟩
  refine ⟨_, (pss_cons (ps_set (i := 1) sc_law.nd rfl (Or.inl rfl) (pe_disp (pps_cons pe_str (pe_slice sl_list (pv 0) po_none (po_some pe_int)) (pps_cons pe_str pe_int pps_nil)) (by rfl) (by rfl) (fun z => by cases z) (by decide)))
    (pss_cons (ps_set (i := 2) sc_law.nd rfl (Or.inl rfl) (pe_callD d__law_form (hr.mono (by decide)) rfl (pa_cons (pv 1) (pa_cons pe_int (pa_cons pe_int pa_nil)))))
    (pss_cons (ps_set (i := 3) sc_law.nd rfl (Or.inl rfl) (pe_ifExp (pt_cmpR op_gt (pe_callB call_len_seq (by rfl) b_len PySem.boot_len (pa_cons (pv 0) pa_nil)) pe_int (nomark _)) (pe_ix ix_list (pv 0) pe_int (fun _ _ => rfl)) pe_int))
    h3))), ?_⟩
  intro st hst
  have s1 : Same H (upd H st (.dK [])) := .new hst
  refine ⟨_, rfl, _, rfl, a, _, rfl, s1.seq hS, fun p hp => ?_⟩
  have e60 : cutV (ns.map V.int) none (some 60) = (ns.take 60).map V.int := by rw [List.map_take]; exact cut_take _ 60
  have npst : p ≠ st := fun e => by rw [e, upd_same] at hp; cases hp
  refine ⟨by rw [upd_ne npst.symm, upd_same], stK p 0, rfl, (by show 2 ≤ 15; decide), ?_⟩
  have S2 : StateAt (upd (upd (upd H st (.dK [])) p (.lst (cutV (ns.map V.int) none (some 60)))) st (.dK (mergeK [] (stK p 0)))) st p := ⟨ns.take 60, 0, upd_same, by rw [upd_ne npst, upd_same, e60]⟩
  have s2 : Same H (upd (upd (upd H st (.dK [])) p (.lst (cutV (ns.map V.int) none (some 60)))) st (.dK (mergeK [] (stK p 0)))) := (s1.trans (.new hp)).mut hst
  generalize upd (upd (upd H st (.dK [])) p (.lst (cutV (ns.map V.int) none (some 60)))) st (.dK (mergeK [] (stK p 0))) = H2 at S2 s2 ⊢
  refine ⟨_, rfl, st, p, 3, rfl, S2, fun H3 v g b3 S3 hv hg hnst => ?_⟩
  have s3 : Same H H3 := But.sameF b3 s2 hst
  have FS : FmSt K H H3 v g 40 4 ["a", "b", "ab", "c"] := ⟨s3, hv, (lw_pr 3 g hg).1, lw_size 3 g hg, (lw_pr 3 g hg).2, hnst, lw_sg 3 g hg⟩
  refine ⟨_, rfl, a, _, rfl, .inl (s3.seq hS), _, _, rfl, rfl, _, rfl, ite2 (fun h0 => ?_) (fun _ => ?_)⟩
  · cases ns with
    | nil => exact absurd h0 (by decide)
    | cons c ns =>
      refine ⟨_, rfl, a, _, 0, _, rfl, rfl, s3.seq hS, atI_nat (j := 0) (v := V.int c) rfl, ?_⟩
      exact f3 v g st c H3 FS
  · exact f3 v g st 0 H3 FS
end
end Sw
set_option Elab.async false
set_option maxRecDepth 100000
set_option maxHeartbeats 8000000
namespace Sw
open PySem L2 PySem.Spec PyProof.Rows
theorem defAt_mk {K : PySem.W.Frag} {h : Heap} {mg : Str → Option Value} {x : Str} {st : Stmt} {ps : List Str} {f : Addr} {od an : Option Addr} {sl : Array (Option Value)} {oc kV dc pm cd ct : Value} (X : K.In h) (G : h.Ns mainGlobals mg)
    (a : PySem.W.nsIn K mainGlobals x = some (some (.ref f))) (l : K.lookup f = some ⟨oc, od, .func (PySem.W.fnOf x x (defArgs st) (defBody st) (defScope st) .none kV dc pm an cd ct), sl⟩) (c : PySem.W.codeIn K cd x = true) (k : PySem.W.keepIn K (.ref f) = true)
    (b : Binds K (PySem.W.fnOf x x (defArgs st) (defBody st) (defScope st) .none kV dc pm an cd ct) ps []) : DefAt K mg x st ps :=
  ⟨f, _, fun_mk (st := st) l c k, PySem.W.mg_of X G a, b⟩
theorem defTab_mk {K : PySem.W.Frag} {h base : Heap} {mg : Str → Option Value} {x : Str} {st : Stmt} {ps : List Str} {f c T : Addr} {od an : Option Addr} {sl : Array (Option Value)} {oc kV dc pm ct : Value} (X : K.In h) (G : h.Ns mainGlobals mg)
    (a : PySem.W.nsIn K mainGlobals x = some (some (.ref f))) (l : K.lookup f = some ⟨oc, od, .func (PySem.W.fnOf x x (defArgs st) (defBody st) (defScope st) .none kV dc pm an (.ref c) ct), sl⟩) (cc : PySem.W.codeIn K (.ref c) x = true) (k : PySem.W.keepIn K (.ref f) = true)
    (b : Binds K (PySem.W.fnOf x x (defArgs st) (defBody st) (defScope st) .none kV dc pm an (.ref c) ct) ps []) (TB : GxR.TabB base mg c T) : DefTab K mg base x st ps T :=
  ⟨f, oc, od, kV, dc, pm, an, c, ct, sl, l, cc, k, PySem.W.mg_of X G a, b, TB⟩
theorem all_mk {l : PySem.W.OpenLaw} {w : World} {K : PySem.W.Frag} {h : Heap} {mg : Str → Option Value} {q : Program} {f1 f2 f3 f4 f5 f6 f7 f8 f9 f10 f11 f12 f13 f14 f15 f16 f17 f18 f19 f20 f21 f22 f23 f24 f25 f26 c4 T4 fa : Addr} {od1 an1 od2 an2 od3 an3 od4 an4 od5 an5 od6 an6 od7 an7 od8 an8 od9 an9 od10 an10 od11 an11 od12 an12 od13 an13 od14 an14 od15 an15 od16 an16 od17 an17 od18 an18 od19 an19 od20 an20 od21 an21 od22 an22 od23 an23 od24 an24 od25 an25 od26 an26 td4 : Option Addr} {sl1 sl2 sl3 sl4 sl5 sl6 sl7 sl8 sl9 sl10 sl11 sl12 sl13 sl14 sl15 sl16 sl17 sl18 sl19 sl20 sl21 sl22 sl23 sl24 sl25 sl26 ts4 : Array (Option Value)} {tv4 : Array Value} {oc1 kV1 dc1 pm1 ct1 cd1 oc2 kV2 dc2 pm2 ct2 cd2 oc3 kV3 dc3 pm3 ct3 cd3 oc4 kV4 dc4 pm4 ct4 oc5 kV5 dc5 pm5 ct5 cd5 oc6 kV6 dc6 pm6 ct6 cd6 oc7 kV7 dc7 pm7 ct7 cd7 oc8 kV8 dc8 pm8 ct8 cd8 oc9 kV9 dc9 pm9 ct9 cd9 oc10 kV10 dc10 pm10 ct10 cd10 oc11 kV11 dc11 pm11 ct11 cd11 oc12 kV12 dc12 pm12 ct12 cd12 oc13 kV13 dc13 pm13 ct13 cd13 oc14 kV14 dc14 pm14 ct14 cd14 oc15 kV15 dc15 pm15 ct15 cd15 oc16 kV16 dc16 pm16 ct16 cd16 oc17 kV17 dc17 pm17 ct17 cd17 oc18 kV18 dc18 pm18 ct18 cd18 oc19 kV19 dc19 pm19 ct19 cd19 oc20 kV20 dc20 pm20 ct20 cd20 oc21 kV21 dc21 pm21 ct21 cd21 oc22 kV22 dc22 pm22 ct22 cd22 oc23 kV23 dc23 pm23 ct23 cd23 oc24 kV24 dc24 pm24 ct24 cd24 oc25 kV25 dc25 pm25 ct25 cd25 oc26 kV26 dc26 pm26 ct26 cd26 te4 : Value} {k_MOST_PARTS k__MOST_LETTERS k__MOST_COUNT k__MOST_PIECES k__MOST_DEEP k__MOST_TIMES k__MOST_SIGNS : Tok} {fg : Addr} {fgn : Nat} {fgs : Array (Option Value)} {y0 y1 y2 y3 y4 y5 y6 y7 y8 y9 y10 y11 y12 : Tok} (X : K.In h) (G : h.Ns mainGlobals mg) (hfa : mg "law" = some (.ref fa)) (own : ∀ x c P, ((recsOf q).any fun e => e.name == x) = true → OwnT K h x c P)
    (a1 : PySem.W.nsIn K mainGlobals "parts_of" = some (some (.ref f1))) (l1 : K.lookup f1 = some ⟨oc1, od1, .func (PySem.W.fnOf "parts_of" "parts_of" (defArgs s_parts_of) (defBody s_parts_of) (defScope s_parts_of) .none kV1 dc1 pm1 an1 cd1 ct1), sl1⟩) (d1 : PySem.W.codeIn K cd1 "parts_of" = true) (k1 : PySem.W.keepIn K (.ref f1) = true)
    (a2 : PySem.W.nsIn K mainGlobals "laid" = some (some (.ref f2))) (l2 : K.lookup f2 = some ⟨oc2, od2, .func (PySem.W.fnOf "laid" "laid" (defArgs s_laid) (defBody s_laid) (defScope s_laid) .none kV2 dc2 pm2 an2 cd2 ct2), sl2⟩) (d2 : PySem.W.codeIn K cd2 "laid" = true) (k2 : PySem.W.keepIn K (.ref f2) = true)
    (a3 : PySem.W.nsIn K mainGlobals "is_whole" = some (some (.ref f3))) (l3 : K.lookup f3 = some ⟨oc3, od3, .func (PySem.W.fnOf "is_whole" "is_whole" (defArgs s_is_whole) (defBody s_is_whole) (defScope s_is_whole) .none kV3 dc3 pm3 an3 cd3 ct3), sl3⟩) (d3 : PySem.W.codeIn K cd3 "is_whole" = true) (k3 : PySem.W.keepIn K (.ref f3) = true)
    (a4 : PySem.W.nsIn K mainGlobals "is_sign" = some (some (.ref f4))) (l4 : K.lookup f4 = some ⟨oc4, od4, .func (PySem.W.fnOf "is_sign" "is_sign" (defArgs s_is_sign) (defBody s_is_sign) (defScope s_is_sign) .none kV4 dc4 pm4 an4 (.ref c4) ct4), sl4⟩) (d4 : PySem.W.codeIn K (.ref c4) "is_sign" = true) (k4 : PySem.W.keepIn K (.ref f4) = true)
    (t4 : K.lookup c4 = some ⟨te4, td4, .fields tv4, ts4⟩) (u4 : tv4[11]? = some (.ref T4)) (n4 : K.lookup T4 = none) (r4 : ((recsOf q).any fun e => e.name == ("is_sign" : Str)) = true)
    (a5 : PySem.W.nsIn K mainGlobals "is_form" = some (some (.ref f5))) (l5 : K.lookup f5 = some ⟨oc5, od5, .func (PySem.W.fnOf "is_form" "is_form" (defArgs s_is_form) (defBody s_is_form) (defScope s_is_form) .none kV5 dc5 pm5 an5 cd5 ct5), sl5⟩) (d5 : PySem.W.codeIn K cd5 "is_form" = true) (k5 : PySem.W.keepIn K (.ref f5) = true)
    (a6 : PySem.W.nsIn K mainGlobals "_is_piece" = some (some (.ref f6))) (l6 : K.lookup f6 = some ⟨oc6, od6, .func (PySem.W.fnOf "_is_piece" "_is_piece" (defArgs s_is_piece) (defBody s_is_piece) (defScope s_is_piece) .none kV6 dc6 pm6 an6 cd6 ct6), sl6⟩) (d6 : PySem.W.codeIn K cd6 "_is_piece" = true) (k6 : PySem.W.keepIn K (.ref f6) = true)
    (a7 : PySem.W.nsIn K mainGlobals "_are_parts" = some (some (.ref f7))) (l7 : K.lookup f7 = some ⟨oc7, od7, .func (PySem.W.fnOf "_are_parts" "_are_parts" (defArgs s_are_parts) (defBody s_are_parts) (defScope s_are_parts) .none kV7 dc7 pm7 an7 cd7 ct7), sl7⟩) (d7 : PySem.W.codeIn K cd7 "_are_parts" = true) (k7 : PySem.W.keepIn K (.ref f7) = true)
    (a8 : PySem.W.nsIn K mainGlobals "_are_counts" = some (some (.ref f8))) (l8 : K.lookup f8 = some ⟨oc8, od8, .func (PySem.W.fnOf "_are_counts" "_are_counts" (defArgs s_are_counts) (defBody s_are_counts) (defScope s_are_counts) .none kV8 dc8 pm8 an8 cd8 ct8), sl8⟩) (d8 : PySem.W.codeIn K cd8 "_are_counts" = true) (k8 : PySem.W.keepIn K (.ref f8) = true)
    (a9 : PySem.W.nsIn K mainGlobals "signs_of" = some (some (.ref f9))) (l9 : K.lookup f9 = some ⟨oc9, od9, .func (PySem.W.fnOf "signs_of" "signs_of" (defArgs s_signs_of) (defBody s_signs_of) (defScope s_signs_of) .none kV9 dc9 pm9 an9 cd9 ct9), sl9⟩) (d9 : PySem.W.codeIn K cd9 "signs_of" = true) (k9 : PySem.W.keepIn K (.ref f9) = true)
    (a10 : PySem.W.nsIn K mainGlobals "form_text" = some (some (.ref f10))) (l10 : K.lookup f10 = some ⟨oc10, od10, .func (PySem.W.fnOf "form_text" "form_text" (defArgs s_form_text) (defBody s_form_text) (defScope s_form_text) .none kV10 dc10 pm10 an10 cd10 ct10), sl10⟩) (d10 : PySem.W.codeIn K cd10 "form_text" = true) (k10 : PySem.W.keepIn K (.ref f10) = true)
    (a11 : PySem.W.nsIn K mainGlobals "_spelled" = some (some (.ref f11))) (l11 : K.lookup f11 = some ⟨oc11, od11, .func (PySem.W.fnOf "_spelled" "_spelled" (defArgs s_spelled) (defBody s_spelled) (defScope s_spelled) .none kV11 dc11 pm11 an11 cd11 ct11), sl11⟩) (d11 : PySem.W.codeIn K cd11 "_spelled" = true) (k11 : PySem.W.keepIn K (.ref f11) = true)
    (a12 : PySem.W.nsIn K mainGlobals "read_form" = some (some (.ref f12))) (l12 : K.lookup f12 = some ⟨oc12, od12, .func (PySem.W.fnOf "read_form" "read_form" (defArgs s_read_form) (defBody s_read_form) (defScope s_read_form) .none kV12 dc12 pm12 an12 cd12 ct12), sl12⟩) (d12 : PySem.W.codeIn K cd12 "read_form" = true) (k12 : PySem.W.keepIn K (.ref f12) = true)
    (a13 : PySem.W.nsIn K mainGlobals "_fits" = some (some (.ref f13))) (l13 : K.lookup f13 = some ⟨oc13, od13, .func (PySem.W.fnOf "_fits" "_fits" (defArgs s_fits) (defBody s_fits) (defScope s_fits) .none kV13 dc13 pm13 an13 cd13 ct13), sl13⟩) (d13 : PySem.W.codeIn K cd13 "_fits" = true) (k13 : PySem.W.keepIn K (.ref f13) = true)
    (a14 : PySem.W.nsIn K mainGlobals "_take" = some (some (.ref f14))) (l14 : K.lookup f14 = some ⟨oc14, od14, .func (PySem.W.fnOf "_take" "_take" (defArgs s_take) (defBody s_take) (defScope s_take) .none kV14 dc14 pm14 an14 cd14 ct14), sl14⟩) (d14 : PySem.W.codeIn K cd14 "_take" = true) (k14 : PySem.W.keepIn K (.ref f14) = true)
    (a15 : PySem.W.nsIn K mainGlobals "_put" = some (some (.ref f15))) (l15 : K.lookup f15 = some ⟨oc15, od15, .func (PySem.W.fnOf "_put" "_put" (defArgs s_put) (defBody s_put) (defScope s_put) .none kV15 dc15 pm15 an15 cd15 ct15), sl15⟩) (d15 : PySem.W.codeIn K cd15 "_put" = true) (k15 : PySem.W.keepIn K (.ref f15) = true)
    (a16 : PySem.W.nsIn K mainGlobals "_counts" = some (some (.ref f16))) (l16 : K.lookup f16 = some ⟨oc16, od16, .func (PySem.W.fnOf "_counts" "_counts" (defArgs s_counts) (defBody s_counts) (defScope s_counts) .none kV16 dc16 pm16 an16 cd16 ct16), sl16⟩) (d16 : PySem.W.codeIn K cd16 "_counts" = true) (k16 : PySem.W.keepIn K (.ref f16) = true)
    (a17 : PySem.W.nsIn K mainGlobals "_law_cell" = some (some (.ref f17))) (l17 : K.lookup f17 = some ⟨oc17, od17, .func (PySem.W.fnOf "_law_cell" "_law_cell" (defArgs s_law_cell) (defBody s_law_cell) (defScope s_law_cell) .none kV17 dc17 pm17 an17 cd17 ct17), sl17⟩) (d17 : PySem.W.codeIn K cd17 "_law_cell" = true) (k17 : PySem.W.keepIn K (.ref f17) = true)
    (a18 : PySem.W.nsIn K mainGlobals "_law_sign" = some (some (.ref f18))) (l18 : K.lookup f18 = some ⟨oc18, od18, .func (PySem.W.fnOf "_law_sign" "_law_sign" (defArgs s_law_sign) (defBody s_law_sign) (defScope s_law_sign) .none kV18 dc18 pm18 an18 cd18 ct18), sl18⟩) (d18 : PySem.W.codeIn K cd18 "_law_sign" = true) (k18 : PySem.W.keepIn K (.ref f18) = true)
    (a19 : PySem.W.nsIn K mainGlobals "_law_times" = some (some (.ref f19))) (l19 : K.lookup f19 = some ⟨oc19, od19, .func (PySem.W.fnOf "_law_times" "_law_times" (defArgs s_law_times) (defBody s_law_times) (defScope s_law_times) .none kV19 dc19 pm19 an19 cd19 ct19), sl19⟩) (d19 : PySem.W.codeIn K cd19 "_law_times" = true) (k19 : PySem.W.keepIn K (.ref f19) = true)
    (a20 : PySem.W.nsIn K mainGlobals "_law_form" = some (some (.ref f20))) (l20 : K.lookup f20 = some ⟨oc20, od20, .func (PySem.W.fnOf "_law_form" "_law_form" (defArgs s_law_form) (defBody s_law_form) (defScope s_law_form) .none kV20 dc20 pm20 an20 cd20 ct20), sl20⟩) (d20 : PySem.W.codeIn K cd20 "_law_form" = true) (k20 : PySem.W.keepIn K (.ref f20) = true)
    (a21 : PySem.W.nsIn K mainGlobals "_law_inner" = some (some (.ref f21))) (l21 : K.lookup f21 = some ⟨oc21, od21, .func (PySem.W.fnOf "_law_inner" "_law_inner" (defArgs s_law_inner) (defBody s_law_inner) (defScope s_law_inner) .none kV21 dc21 pm21 an21 cd21 ct21), sl21⟩) (d21 : PySem.W.codeIn K cd21 "_law_inner" = true) (k21 : PySem.W.keepIn K (.ref f21) = true)
    (a22 : PySem.W.nsIn K mainGlobals "_law_words" = some (some (.ref f22))) (l22 : K.lookup f22 = some ⟨oc22, od22, .func (PySem.W.fnOf "_law_words" "_law_words" (defArgs s_law_words) (defBody s_law_words) (defScope s_law_words) .none kV22 dc22 pm22 an22 cd22 ct22), sl22⟩) (d22 : PySem.W.codeIn K cd22 "_law_words" = true) (k22 : PySem.W.keepIn K (.ref f22) = true)
    (a23 : PySem.W.nsIn K mainGlobals "_law_whole" = some (some (.ref f23))) (l23 : K.lookup f23 = some ⟨oc23, od23, .func (PySem.W.fnOf "_law_whole" "_law_whole" (defArgs s_law_whole) (defBody s_law_whole) (defScope s_law_whole) .none kV23 dc23 pm23 an23 cd23 ct23), sl23⟩) (d23 : PySem.W.codeIn K cd23 "_law_whole" = true) (k23 : PySem.W.keepIn K (.ref f23) = true)
    (a24 : PySem.W.nsIn K mainGlobals "_law_word" = some (some (.ref f24))) (l24 : K.lookup f24 = some ⟨oc24, od24, .func (PySem.W.fnOf "_law_word" "_law_word" (defArgs s_law_word) (defBody s_law_word) (defScope s_law_word) .none kV24 dc24 pm24 an24 cd24 ct24), sl24⟩) (d24 : PySem.W.codeIn K cd24 "_law_word" = true) (k24 : PySem.W.keepIn K (.ref f24) = true)
    (a25 : PySem.W.nsIn K mainGlobals "_law_named" = some (some (.ref f25))) (l25 : K.lookup f25 = some ⟨oc25, od25, .func (PySem.W.fnOf "_law_named" "_law_named" (defArgs s_law_named) (defBody s_law_named) (defScope s_law_named) .none kV25 dc25 pm25 an25 cd25 ct25), sl25⟩) (d25 : PySem.W.codeIn K cd25 "_law_named" = true) (k25 : PySem.W.keepIn K (.ref f25) = true)
    (a26 : PySem.W.nsIn K mainGlobals "law" = some (some (.ref f26))) (l26 : K.lookup f26 = some ⟨oc26, od26, .func (PySem.W.fnOf "law" "law" (defArgs s_law) (defBody s_law) (defScope s_law) .none kV26 dc26 pm26 an26 cd26 ct26), sl26⟩) (d26 : PySem.W.codeIn K cd26 "law" = true) (k26 : PySem.W.keepIn K (.ref f26) = true)
    (g_MOST_PARTS : PySem.W.nsIn K mainGlobals "MOST_PARTS" = some (some (.int 8 k_MOST_PARTS)))
    (g__MOST_LETTERS : PySem.W.nsIn K mainGlobals "_MOST_LETTERS" = some (some (.int 6 k__MOST_LETTERS)))
    (g__MOST_COUNT : PySem.W.nsIn K mainGlobals "_MOST_COUNT" = some (some (.int 12 k__MOST_COUNT)))
    (g__MOST_PIECES : PySem.W.nsIn K mainGlobals "_MOST_PIECES" = some (some (.int 60 k__MOST_PIECES)))
    (g__MOST_DEEP : PySem.W.nsIn K mainGlobals "_MOST_DEEP" = some (some (.int 12 k__MOST_DEEP)))
    (g__MOST_TIMES : PySem.W.nsIn K mainGlobals "_MOST_TIMES" = some (some (.int 3 k__MOST_TIMES)))
    (g__MOST_SIGNS : PySem.W.nsIn K mainGlobals "_MOST_SIGNS" = some (some (.int 6 k__MOST_SIGNS)))
    (gfg : PySem.W.nsIn K mainGlobals "_FIGURES" = some (some (.ref fg)))
    (lfg : K.lookup fg = some ⟨.type "tuple", none, .seq #[.str "0" y0, .str "1" y1, .str "2" y2, .str "3" y3, .str "4" y4, .str "5" y5, .str "6" y6, .str "7" y7, .str "8" y8, .str "9" y9, .str "10" y10, .str "11" y11, .str "12" y12] fgn, fgs⟩)
    (z_len : PySem.W.nsIn K mainGlobals "len" = some none)
    (z_range : PySem.W.nsIn K mainGlobals "range" = some none)
    (z_all : PySem.W.nsIn K mainGlobals "all" = some none)
    (z_isinstance : PySem.W.nsIn K mainGlobals "isinstance" = some none)
    (z_str : PySem.W.nsIn K mainGlobals "str" = some none)
    (z_int : PySem.W.nsIn K mainGlobals "int" = some none)
    (z_bool : PySem.W.nsIn K mainGlobals "bool" = some none)
    (z_tuple : PySem.W.nsIn K mainGlobals "tuple" = some none)
    (z_list : PySem.W.nsIn K mainGlobals "list" = some none)
    (z_max : PySem.W.nsIn K mainGlobals "max" = some none)
    (z_min : PySem.W.nsIn K mainGlobals "min" = some none)
    (z_sorted : PySem.W.nsIn K mainGlobals "sorted" = some none)
    (z_enumerate : PySem.W.nsIn K mainGlobals "enumerate" = some none)
    (z_dict : PySem.W.nsIn K mainGlobals "dict" = some none)
    (z_zip : PySem.W.nsIn K mainGlobals "zip" = some none)
    : ∃ (fd : FuncData) (cs : List (Addr × Addr)) (sp : Sp), (∀ p ∈ cs, h.get? p.2 = some { cls := .none, data := .fields #[] }) ∧ (∀ p ∈ cs, K.lookup p.2 = none) ∧ (∀ p ∈ cs, PySem.W.CodeHd h p.1 p.2) ∧ (∀ (s : Shared) (u : Value), BindsTo s fd ⟨[u], []⟩ [("script", u)]) ∧
      (∀ (H : Hp) (a : Addr) (ns : List Int), ns.length ≤ 63 → (∀ z ∈ ns, Builtin.Int.intBits z ≤ 1048576) → Tabs cs H → SqL K H a (ns.map V.int) → sp [.ref a] H (fun v H' => v = .bl true ∧ Tabs cs H') fun _ _ _ => False) ∧
      ∀ base : Heap, K.In base → base.Ns mainGlobals mg → (∀ p ∈ cs, GxR.TabB base mg p.1 p.2) → FnOk l.prog w K mg base CX0 14 fa fd ["script"] sp := by
  have e := hfa.symm.trans (PySem.W.mg_of X G a26)
  cases e
  have b_len := PySem.W.mg_none_of X G z_len
  have b_range := PySem.W.mg_none_of X G z_range
  have b_all := PySem.W.mg_none_of X G z_all
  have b_isinstance := PySem.W.mg_none_of X G z_isinstance
  have b_str := PySem.W.mg_none_of X G z_str
  have b_int := PySem.W.mg_none_of X G z_int
  have b_bool := PySem.W.mg_none_of X G z_bool
  have b_tuple := PySem.W.mg_none_of X G z_tuple
  have b_list := PySem.W.mg_none_of X G z_list
  have b_max := PySem.W.mg_none_of X G z_max
  have b_min := PySem.W.mg_none_of X G z_min
  have b_sorted := PySem.W.mg_none_of X G z_sorted
  have b_enumerate := PySem.W.mg_none_of X G z_enumerate
  have b_dict := PySem.W.mg_none_of X G z_dict
  have b_zip := PySem.W.mg_none_of X G z_zip
  have m_MOST_PARTS : ∃ t, mg "MOST_PARTS" = some (.int 8 t) := ⟨_, PySem.W.mg_of X G g_MOST_PARTS⟩
  have m__MOST_LETTERS : ∃ t, mg "_MOST_LETTERS" = some (.int 6 t) := ⟨_, PySem.W.mg_of X G g__MOST_LETTERS⟩
  have m__MOST_COUNT : ∃ t, mg "_MOST_COUNT" = some (.int 12 t) := ⟨_, PySem.W.mg_of X G g__MOST_COUNT⟩
  have m__MOST_PIECES : ∃ t, mg "_MOST_PIECES" = some (.int 60 t) := ⟨_, PySem.W.mg_of X G g__MOST_PIECES⟩
  have m__MOST_DEEP : ∃ t, mg "_MOST_DEEP" = some (.int 12 t) := ⟨_, PySem.W.mg_of X G g__MOST_DEEP⟩
  have m__MOST_TIMES : ∃ t, mg "_MOST_TIMES" = some (.int 3 t) := ⟨_, PySem.W.mg_of X G g__MOST_TIMES⟩
  have m__MOST_SIGNS : ∃ t, mg "_MOST_SIGNS" = some (.int 6 t) := ⟨_, PySem.W.mg_of X G g__MOST_SIGNS⟩
  have m_FG : ∃ c, mg "_FIGURES" = some (.ref c) ∧ (∀ H, SqT K H c (figs.map V.str)) ∧ ∃ o, K.lookup c = some o ∧ o.cls = .type "tuple" ∧ o.dict = none := by
    refine ⟨fg, PySem.W.mg_of X G gfg, fun H => .inr ⟨_, _, _, lfg, rfl, rfl, (by show 13 ≤ sizeLine; decide), ?_⟩, _, lfg, rfl, rfl⟩
    exact (.cons ⟨_, rfl⟩ (.cons ⟨_, rfl⟩ (.cons ⟨_, rfl⟩ (.cons ⟨_, rfl⟩ (.cons ⟨_, rfl⟩ (.cons ⟨_, rfl⟩ (.cons ⟨_, rfl⟩ (.cons ⟨_, rfl⟩ (.cons ⟨_, rfl⟩ (.cons ⟨_, rfl⟩ (.cons ⟨_, rfl⟩ (.cons ⟨_, rfl⟩ (.cons ⟨_, rfl⟩ .nil)))))))))))))
  obtain ⟨w4, x4⟩ := own _ c4 T4 r4 _ _ _ _ _ _ _ a4 l4 rfl rfl t4 u4
  have D1 : DefAt K mg "parts_of" s_parts_of ["form"] := defAt_mk X G a1 l1 d1 k1 ((fun_mk (st := s_parts_of) l1 d1 k1).binds (ps := ["form"]) fun _ _ _ _ _ _ us hl => match us, hl with | [_], _ => rfl)
  have D2 : DefAt K mg "laid" s_laid ["form"] := defAt_mk X G a2 l2 d2 k2 ((fun_mk (st := s_laid) l2 d2 k2).binds (ps := ["form"]) fun _ _ _ _ _ _ us hl => match us, hl with | [_], _ => rfl)
  have D3 : DefAt K mg "is_whole" s_is_whole ["thing"] := defAt_mk X G a3 l3 d3 k3 ((fun_mk (st := s_is_whole) l3 d3 k3).binds (ps := ["thing"]) fun _ _ _ _ _ _ us hl => match us, hl with | [_], _ => rfl)
  have D5 : DefAt K mg "is_form" s_is_form ["thing"] := defAt_mk X G a5 l5 d5 k5 ((fun_mk (st := s_is_form) l5 d5 k5).binds (ps := ["thing"]) fun _ _ _ _ _ _ us hl => match us, hl with | [_], _ => rfl)
  have D6 : DefAt K mg "_is_piece" s_is_piece ["thing"] := defAt_mk X G a6 l6 d6 k6 ((fun_mk (st := s_is_piece) l6 d6 k6).binds (ps := ["thing"]) fun _ _ _ _ _ _ us hl => match us, hl with | [_], _ => rfl)
  have D7 : DefAt K mg "_are_parts" s_are_parts ["thing", "fewest"] := defAt_mk X G a7 l7 d7 k7 ((fun_mk (st := s_are_parts) l7 d7 k7).binds (ps := ["thing", "fewest"]) fun _ _ _ _ _ _ us hl => match us, hl with | [_, _], _ => rfl)
  have D8 : DefAt K mg "_are_counts" s_are_counts ["low", "high"] := defAt_mk X G a8 l8 d8 k8 ((fun_mk (st := s_are_counts) l8 d8 k8).binds (ps := ["low", "high"]) fun _ _ _ _ _ _ us hl => match us, hl with | [_, _], _ => rfl)
  have D9 : DefAt K mg "signs_of" s_signs_of ["form"] := defAt_mk X G a9 l9 d9 k9 ((fun_mk (st := s_signs_of) l9 d9 k9).binds (ps := ["form"]) fun _ _ _ _ _ _ us hl => match us, hl with | [_], _ => rfl)
  have D10 : DefAt K mg "form_text" s_form_text ["form"] := defAt_mk X G a10 l10 d10 k10 ((fun_mk (st := s_form_text) l10 d10 k10).binds (ps := ["form"]) fun _ _ _ _ _ _ us hl => match us, hl with | [_], _ => rfl)
  have D11 : DefAt K mg "_spelled" s_spelled ["piece"] := defAt_mk X G a11 l11 d11 k11 ((fun_mk (st := s_spelled) l11 d11 k11).binds (ps := ["piece"]) fun _ _ _ _ _ _ us hl => match us, hl with | [_], _ => rfl)
  have D12 : DefAt K mg "read_form" s_read_form ["text"] := defAt_mk X G a12 l12 d12 k12 ((fun_mk (st := s_read_form) l12 d12 k12).binds (ps := ["text"]) fun _ _ _ _ _ _ us hl => match us, hl with | [_], _ => rfl)
  have D13 : DefAt K mg "_fits" s_fits ["opened", "word"] := defAt_mk X G a13 l13 d13 k13 ((fun_mk (st := s_fits) l13 d13 k13).binds (ps := ["opened", "word"]) fun _ _ _ _ _ _ us hl => match us, hl with | [_, _], _ => rfl)
  have D14 : DefAt K mg "_take" s_take ["opened", "word"] := defAt_mk X G a14 l14 d14 k14 ((fun_mk (st := s_take) l14 d14 k14).binds (ps := ["opened", "word"]) fun _ _ _ _ _ _ us hl => match us, hl with | [_, _], _ => rfl)
  have D15 : DefAt K mg "_put" s_put ["opened", "form"] := defAt_mk X G a15 l15 d15 k15 ((fun_mk (st := s_put) l15 d15 k15).binds (ps := ["opened", "form"]) fun _ _ _ _ _ _ us hl => match us, hl with | [_, _], _ => rfl)
  have D16 : DefAt K mg "_counts" s_counts ["word"] := defAt_mk X G a16 l16 d16 k16 ((fun_mk (st := s_counts) l16 d16 k16).binds (ps := ["word"]) fun _ _ _ _ _ _ us hl => match us, hl with | [_], _ => rfl)
  have D17 : DefAt K mg "_law_cell" s_law_cell ["state"] := defAt_mk X G a17 l17 d17 k17 ((fun_mk (st := s_law_cell) l17 d17 k17).binds (ps := ["state"]) fun _ _ _ _ _ _ us hl => match us, hl with | [_], _ => rfl)
  have D18 : DefAt K mg "_law_sign" s_law_sign ["cell"] := defAt_mk X G a18 l18 d18 k18 ((fun_mk (st := s_law_sign) l18 d18 k18).binds (ps := ["cell"]) fun _ _ _ _ _ _ us hl => match us, hl with | [_], _ => rfl)
  have D19 : DefAt K mg "_law_times" s_law_times ["cell"] := defAt_mk X G a19 l19 d19 k19 ((fun_mk (st := s_law_times) l19 d19 k19).binds (ps := ["cell"]) fun _ _ _ _ _ _ us hl => match us, hl with | [_], _ => rfl)
  have D20 : DefAt K mg "_law_form" s_law_form ["state", "left", "times"] := defAt_mk X G a20 l20 d20 k20 ((fun_mk (st := s_law_form) l20 d20 k20).binds (ps := ["state", "left", "times"]) fun _ _ _ _ _ _ us hl => match us, hl with | [_, _, _], _ => rfl)
  have D21 : DefAt K mg "_law_inner" s_law_inner ["form"] := defAt_mk X G a21 l21 d21 k21 ((fun_mk (st := s_law_inner) l21 d21 k21).binds (ps := ["form"]) fun _ _ _ _ _ _ us hl => match us, hl with | [_], _ => rfl)
  have D22 : DefAt K mg "_law_words" s_law_words ["form"] := defAt_mk X G a22 l22 d22 k22 ((fun_mk (st := s_law_words) l22 d22 k22).binds (ps := ["form"]) fun _ _ _ _ _ _ us hl => match us, hl with | [_], _ => rfl)
  have D23 : DefAt K mg "_law_whole" s_law_whole ["form"] := defAt_mk X G a23 l23 d23 k23 ((fun_mk (st := s_law_whole) l23 d23 k23).binds (ps := ["form"]) fun _ _ _ _ _ _ us hl => match us, hl with | [_], _ => rfl)
  have D24 : DefAt K mg "_law_word" s_law_word ["cell"] := defAt_mk X G a24 l24 d24 k24 ((fun_mk (st := s_law_word) l24 d24 k24).binds (ps := ["cell"]) fun _ _ _ _ _ _ us hl => match us, hl with | [_], _ => rfl)
  have D25 : DefAt K mg "_law_named" s_law_named ["form", "table"] := defAt_mk X G a25 l25 d25 k25 ((fun_mk (st := s_law_named) l25 d25 k25).binds (ps := ["form", "table"]) fun _ _ _ _ _ _ us hl => match us, hl with | [_, _], _ => rfl)
  refine ⟨PySem.W.fnOf "law" "law" (defArgs s_law) (defBody s_law) (defScope s_law) .none kV26 dc26 pm26 an26 cd26 ct26, [(c4, T4)], spLaw K T4, ?_, ?_, ?_, fun s v => .of_eq rfl, ?_, fun base _ _ TB => ?_⟩
  · exact fun p hp => by
      simp only [List.mem_cons, List.not_mem_nil, or_false] at hp
      rcases hp with rfl
      · exact w4
  · exact fun p hp => by
      simp only [List.mem_cons, List.not_mem_nil, or_false] at hp
      rcases hp with rfl
      · exact n4
  · exact fun p hp => by
      simp only [List.mem_cons, List.not_mem_nil, or_false] at hp
      rcases hp with rfl
      · exact x4
  · intro H a ns hl _ hT hS
    exact ⟨a, ns, rfl, hS, hl, hT _ List.mem_cons_self, fun H' s => ⟨rfl, hT.same s⟩⟩
  have TB4 : GxR.TabB base mg c4 T4 := TB (c4, T4) List.mem_cons_self
  have D4 : DefTab K mg base "is_sign" s_is_sign ["thing"] T4 := defTab_mk X G a4 l4 d4 k4 ((fun_mk (st := s_is_sign) l4 d4 k4).binds (ps := ["thing"]) fun _ _ _ _ _ _ us hl => match us, hl with | [_], _ => rfl) TB4
  have o_parts := ok_parts_of (P := l.prog) (w := w) (base := base) D1
  have o_partsD := ok_parts_ofD (P := l.prog) (w := w) (base := base) D1
  have o_laid := ok_laid D2 o_parts b_len
  have o_whole := ok_is_whole (P := l.prog) (w := w) (base := base) D3 b_isinstance b_int b_bool
  have o_sign := ok_is_sign (P := l.prog) (w := w) D4 b_all b_isinstance b_len b_str m__MOST_LETTERS
  have o_arep := ok_are_parts (P := l.prog) (w := w) (base := base) D7 b_isinstance b_len b_tuple m_MOST_PARTS
  have o_arec := ok_are_counts D8 o_whole b_max m__MOST_COUNT
  have o_isp := ok_is_piece D6 o_arec o_arep o_sign b_isinstance b_len b_tuple
  have o_signs := ok_signs_of D9 o_laid b_sorted
  have o_isf := ok_is_form D5 o_isp o_partsD o_signs b_len m__MOST_PIECES m__MOST_DEEP m__MOST_TIMES m__MOST_SIGNS
  have o_counts := ok_counts (P := l.prog) (w := w) (base := base) D16 m_FG b_max
  have o_put := ok_put D15 o_counts
  have o_fits := ok_fits D13 o_counts o_sign b_len m_MOST_PARTS
  have o_take := ok_take D14 o_put o_sign b_tuple
  have o_read := ok_read_form D12 o_fits o_take o_isf b_enumerate
  have o_spelled := ok_spelled (P := l.prog) (w := w) (base := base) D11 b_list
  have o_text := ok_form_text D10 o_spelled b_isinstance b_str
  have o_cell := ok_law_cell (P := l.prog) (w := w) (base := base) D17 b_len
  have o_lsign := ok_law_sign (P := l.prog) (w := w) (base := base) D18
  have o_times := ok_law_times (P := l.prog) (w := w) (base := base) D19 b_max b_min
  have o_form := ok_law_form D20 o_cell o_lsign o_times b_max b_range b_int b_tuple 3
  have o_inner := ok_law_inner (P := l.prog) (w := w) (base := base) D21 b_list
  have o_words := ok_law_words D22 o_inner b_str 12
  have o_whol := ok_law_whole D23 o_inner b_isinstance b_bool b_int b_len 12
  have o_word := ok_law_word (P := l.prog) (w := w) (base := base) D24 b_range
  have o_named := ok_law_named (P := l.prog) (w := w) (base := base) D25 b_tuple 4
  exact ok_law (fun_mk (st := s_law) l26 d26 k26) o_form o_word o_named o_words o_text o_read o_whol b_len b_range b_isinstance b_str b_dict b_zip
end Sw
set_option Elab.async false
open PySem PySem.W PyProof.Rows
set_option maxRecDepth 100000 in
set_option maxHeartbeats 0 in
theorem PySem.Challenge.cw_soleway_k05_forms_written_and_read_holds : PySem.Challenge.rw_soleway_k05_forms_written_and_read.Holds := by
  w_on; o_law; k_head; (case hw => w_witness2)
  k_fill
  refine Sw.walk_ofE (l := PySem.Challenge.rw_soleway_k05_forms_written_and_read) (n := 63) (k := 14) (x := "script") rfl (by decide) rfl ⟨rfl, by decide, by decide⟩ (fun w h Y => PySem.W.kIn_of Y) ?F
  case F =>
    intro w mg fa h KX G hmg own
    refine' Sw.all_mk KX G hmg own ?a1 ?l1 ?d1 ?k1 ?a2 ?l2 ?d2 ?k2 ?a3 ?l3 ?d3 ?k3 ?a4 ?l4 ?d4 ?k4 ?t4 ?u4 ?n4 ?r4 ?a5 ?l5 ?d5 ?k5 ?a6 ?l6 ?d6 ?k6 ?a7 ?l7 ?d7 ?k7 ?a8 ?l8 ?d8 ?k8 ?a9 ?l9 ?d9 ?k9 ?a10 ?l10 ?d10 ?k10 ?a11 ?l11 ?d11 ?k11 ?a12 ?l12 ?d12 ?k12 ?a13 ?l13 ?d13 ?k13 ?a14 ?l14 ?d14 ?k14 ?a15 ?l15 ?d15 ?k15 ?a16 ?l16 ?d16 ?k16 ?a17 ?l17 ?d17 ?k17 ?a18 ?l18 ?d18 ?k18 ?a19 ?l19 ?d19 ?k19 ?a20 ?l20 ?d20 ?k20 ?a21 ?l21 ?d21 ?k21 ?a22 ?l22 ?d22 ?k22 ?a23 ?l23 ?d23 ?k23 ?a24 ?l24 ?d24 ?k24 ?a25 ?l25 ?d25 ?k25 ?a26 ?l26 ?d26 ?k26 ?g_MOST_PARTS ?g__MOST_LETTERS ?g__MOST_COUNT ?g__MOST_PIECES ?g__MOST_DEEP ?g__MOST_TIMES ?g__MOST_SIGNS ?gfg ?lfg ?z_len ?z_range ?z_all ?z_isinstance ?z_str ?z_int ?z_bool ?z_tuple ?z_list ?z_max ?z_min ?z_sorted ?z_enumerate ?z_dict ?z_zip
    (case a1 => k_is)
    (case l1 => k_is)
    (case d1 => k_is)
    (case k1 => k_is)
    (case a2 => k_is)
    (case l2 => k_is)
    (case d2 => k_is)
    (case k2 => k_is)
    (case a3 => k_is)
    (case l3 => k_is)
    (case d3 => k_is)
    (case k3 => k_is)
    (case a4 => k_is)
    (case l4 => k_is)
    (case d4 => k_is)
    (case k4 => k_is)
    (case t4 => k_is)
    (case u4 => first | rfl | decide +kernel | k_is)
    (case n4 => first | rfl | decide +kernel | k_is)
    (case r4 => first | rfl | decide +kernel | k_is)
    (case a5 => k_is)
    (case l5 => k_is)
    (case d5 => k_is)
    (case k5 => k_is)
    (case a6 => k_is)
    (case l6 => k_is)
    (case d6 => k_is)
    (case k6 => k_is)
    (case a7 => k_is)
    (case l7 => k_is)
    (case d7 => k_is)
    (case k7 => k_is)
    (case a8 => k_is)
    (case l8 => k_is)
    (case d8 => k_is)
    (case k8 => k_is)
    (case a9 => k_is)
    (case l9 => k_is)
    (case d9 => k_is)
    (case k9 => k_is)
    (case a10 => k_is)
    (case l10 => k_is)
    (case d10 => k_is)
    (case k10 => k_is)
    (case a11 => k_is)
    (case l11 => k_is)
    (case d11 => k_is)
    (case k11 => k_is)
    (case a12 => k_is)
    (case l12 => k_is)
    (case d12 => k_is)
    (case k12 => k_is)
    (case a13 => k_is)
    (case l13 => k_is)
    (case d13 => k_is)
    (case k13 => k_is)
    (case a14 => k_is)
    (case l14 => k_is)
    (case d14 => k_is)
    (case k14 => k_is)
    (case a15 => k_is)
    (case l15 => k_is)
    (case d15 => k_is)
    (case k15 => k_is)
    (case a16 => k_is)
    (case l16 => k_is)
    (case d16 => k_is)
    (case k16 => k_is)
    (case a17 => k_is)
    (case l17 => k_is)
    (case d17 => k_is)
    (case k17 => k_is)
    (case a18 => k_is)
    (case l18 => k_is)
    (case d18 => k_is)
    (case k18 => k_is)
    (case a19 => k_is)
    (case l19 => k_is)
    (case d19 => k_is)
    (case k19 => k_is)
    (case a20 => k_is)
    (case l20 => k_is)
    (case d20 => k_is)
    (case k20 => k_is)
    (case a21 => k_is)
    (case l21 => k_is)
    (case d21 => k_is)
    (case k21 => k_is)
    (case a22 => k_is)
    (case l22 => k_is)
    (case d22 => k_is)
    (case k22 => k_is)
    (case a23 => k_is)
    (case l23 => k_is)
    (case d23 => k_is)
    (case k23 => k_is)
    (case a24 => k_is)
    (case l24 => k_is)
    (case d24 => k_is)
    (case k24 => k_is)
    (case a25 => k_is)
    (case l25 => k_is)
    (case d25 => k_is)
    (case k25 => k_is)
    (case a26 => k_is)
    (case l26 => k_is)
    (case d26 => k_is)
    (case k26 => k_is)
    (case g_MOST_PARTS => k_is)
    (case g__MOST_LETTERS => k_is)
    (case g__MOST_COUNT => k_is)
    (case g__MOST_PIECES => k_is)
    (case g__MOST_DEEP => k_is)
    (case g__MOST_TIMES => k_is)
    (case g__MOST_SIGNS => k_is)
    (case gfg => k_is)
    (case lfg => k_is)
    (case z_len => k_is)
    (case z_range => k_is)
    (case z_all => k_is)
    (case z_isinstance => k_is)
    (case z_str => k_is)
    (case z_int => k_is)
    (case z_bool => k_is)
    (case z_tuple => k_is)
    (case z_list => k_is)
    (case z_max => k_is)
    (case z_min => k_is)
    (case z_sorted => k_is)
    (case z_enumerate => k_is)
    (case z_dict => k_is)
    (case z_zip => k_is)
