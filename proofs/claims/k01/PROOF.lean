import PyProof.Rows.All
import Wide.All
import OpenK.AllK
import Wide.FinOn
import HandS.ForMost
import HandS.TupAny
import HandS.TupMul
import HandS.RevRange
import HandS.Wide
import HandS.Style
import HandS.Flow
import HandS.AnyAll
import HandS.GenList
import HandS.Nested
import HandS.EndTab
import HandS.More
import HandS.Text
import HandS.IsInst
import PySem.Challenge.RW_soleway_k01_signs_and_rows
set_option Elab.async false
set_option maxRecDepth 100000
set_option maxHeartbeats 4000000
namespace Sw
open PySem L2 PySem.Spec PyProof.Rows

/-! ### defs of the top -/
section
variable {P : Program} {w : World} {K : PySem.W.Frag} {mg : Str → Option Value} {base : Heap}
/-- a def of the top: it stands under its name, takes its arguments by place -/
structure DefAt (K : PySem.W.Frag) (mg : Str → Option Value) (x : Str) (st : Stmt) (ps : List Str) : Prop where
  ex : ∃ f fd, Fun K x x st f fd ∧ mg x = some (.ref f) ∧ Binds K fd ps []
/-- .. and keeps a promise -/
structure DefOk (P : Program) (w : World) (K : PySem.W.Frag) (mg : Str → Option Value) (base : Heap) (x : Str) (k : Nat) (ps : List Str) (sp : Sp) : Prop where
  ex : ∃ f fd, FnOk P w K mg base CX0 k f fd ps sp ∧ mg x = some (.ref f) ∧ PySem.W.keepIn K (.ref f) = true ∧ Binds K fd ps []
theorem DefOk.mono {x : Str} {j k : Nat} {ps : List Str} {sp : Sp} (F : DefOk P w K mg base x j ps sp) (h : j ≤ k) : DefOk P w K mg base x k ps sp := by
  obtain ⟨f, fd, a, b, c, d⟩ := F.ex
  exact ⟨f, fd, a.mono h, b, c, d⟩
theorem DefOk.imp {x : Str} {k : Nat} {ps : List Str} {sp sp' : Sp} (F : DefOk P w K mg base x k ps sp) (h : ∀ vs H Q E, sp' vs H Q E → sp vs H Q E) : DefOk P w K mg base x k ps sp' := by
  obtain ⟨f, fd, a, b, c, d⟩ := F.ex
  exact ⟨f, fd, a.imp h, b, c, d⟩
theorem DefAt.ok {x : Str} {st : Stmt} {N ps : List Str} {k : Nat} {sp : Sp} (F : DefAt K mg x st ps) (S : FnScope N ps (defScope st)) (len : ∀ vs H Q E, sp vs H Q E → vs.length = ps.length)
    (hbody : ∀ (f : Addr) (cdv : Value) (A : Around) (outer : List Env) (s : Shared) (H : Hp) (vs : List V) (Q : VK) (E : XK), Room k (A.deeper (envOfC x (defScope st) s.heap.objs.size f cdv)) → sp vs H Q E →
      ∃ t, PSs (cxOf CX0 P w K mg base N x (defScope st) f cdv A outer s H E).nox (defBody st) t ∧ t { nx := fun _ H' => Q .non H', rt := Q } (start N vs) H) : DefOk P w K mg base x (k + 1) ps sp := by
  obtain ⟨f, fd, h1, h2, h3⟩ := F.ex
  exact ⟨f, fd, h1.ok S len (fun cdv A outer s H vs Q E hr hs => hbody f cdv A outer s H vs Q E hr hs), h2, h1.kp, h3⟩
end
section
variable {X : Cx} {x : Str} {k : Nat} {ps : List Str} {sp : Sp} {e : Expr} {es : List Expr} {t : TA} {p pos : Pos}
theorem pe_callD (F : DefOk X.prog X.w X.K X.mg X.base x k ps sp) (hr : Room k X.A) (hg : Gl X x) (ha : PA X (e :: es) t) (hx : Passes CX0 X E0 := by exact pass0) (hdb : (x == ("__debug__" : Str)) = false := by decide)
    (he : starEach (e :: es) X.env = (false, eval e X.env) :: starEach es X.env := by rfl) (hpl : (backTo pos (starEach es X.env)).any (·.1) = false := by rfl) : PE X (.Call (.Name x p) (e :: es) [] pos) (tCall sp [] E0 t) := by
  obtain ⟨f, fd, a, b, c, d⟩ := F.ex
  exact pe_call a hr hg b c d .nil hx ha hdb he hpl
end

/-! ### heaps -/
theorem _root_.L2.Same.new {H : Hp} {p : Addr} {o : HO} (h : H p = none) : Same H (upd H p o) := fun b u q => by rw [upd_ne (ne_of_none q h)]; exact q
/-- what was not there may be written again -/
theorem _root_.L2.Same.mut {H H' : Hp} {p : Addr} {o : HO} (e : Same H H') (h : H p = none) : Same H (upd H' p o) := fun a u ha => by
  rw [upd_ne (ne_of_none ha h)]
  exact e a u ha
theorem _root_.L2.Same.rd {H H' : Hp} {a : Addr} {u : HO} (e : Same H H') (h : Rd H a u) : Rd H' a u := by
  rcases h with h | ⟨o, h⟩
  · exact Or.inl (e a _ h)
  · exact Or.inr ⟨o, e a _ h⟩
theorem _root_.L2.Same.sqT {K : PySem.W.Frag} {H H' : Hp} {a : Addr} {xs : List V} (e : Same H H') (h : SqT K H a xs) : SqT K H' a xs := by
  rcases h with h | h
  · exact Or.inl (e.rd h)
  · exact Or.inr h
theorem sT {K : PySem.W.Frag} {H : Hp} {a : Addr} {xs : List V} (h : H a = some (.tup xs)) : SqT K H a xs := Or.inl (Or.inl h)
theorem sL {K : PySem.W.Frag} {H : Hp} {a : Addr} {xs : List V} (h : H a = some (.lst xs)) : SqL K H a xs := Or.inl (Or.inl h)
/-- all but the object at p is as it was -/
def But (p : Addr) (H H' : Hp) : Prop := ∀ b o, H b = some o → b ≠ p → H' b = some o
theorem But.of {p : Addr} {H H' : Hp} (h : Same H H') : But p H H' := fun b o e _ => h b o e
theorem But.trans {p : Addr} {H H1 H2 : Hp} (a : But p H H1) (b : But p H1 H2) : But p H H2 := fun c o e n => b c o (a c o e n) n
theorem But.refl {p : Addr} {H : Hp} : But p H H := fun _ _ e _ => e
theorem But.upd {p : Addr} {H H' : Hp} {o : HO} (a : But p H H') : But p H (upd H' p o) := fun b u e n => by rw [upd_ne n]; exact a b u e n
theorem But.same {p : Addr} {H H' : Hp} (a : But p H H') (h : H p = none) : Same H H' := fun b o e => a b o e (ne_of_none e h)
theorem But.free {p q : Addr} {H H' : Hp} (a : But p H H') (h : H' q = none) (n : q ≠ p) : H q = none := by
  cases e : H q with
  | none => rfl
  | some o =>
    rw [a q o e n] at h
    cases h

/-! ### data in the heap -/
mutual
theorem dpSame {K : PySem.W.Frag} {H H' : Hp} (s : ∀ a u, (∃ xs, u = HO.lst xs ∨ u = HO.tup xs) → Rd H a u → Rd H' a u) : ∀ (d : PyData) (v : V), Dp K H v d → Dp K H' v d
  | .none, _, h => by cases h; exact .non
  | .bool b, _, h => by cases h; exact .bl b
  | .int i, _, h => by cases h; exact .int i
  | .str x, _, h => by cases h; exact .str x
  | .list ds, _, h => by
    cases h with
    | lst h1 h2 =>
      refine .lst ?_ (dpAllSame s ds _ h2)
      rcases h1 with h1 | h1
      · exact .inl (s _ _ ⟨_, .inl rfl⟩ h1)
      · exact .inr h1
  | .tuple ds, _, h => by
    cases h with
    | tup h1 h2 =>
      refine .tup ?_ (dpAllSame s ds _ h2)
      rcases h1 with h1 | h1
      · exact .inl (s _ _ ⟨_, .inr rfl⟩ h1)
      · exact .inr h1
  | .dict _, _, h => by cases h
theorem dpAllSame {K : PySem.W.Frag} {H H' : Hp} (s : ∀ a u, (∃ xs, u = HO.lst xs ∨ u = HO.tup xs) → Rd H a u → Rd H' a u) : ∀ (ds : List PyData) (vs : List V), DpAll K H vs ds → DpAll K H' vs ds
  | [], _, h => by cases h; exact .nil
  | d :: ds, _, h => by
    cases h with
    | cons h1 h2 => exact .cons (dpSame s d _ h1) (dpAllSame s ds _ h2)
end
theorem dpS {K : PySem.W.Frag} {H H' : Hp} (s : Same H H') {d : PyData} {v : V} (h : Dp K H v d) : Dp K H' v d := dpSame (fun _ _ _ r => s.rd r) d v h
theorem dpsS {K : PySem.W.Frag} {H H' : Hp} (s : Same H H') {ds : List PyData} {vs : List V} (h : DpAll K H vs ds) : DpAll K H' vs ds := dpAllSame (fun _ _ _ r => s.rd r) ds vs h
/-- a thing that is no list and no tuple may change -/
theorem dpB {K : PySem.W.Frag} {H H' : Hp} {p : Addr} (s : But p H H') (hp : ∀ u, Rd H p u → ∀ xs, u ≠ .lst xs ∧ u ≠ .tup xs) {d : PyData} {v : V} (h : Dp K H v d) : Dp K H' v d := by
  refine dpSame (fun a u hu r => ?_) d v h
  obtain ⟨xs, hu⟩ := hu
  have n : a ≠ p := by
    rintro rfl
    have := hp u r xs
    rcases hu with e | e
    · exact this.1 e
    · exact this.2 e
  rcases r with r | ⟨o, r⟩
  · exact .inl (s _ _ r n)
  · exact .inr ⟨o, s _ _ r n⟩
theorem dpsLen {K : PySem.W.Frag} {H : Hp} : ∀ {vs : List V} {ds : List PyData}, DpAll K H vs ds → vs.length = ds.length
  | [], _, h => by cases h; rfl
  | _ :: _, _, h => by cases h with | cons _ t => simp [dpsLen t]
theorem dpsAt {K : PySem.W.Frag} {H : Hp} : ∀ {vs : List V} {ds : List PyData} {i : Nat} {d : PyData}, DpAll K H vs ds → ds[i]? = some d → ∃ v, vs[i]? = some v ∧ Dp K H v d
  | [], _, i, d, h, e => by cases h; simp at e
  | v :: vs, _, i, d, h, e => by
    cases h with
    | cons h1 h2 =>
      cases i with
      | zero => simp at e; subst e; exact ⟨v, rfl, h1⟩
      | succ i => simp at e; obtain ⟨u, e1, e2⟩ := dpsAt h2 e; exact ⟨u, by simpa using e1, e2⟩
theorem dpsAtV {K : PySem.W.Frag} {H : Hp} : ∀ {vs : List V} {ds : List PyData} {i : Nat} {v : V}, DpAll K H vs ds → vs[i]? = some v → ∃ d, ds[i]? = some d ∧ Dp K H v d
  | [], _, i, v, h, e => by simp at e
  | v :: vs, _, i, u, h, e => by
    cases h with
    | cons h1 h2 =>
      cases i with
      | zero => simp at e; subst e; exact ⟨_, rfl, h1⟩
      | succ i => simp at e; obtain ⟨u, e1, e2⟩ := dpsAtV h2 e; exact ⟨u, by simpa using e1, e2⟩
theorem dpsApp {K : PySem.W.Frag} {H : Hp} : ∀ {vs us : List V} {ds es : List PyData}, DpAll K H vs ds → DpAll K H us es → DpAll K H (vs ++ us) (ds ++ es)
  | [], _, _, _, h, g => by cases h; exact g
  | _ :: _, _, _, _, h, g => by cases h with | cons h1 h2 => exact .cons h1 (dpsApp h2 g)
/-- a tuple's data by its items -/
theorem dpTup {K : PySem.W.Frag} {H : Hp} {v : V} {ds : List PyData} (h : Dp K H v (.tuple ds)) : ∃ a xs, v = .ref a ∧ SqT K H a xs ∧ DpAll K H xs ds := by
  cases h with
  | tup h1 h2 => exact ⟨_, _, rfl, h1, h2⟩
theorem dpLst {K : PySem.W.Frag} {H : Hp} {v : V} {ds : List PyData} (h : Dp K H v (.list ds)) : ∃ a xs, v = .ref a ∧ SqL K H a xs ∧ DpAll K H xs ds := by
  cases h with
  | lst h1 h2 => exact ⟨_, _, rfl, h1, h2⟩
theorem dpStr {K : PySem.W.Frag} {H : Hp} {v : V} {x : Str} (h : Dp K H v (.str x)) : v = .str x := by cases h; rfl
theorem dpInt {K : PySem.W.Frag} {H : Hp} {v : V} {x : Int} (h : Dp K H v (.int x)) : v = .int x := by cases h; rfl
theorem dpNone {K : PySem.W.Frag} {H : Hp} {v : V} (h : Dp K H v .none) : v = .non := by cases h; rfl
theorem dpNil {K : PySem.W.Frag} {H : Hp} {vs : List V} (h : DpAll K H vs []) : vs = [] := by cases h; rfl
theorem dpCons {K : PySem.W.Frag} {H : Hp} {vs : List V} {d : PyData} {ds : List PyData} (h : DpAll K H vs (d :: ds)) : ∃ v us, vs = v :: us ∧ Dp K H v d ∧ DpAll K H us ds := by
  cases h with
  | cons h1 h2 => exact ⟨_, _, rfl, h1, h2⟩

/-! ### forms -/
inductive Fm where
  | sign (s : Str)
  | row (ps : List Fm)
  | pick (ps : List Fm)
  | times (p : Fm) (low : Nat) (high : Option Nat)
def highD : Option Nat → PyData
  | none => .none
  | some h => .int h
def highV : Option Nat → V
  | none => .non
  | some h => .int h
theorem dpHigh {K : PySem.W.Frag} {H : Hp} {v : V} {o : Option Nat} (h : Dp K H v (highD o)) : v = highV o := by
  cases o with
  | none => exact dpNone h
  | some n => exact dpInt h
theorem highDp {K : PySem.W.Frag} {H : Hp} (o : Option Nat) : Dp K H (highV o) (highD o) := by
  cases o with
  | none => exact .non
  | some n => exact .int _
mutual
def Fm.dat : Fm → PyData
  | .sign s => .tuple [.str "sign", .str s]
  | .row ps => .tuple [.str "row", .tuple (Fm.dats ps)]
  | .pick ps => .tuple [.str "pick", .tuple (Fm.dats ps)]
  | .times p low high => .tuple [.str "times", p.dat, .int low, highD high]
def Fm.dats : List Fm → List PyData
  | [] => []
  | p :: ps => p.dat :: Fm.dats ps
end
theorem Fm.dats_map : ∀ ps : List Fm, Fm.dats ps = ps.map Fm.dat
  | [] => rfl
  | p :: ps => by rw [Fm.dats, Fm.dats_map ps, List.map_cons]
def Fm.kind : Fm → Str
  | .sign _ => "sign"
  | .row _ => "row"
  | .pick _ => "pick"
  | .times _ _ _ => "times"
def Fm.parts : Fm → List Fm
  | .sign _ => []
  | .row ps => ps
  | .pick ps => ps
  | .times p _ _ => [p]
abbrev FmAt (K : PySem.W.Frag) (H : Hp) (v : V) (f : Fm) : Prop := Dp K H v f.dat
abbrev FmsAt (K : PySem.W.Frag) (H : Hp) (vs : List V) (fs : List Fm) : Prop := DpAll K H vs (Fm.dats fs)
/-- every form is a tuple that begins with its kind -/
theorem fmTup {K : PySem.W.Frag} {H : Hp} {v : V} {f : Fm} (h : FmAt K H v f) : ∃ a xs, v = .ref a ∧ SqT K H a (.str f.kind :: xs) := by
  cases f with
  | sign s => obtain ⟨a, xs, rfl, h1, h2⟩ := dpTup h; obtain ⟨v, us, rfl, e, _⟩ := dpCons h2; cases dpStr e; exact ⟨a, us, rfl, h1⟩
  | row s => obtain ⟨a, xs, rfl, h1, h2⟩ := dpTup h; obtain ⟨v, us, rfl, e, _⟩ := dpCons h2; cases dpStr e; exact ⟨a, us, rfl, h1⟩
  | pick s => obtain ⟨a, xs, rfl, h1, h2⟩ := dpTup h; obtain ⟨v, us, rfl, e, _⟩ := dpCons h2; cases dpStr e; exact ⟨a, us, rfl, h1⟩
  | times s l u => obtain ⟨a, xs, rfl, h1, h2⟩ := dpTup h; obtain ⟨v, us, rfl, e, _⟩ := dpCons h2; cases dpStr e; exact ⟨a, us, rfl, h1⟩
theorem fmSign {K : PySem.W.Frag} {H : Hp} {v : V} {s : Str} (h : FmAt K H v (.sign s)) : ∃ a, v = .ref a ∧ SqT K H a [.str "sign", .str s] := by
  obtain ⟨a, xs, rfl, h1, h2⟩ := dpTup h; obtain ⟨v, us, rfl, e, h3⟩ := dpCons h2; cases dpStr e
  obtain ⟨v, us, rfl, e, h4⟩ := dpCons h3; cases dpStr e; cases dpNil h4; exact ⟨a, rfl, h1⟩
theorem fmRow {K : PySem.W.Frag} {H : Hp} {v : V} {ps : List Fm} (h : FmAt K H v (.row ps)) : ∃ a b vs, v = .ref a ∧ SqT K H a [.str "row", .ref b] ∧ SqT K H b vs ∧ FmsAt K H vs ps := by
  obtain ⟨a, xs, rfl, h1, h2⟩ := dpTup h; obtain ⟨v, us, rfl, e, h3⟩ := dpCons h2; cases dpStr e
  obtain ⟨v, us, rfl, e, h4⟩ := dpCons h3; obtain ⟨b, vs, rfl, h5, h6⟩ := dpTup e; cases dpNil h4; exact ⟨a, b, vs, rfl, h1, h5, h6⟩
theorem fmPick {K : PySem.W.Frag} {H : Hp} {v : V} {ps : List Fm} (h : FmAt K H v (.pick ps)) : ∃ a b vs, v = .ref a ∧ SqT K H a [.str "pick", .ref b] ∧ SqT K H b vs ∧ FmsAt K H vs ps := by
  obtain ⟨a, xs, rfl, h1, h2⟩ := dpTup h; obtain ⟨v, us, rfl, e, h3⟩ := dpCons h2; cases dpStr e
  obtain ⟨v, us, rfl, e, h4⟩ := dpCons h3; obtain ⟨b, vs, rfl, h5, h6⟩ := dpTup e; cases dpNil h4; exact ⟨a, b, vs, rfl, h1, h5, h6⟩
theorem fmTimes {K : PySem.W.Frag} {H : Hp} {v : V} {p : Fm} {low : Nat} {high : Option Nat} (h : FmAt K H v (.times p low high)) : ∃ a u, v = .ref a ∧ SqT K H a [.str "times", u, .int low, highV high] ∧ FmAt K H u p := by
  obtain ⟨a, xs, rfl, h1, h2⟩ := dpTup h; obtain ⟨v, us, rfl, e, h3⟩ := dpCons h2; cases dpStr e
  obtain ⟨u, us, rfl, e, h4⟩ := dpCons h3
  obtain ⟨v, us, rfl, e2, h5⟩ := dpCons h4; cases dpInt e2
  obtain ⟨v, us, rfl, e3, h6⟩ := dpCons h5; cases dpHigh e3; cases dpNil h6
  exact ⟨a, u, rfl, h1, e⟩
end Sw
set_option Elab.async false
set_option maxRecDepth 100000
set_option maxHeartbeats 4000000
namespace Sw
open PySem L2 PySem.Spec PyProof.Rows GenW
/-! ### any, all of a generator expression, its element of any kind -/
/-- a code object's table: it may grow -/
def TabE (P : Addr) : HO := .ext fun h => ∃ ps : Array Value, h.get? P = some { cls := .none, data := .fields ps } ∧ TriplesOk ps.toList
section
variable {X : Cx} {pins : List (Addr × Obj)} {σ : L2.St} {H : Hp} {s : Shared}
theorem tabE_ok {P : Program} {w : World} {h : Heap} {a : Addr} {ps : Array Value} (e : h.get? a = some { cls := .none, data := .fields ps }) (t : TriplesOk ps.toList) : ObjOk P w H h a (TabE a) :=
  ⟨⟨ps, e, t⟩, ⟨_, e⟩, fun _ _ ⟨ps, q, t⟩ k => ⟨ps, k _ q, t⟩⟩
theorem inv_tabE {P : Addr} {ps' : Array Value} {h' : Heap} {tk : Nat} (I : Inv X pins σ H s) (hP : H P = some (TabE P)) (k : ∀ b o, b ≠ P → s.heap.get? b = some o → h'.get? b = some o)
    (hm : h'.get? P = some { cls := .none, data := .fields ps' }) (ht : TriplesOk ps'.toList) : Inv X pins σ H { s with heap := h', toks := tk } := by
  have nN : ∀ b, H b = none → b ≠ P := fun b e z => by
    rw [z, hP] at e
    cases e
  have nO : ∀ b x, H b = some (.own x) → b ≠ P := fun b x e z => by
    rw [z, hP] at e
    cases e
  refine I.step (g' := s.gens) (d' := s.drawn) (ch := []) (fun b hb => absurd hb (by simp)) (fun b o _ _ _ e n => k b o (nN b n) e) (fun b o _ _ _ e n => ⟨o.slots, k b o (nN b n) e⟩) (fun _ _ _ _ n => n) (fun b o _ e => ?_)
    (fun _ _ e => e) (fun _ _ _ e => e) (fun b ps e => ⟨#[], by rw [e]; simp⟩) (fun m hn => ?_) (fun b u e => ?_) I.bare
  · by_cases hb : b = P
    · rw [hb]
      exact ⟨_, hm⟩
    · exact ⟨o, k b o hb e⟩
  · obtain ⟨ob, es, ep, ho, r⟩ := hn
    exact ⟨ob, es, ep, k _ ob (nN _ I.free) ho, r⟩
  · by_cases hb2 : b = P
    · subst hb2
      rw [hP] at e
      cases e
      exact tabE_ok hm ht
    · refine (I.hok b u e).stay (fun d v hd q => k d v ?_ q) (fun _ q => q) fun _ _ q => q
      rcases hd with z | z
      · rw [z]
        exact hb2
      · exact nO d _ z
theorem gen_code {M : Model} {A : Around} {E : Value → Shared → Prop} {c P : Addr} {gpos : Pos} {qual : Str} {scope : Scope} {Q : Value → Shared → Prop} (I : Inv X pins σ H s) (TB : GxR.TabB X.base X.mg c P) (hcode : X.env.code = .ref c) (hP : H P = some (TabE P))
    (hQ : ∀ code h' tk, Inv X pins σ H { s with heap := h', toks := tk } → (∀ b o, b ≠ P → s.heap.get? b = some o → h'.get? b = some o) → s.heap.objs.size ≤ h'.objs.size → Q code { s with heap := h', toks := tk }) :
    wpAny M A (genexprCode X.env gpos qual scope) Q E s := by
  obtain ⟨⟨ps, e, ht⟩, _⟩ := I.hok P _ hP
  have cd : PySem.W.CodeHd s.heap c P := TB.code.keeps fun b u e => I.bk b u e
  cases hf : codeAmong gpos ps.toList with
  | none =>
    refine wpAny_genexprCodeX hcode (cd.code e ht) (cd.tab e) hf fun c' h' tk hx hge hlt hco' _ htab' _ => ?_
    obtain ⟨o1, vs, f1, tf, fl, tg, inF, tx, tt, op, _, _, _, _, _, _, _, _, _, htr, _⟩ := hco'
    exact hQ _ h' tk (inv_tabE I hP hx htab'.2 htr) hx (Nat.le_trans hge (Nat.le_of_lt hlt))
  | some cv =>
    refine wpAny_genexprCode_hit hcode (cd.code e ht) hf ?_
    exact hQ cv s.heap s.toks I (fun _ _ _ q => q) (Nat.le_refl _)
/-! ### the frame -/
abbrev genv (X : Cx) (scope : Scope) (C : Addr) (code : Value) : Env := genEnv scope (cloFrom X.env.cells scope.names []) C code builtinsNs X.env
abbrev _root_.L2.Cx.gen (X : Cx) (s : Shared) (H : Hp) (scope : Scope) (C : Addr) (code : Value) (A' : Around) (fp : List Addr) (pn : List (Addr × Obj)) : Cx :=
  { X with A := A', s_0 := s, H_0 := H, env := genv X scope C code, outer := X.stack, stack := genv X scope C code :: X.stack, ex := fp, fn := fun _ => false, calm := true, pn := pn, xe := fun _ _ => False }
structure GenSc (scope : Scope) : Prop where
  co : (scope.isCoroutine : Bool) = false
  cell : ∀ nk ∈ scope.names, nk.2 ≠ NameKind.cell
  dot : scope.names.lookup (".0" : Str) = some (.local : NameKind)
theorem gen_start {scope : Scope} {own : List (Str × Nat)} {fp : List Addr} {pn : List (Addr × Obj)} {C : Addr} {code : Value} {A' : Around} {s' : Shared} {m : Str → Option Value} (I : Inv X pins σ H s) (ok : BlkOk X.N X.env.scope scope own) (G : GenSc scope) (hN : X.N.Nodup)
    (hfp : ∀ b ∈ fp, FpOk X pins H b ∧ b < s.heap.objs.size) (hC : s.heap.objs.size ≤ C) (hA : A'.handled = none) (hF : A'.frames = some (genv X scope C code :: X.stack))
    (hos : s'.os = s.os) (hb : AllBare s'.gens) (k : ∀ b o, s.heap.get? b = some o → s'.heap.get? b = some o) (hn : s'.heap.Ns C m)
    (hpn : ∀ p ∈ pn, s'.heap.get? p.1 = some p.2 ∧ s.heap.objs.size ≤ p.1 ∧ p.1 ≠ C ∧ ∀ v, p.2.data ≠ .cell v) :
    Inv (X.gen s H scope C code A' fp pn) [] (wipe σ (own.map (·.2))) H s' := by
  have hCap : ∀ y ∈ scope.names, y.2 = .free → ∃ c, X.env.cells.lookup y.1 = some c := fun y hy e => by
    rcases ok.free y hy e with k | k
    · exact I.ok.has _ (.inl k)
    · exact I.ok.has _ (.inr k)
  have cm : ∀ {y c}, (cloFrom X.env.cells scope.names []).lookup y = some c → X.env.cells.lookup y = some c := fun {y c} e => NdefX.clo_cm hCap e
  have clt : ∀ {y c}, X.env.cells.lookup y = some c → c < s.heap.objs.size := fun {y c} e => by
    obtain ⟨w, z⟩ := I.cell _ _ e
    exact z.lt
  have okG : (X.gen s H scope C code A' fp pn).Ok := by
    refine ⟨I.ok.mod, ok.kind, I.ok.glob, rfl, hC, fun y z c e1 e2 => I.ok.inj y z c (cm e1) (cm e2), fun y hy => ?_, fun y c z => (by cases z), fun _ => hA, hF, .inr ⟨rfl, rfl⟩, fun b hb => ⟨?_, fun y c e z => ?_⟩, I.bs, Nat.le_trans I.ok.bsz I.sz, fun b o e hb => ?_, fun b hb z => ?_, I.stack, I.stkFree⟩
    · have hy : scope.names.lookup y = some .cell ∨ scope.names.lookup y = some .free := hy
      rcases hy with hy | hy
      · exact absurd rfl (G.cell _ (PySem.mem_of_lookup hy))
      · obtain ⟨c, hc⟩ := hCap _ (PySem.mem_of_lookup hy) rfl
        exact ⟨c, NdefX.clo_has hCap (PySem.mem_of_lookup hy) hc⟩
    · exact Nat.ne_of_lt (Nat.lt_of_lt_of_le (hfp b hb).2 hC)
    · exact (hfp b hb).1.2.2.2.2.1 y c (cm e) z
    · rcases (hfp b hb).1.2.2.2.1 with z | z
      · exact I.ok.noex b o e z
      · exact absurd (Nat.lt_of_lt_of_le (Heap.lt_size e) (Nat.le_trans I.ok.bsz z)) (Nat.lt_irrefl _)
    · rcases List.mem_cons.mp (I.stkSub b z) with z | z
      · exact (hfp b hb).1.2.1 z
      · exact (hfp b hb).1.2.2.1 z
  refine ⟨okG, hos, hb, Un.kept k, ⟨m, hn, fun i y av e1 e2 e3 => ?_⟩, fun y c e => ?_, I.hok.fresh hC, fun y c e => I.freeC y c (cm e), fun p hp => ?_, I.hok.kept k, by rw [wipe_length]; exact I.len⟩
  · obtain ⟨e2, hne⟩ := wipe_some e2
    have no : ∀ kd, scope.names.lookup y = some kd → ¬ (kd = .local ∨ kd = .cell) := fun kd e hh => by
      rcases ok.own _ (PySem.mem_of_lookup e) hh with e' | e'
      · obtain ⟨p, hp, hpy⟩ := List.mem_map.mp e'
        have e3 := ok.ix p hp
        have : p.1 = y := hpy
        rw [this] at e3
        exact hne (List.mem_map.mpr ⟨p, hp, nodup_ix hN e3 e1⟩)
      · exact e' (List.mem_of_getElem? e1)
    have e3 : Vis scope y := e3
    have hfr : scope.names.lookup y = some .free := by
      rcases e3 with e3 | e3 | e3
      · exact absurd (.inl rfl) (no _ e3)
      · exact absurd (.inr rfl) (no _ e3)
      · exact e3
    obtain ⟨m0, hn0, hl⟩ := I.loc
    have hsc := ok.free _ (PySem.mem_of_lookup hfr) rfl
    have hVs : Vis X.env.scope y := hsc.elim (fun k => .inr (.inl k)) (fun k => .inr (.inr k))
    obtain ⟨w, r, q⟩ := hl i y av e1 e2 hVs
    refine ⟨w, r, .inr ⟨.inr hfr, ?_⟩⟩
    rcases q with ⟨kk, _⟩ | ⟨_, c', e', z⟩
    · have kk : X.env.scope.names.lookup y = some .local := kk
      rcases hsc with k1 | k1 <;> rw [show X.env.scope.names.lookup y = _ from k1] at kk <;> cases kk
    · exact ⟨c', NdefX.clo_has hCap (PySem.mem_of_lookup hfr) e', z.keeps k⟩
  · obtain ⟨w, z⟩ := I.cell y c (cm e)
    exact ⟨w, z.keeps k⟩
  · have hp : p ∈ pn := by simpa using hp
    obtain ⟨h1, h2, h3, h4⟩ := hpn p hp
    refine ⟨h1, I.hok.fresh h2, h3, fun z => ?_, h4⟩
    rcases List.mem_cons.mp (I.stkSub p.1 z) with z | z
    · exact absurd I.lt (by rw [← z]; exact Nat.not_lt.mpr h2)
    · exact I.nofs h2 z
end
end Sw
set_option Elab.async false
set_option maxRecDepth 100000
set_option maxHeartbeats 4000000
namespace Sw
open PySem L2 PySem.Spec PyProof.Rows GenW
/-! ### the generator's turns -/
/-- behind what the consumer does meanwhile: all objects stand, generators and tokens may have changed -/
theorem inv_later {X : Cx} {pins : List (Addr × Obj)} {σ : L2.St} {H : Hp} {s s' : Shared} (I : Inv X pins σ H s) (k : ∀ b o, s.heap.get? b = some o → s'.heap.get? b = some o) (hos : s'.os = s.os) (hb : AllBare s'.gens) : Inv X pins σ H s' :=
  I.call' (ch := []) hos (Un.kept k) (I.hok.kept k) hb fun b hb => absurd hb (by simp)
section
variable {X : Cx} {tg elt iter : Expr} {scope : Scope} {pos : Pos} {it : Addr}
abbrev genC (tg elt iter : Expr) (scope : Scope) (pos : Pos) (it : Addr) (env : Env) : Code := .compLoop (.GeneratorExp elt [⟨tg, iter, [], 0⟩] scope pos) 0 (.ref it) .none env
abbrev genS (tg elt iter : Expr) (scope : Scope) (pos : Pos) (it : Addr) (env : Env) : Code := .compStart (.GeneratorExp elt [⟨tg, iter, [], 0⟩] scope pos) 0 (.ref it) .none env
/-- at its end -/
def RG (X : Cx) (QT : Hp → Prop) : Nat → Shared → Shared → Prop := fun _ _ s₁ => ∃ σc H, Inv X [] σc H s₁ ∧ QT H
/-- a truth is handed out; if it is go, it may be asked on -/
def YG (X : Cx) (go : Bool) (QF : Hp → Prop) : Protocol := fun _ _ v s kap => ∃ b σc H, v = .bool b ∧ Inv X [] σc H s ∧ (b = !go → QF H) ∧
  (b = go → ∀ s'', (∀ b o, s.heap.get? b = some o → s''.heap.get? b = some o) → s''.os = s.os → AllBare s''.gens → kap (.send .none) s'')
/-- what a generator expression's walk asks: go the truth by which its consumer goes on -/
def GWalk (go : Bool) (J : It) (g : TG) (te : TE) (σ0 : L2.St) (vs : List Nat) (QT QF : Hp → Prop) (W : Nat → Nat → Hp → Prop) : Prop := ∀ i m H, W i m H →
  (J.stop i H ∧ QT H) ∨ (J.go i H ∧ ∃ Nx : Hp → Prop, (∀ H', Nx H' → ∃ m', m' < m ∧ W (i + 1) m' H') ∧ ∀ x H', J.yld i H x H' → g x σ0 H' fun σ2 H2 => wipe σ2 vs = σ0 ∧ te σ2 H2 fun y H3 => ∃ b, y = .bl b ∧ if b = go then Nx H3 else QF H3)
theorem seg_turns {A : Around} {fp : List Addr} {tn : Nat → Heap → Prop} {J : It} {g : TG} {te : TE} {go : Bool} {σ0 : L2.St} {vs : List Nat} {QT QF : Hp → Prop} {W : Nat → Nat → Hp → Prop}
    (hA : A.over (genC tg elt iter scope pos it X.env) [] = X.A) (hc : X.calm = true) (hx : X.xe = fun _ _ => False) (hco : X.env.scope.isCoroutine = false) (hex : ∀ b ∈ fp, b ∈ X.ex ∧ b ≠ X.env.locals ∧ b ∉ X.fs ∧ (∀ x c, X.env.cells.lookup x = some c → c ≠ b) ∧ ∀ p ∈ X.pn, p.1 ≠ b)
    (T : Turn X.prog X.w X.K tg J fp it tn) (hg : PG X tg g) (he : PE X elt te) (hw : ∀ σ : L2.St, wipe (wipe σ vs) vs = wipe σ vs) (turn : GWalk go J g te σ0 vs QT QF W) :
    ∀ (n m i : Nat) (σc : L2.St) (H : Hp) (s₀ s : Shared), m < n → W i m H → Inv X [] σc H s → wipe σc vs = σ0 → tn i s.heap → (∀ b ∈ fp, H b = none) →
      Seg (model X.prog X.w) A (fun n s₀ r s₁ => r = .ok .next ∧ RG X QT n s₀ s₁) (YG X go QF) n s₀ (genC tg elt iter scope pos it X.env) ((model X.prog X.w).den (genC tg elt iter scope pos it X.env)) [] s := by
  intro n
  induction n with
  | zero => intro m i σc H s₀ s h; exact absurd h (Nat.not_lt_zero _)
  | succ n ih =>
    intro m i σc H s₀ s hm w0 I hσ st fr
    have stat : ∀ {H' : Hp}, (∀ b ∈ fp, H' b = none) → ∀ b ∈ fp, FpOk X [] H' b := fun {H'} hn b hb => by
      obtain ⟨h1, h2, h3, h4, h5⟩ := hex b hb
      exact ⟨hn b hb, h2, h3, .inl h1, h4, fun p hp => h5 p (by simpa using hp)⟩
    have I0 : Inv X [] σ0 H s := I.weak (by rw [← hσ, wipe_length]) fun i v e => by rw [← hσ] at e; exact (wipe_some e).1
    show Seg _ A _ _ _ s₀ _ ((compTurn (.GeneratorExp elt [⟨tg, iter, [], 0⟩] scope pos) 0 (.ref it) .none X.env).onRaise (leaving X.env)) [] s
    rw [compTurn_gen, Sem.onRaise_eq_wrap]
    refine seg_bind_wrap (wpAny_standAt ?_)
    rcases turn i m H w0 with ⟨stop, qt⟩ | ⟨hgo, Nx, hN, step⟩
    · refine seg_bind_wrap ?_
      rw [hA]
      refine thn (T.done X rfl rfl rfl hc i [] s σ0 H _ I0 (stat fr) st stop) fun r s1 ⟨hr, I1⟩ => ?_
      subst hr
      exact seg_end (.ok .next) ⟨rfl, σ0, H, I1, qt⟩
    · refine seg_bind_wrap ?_
      rw [hA]
      refine thn (T.item X rfl rfl rfl hc i [] s σ0 H _ I0 (stat fr) st hgo) fun r s1 ⟨u, hr, h1⟩ => ?_
      subst hr
      refine seg_bind_wrap ?_
      rw [hA]
      refine thn h1 fun _ s2 ⟨x, H2, I2, r2, y2, st2, fr2⟩ => ?_
      have I2' := I2.pinned (stat fr2) (T.obj _ _ st2)
      refine seg_bind_wrap ?_
      rw [hA]
      have h3 := hg.run _ s2 σ0 H2 x u _ I2' r2 (step x H2 y2)
      rw [hx] at h3
      refine thnF h3 fun _ s3 ⟨σ3, H3, I3, w3, q3⟩ => ?_
      refine seg_bind_wrap ?_
      rw [List.forIn_nil]
      refine wpAny_pure ?_
      simp only [if_true]
      have hy : ∀ v, yieldOut X.env v = yieldValue v := fun v => by simp only [yieldOut, hco, Bool.false_eq_true, if_false]
      simp only [hy]
      rw [Sem.bind_eq_wrap', Sem.bind_eq_wrap', Sem.wrap_wrap, Sem.wrap_wrap]
      refine seg_wrap ?_
      rw [hA]
      have h4 := he.run _ s3 σ3 H3 _ I3 q3
      rw [hx] at h4
      refine thnF h4 fun v s4 ⟨y, H4, I4, r4, b, ey, q4⟩ => ?_
      subst ey
      obtain rfl : v = Value.bool b := r4
      have fr4 : ∀ b ∈ fp, H4 b = none := fun b hb => by
        obtain ⟨o, e, d⟩ := T.obj _ _ st2 b hb
        exact (I4.pin (b, o) (List.mem_append_right _ (List.mem_append_right _ (mem_pinsAt hb e)))).2.1
      have kp4 : ∀ b ∈ fp, ∀ o, s2.heap.get? b = some o → s4.heap.get? b = some o := fun b hb o e => (I4.pin (b, o) (List.mem_append_right _ (List.mem_append_right _ (mem_pinsAt hb e)))).1
      have I4' := I4.unpinned
      refine seg_at (seg_yield rfl rfl rfl ⟨b, σ3, H4, rfl, I4', fun hb => ?_, fun hb s'' k hos hbr => ?_⟩)
      · rw [if_neg (by rw [hb]; cases go <;> decide)] at q4
        exact q4
      · rw [if_pos hb] at q4
        obtain ⟨m', hm', w4⟩ := hN H4 q4
        refine seg_again rfl (ih m' (i + 1) σ3 H4 s'' s'' (by omega) w4 (inv_later I4' k hos hbr) w3 (T.keep _ _ _ st2 fun b hb o e => k b o (kp4 b hb o e)) fr4)
/-- .. begun -/
theorem seg_begin {A : Around} {fp : List Addr} {tn : Nat → Heap → Prop} {J : It} {g : TG} {te : TE} {go : Bool} {σ0 : L2.St} {vs : List Nat} {QT QF : Hp → Prop} {W : Nat → Nat → Hp → Prop}
    (hA : A.over (genC tg elt iter scope pos it X.env) [] = X.A) (hc : X.calm = true) (hx : X.xe = fun _ _ => False) (hco : X.env.scope.isCoroutine = false) (hex : ∀ b ∈ fp, b ∈ X.ex ∧ b ≠ X.env.locals ∧ b ∉ X.fs ∧ (∀ x c, X.env.cells.lookup x = some c → c ≠ b) ∧ ∀ p ∈ X.pn, p.1 ≠ b)
    (T : Turn X.prog X.w X.K tg J fp it tn) (hg : PG X tg g) (he : PE X elt te) (hw : ∀ σ : L2.St, wipe (wipe σ vs) vs = wipe σ vs) (turn : GWalk go J g te σ0 vs QT QF W)
    (n m : Nat) (σc : L2.St) (H : Hp) (s₀ s : Shared) (hm : m < n) (w0 : W 0 m H) (I : Inv X [] σc H s) (hσ : wipe σc vs = σ0) (st : tn 0 s.heap) (fr : ∀ b ∈ fp, H b = none) :
      Seg (model X.prog X.w) A (fun n s₀ r s₁ => r = .ok .next ∧ RG X QT n s₀ s₁) (YG X go QF) n s₀ (genS tg elt iter scope pos it X.env) ((model X.prog X.w).den (genS tg elt iter scope pos it X.env)) [] s := by
  have loop := seg_turns (scope := scope) (pos := pos) (iter := iter) hA hc hx hco hex T hg he hw turn n m 0 σc H s₀ s hm w0 I hσ st fr
  show Seg _ A _ _ _ s₀ _ ((compStart (.GeneratorExp elt [⟨tg, iter, [], 0⟩] scope pos) 0 (.ref it) .none X.env).onRaise (leaving X.env)) [] s
  unfold compStart
  rw [Sem.onRaise_eq_wrap]
  show Seg _ A _ _ _ s₀ _ ((ask >>= _).wrap _ _ _ _) [] s
  refine seg_bind_wrap (wpAny_askSetting ?_)
  split
  · exact seg_again rfl loop
  · refine seg_bind_wrap (wpAny_rule ?_)
    show Seg _ A _ _ _ s₀ _ ((standAt iter.pos >>= _).wrap _ _ _ _) [] s
    exact seg_bind_wrap (wpAny_standAt (seg_bind_wrap (T.self _ 0 s _ _ st (seg_again rfl loop))))
end
end Sw
set_option Elab.async false
set_option maxRecDepth 100000
set_option maxHeartbeats 4000000
namespace Sw
open PySem L2 PySem.Spec PyProof.Rows GenW
/-! ### all, any: the consumer -/
section
variable {X : Cx} {A : Around} {a : Addr} {g : Nat} {go : Bool} {QT QF : Hp → Prop} {R : Result → Shared → Prop}
/-- the generator sleeps or has not begun; it may be asked so often -/
def GSt (X : Cx) (A : Around) (g : Nat) (go : Bool) (QT QF : Hp → Prop) (n : Nat) (s : Shared) : Prop :=
  (∃ σc H, Inv X [] σc H s) ∧ ∃ gs, s.gens[g]? = some gs ∧ gs.Goes (model X.prog X.w) A.in1.in1 (fun n s₀ r s₁ => r = .ok .next ∧ RG X QT n s₀ s₁) (YG X go QF) n (.send .none) (s.setGen g .running)
theorem gen_next {E : Value → Shared → Prop} {n : Nat} {s : Shared} {Q : Option Value → Shared → Prop} (hh : A.handled = none) (hroom : A.depth < recursionLimit) (hpn : ∀ s' : Shared, (∀ p ∈ X.pn, s'.heap.get? p.1 = some p.2) → s'.heap.IsGen a g) (st : GSt X A g go QT QF n s)
    (hE : ∀ σc H s', Inv X [] σc H s' → QT H → Q none s') (hF : ∀ σc H s', Inv X [] σc H s' → QF H → Q (some (.bool (!go))) s') (hG : ∀ m s', n = m + 1 → GSt X A g go QT QF m s' → Q (some (.bool go)) s') :
    wpAny (model X.prog X.w) A.in1 (pyNext (.ref a)) Q E s := by
  obtain ⟨⟨σc, H, I⟩, gs, hgs, hgo⟩ := st
  have isg : ∀ {σc : L2.St} {H : Hp} {s' : Shared}, Inv X [] σc H s' → s'.heap.IsGen a g := fun I => hpn _ fun p hp => (I.pin p (List.mem_append_left _ hp)).1
  have hlt : g < s.gens.size := by
    rcases Nat.lt_or_ge g s.gens.size with h | h
    · exact h
    · rw [Array.getElem?_eq_none h] at hgs; cases hgs
  refine wpAny_gsz (n := s.gens.size) (Nat.le_refl _) ?_
  refine wpAny_pyNext_genexpQ (A := A.in1) (Y := YG X go QF) (P := RG X QT) hh I.nolimit hroom (isg I) hgs hgo (fun v s₁ gs' hb hv hsz => ?_) (fun s₁ hp h' hk hsz => ?_)
  · obtain ⟨b, σ1, H1, rfl, I1, q0, q1⟩ := hv
    have hsz : s.gens.size ≤ s₁.gens.size := by rw [← setGen_size s₁ g gs']; exact hsz
    have I2 : Inv X [] σ1 H1 (s₁.setGen g gs') := inv_later I1 (fun _ _ e => e) rfl (allBare_setGen I1.bare hb)
    by_cases e : b = go
    · have k := q1 e ((s₁.setGen g gs').setGen g .running) (fun _ _ e => e) rfl (allBare_setGen (allBare_setGen I1.bare hb) rfl)
      cases n with
      | zero => exact k.elim
      | succ m =>
        rw [e]
        exact hG m _ rfl ⟨⟨σ1, H1, I2⟩, gs', setGen_at (Nat.lt_of_lt_of_le hlt hsz), k⟩
    · have e2 : b = !go := by cases b <;> cases go <;> simp_all
      rw [e2]
      exact hF σ1 H1 _ I2 (q0 e2)
  · obtain ⟨σ1, H1, I1, qt⟩ := hp
    exact hE σ1 H1 _ (inv_later (s := s₁) I1 hk rfl (allBare_setGen I1.bare rfl)) qt
theorem all_loop (hh : A.handled = none) (hroom : A.depth < recursionLimit) (hpn : ∀ s' : Shared, (∀ p ∈ X.pn, s'.heap.get? p.1 = some p.2) → s'.heap.IsGen a g)
    (hT : ∀ σc H s', Inv X [] σc H s' → QT H → R (.ok (.ret (.bool true))) s') (hF : ∀ σc H s', Inv X [] σc H s' → QF H → R (.ok (.ret (.bool false))) s') :
    ∀ (n : Nat) (s : Shared), GSt X A g true QT QF n s → codeAny (model X.prog X.w) A (.builtin "all.loop" ⟨[.ref a], []⟩) R s := by
  intro n
  induction n with
  | zero =>
    intro s st
    refine codeAny_builtin F.entry_all_loop ?_
    rw [Around.under_plainId F.plain_all_loop _]
    show wpAny _ A.in1 (pyNext (.ref a) >>= _) _ _ s
    refine wpAny_bind (gen_next hh hroom hpn st (fun σc H s' I q => ?_) (fun σc H s' I q => ?_) (fun m s' e => by cases e))
    · exact wpAny_bind (wpAny_rule (wpAny_pure (hT σc H s' I q)))
    · refine wpAny_bind (wpAny_holding (wpAny_truthy_bool ?_))
      refine wpAny_bind (wpAny_letGo ?_)
      simp only [Bool.not_true, Bool.false_eq_true, if_false]
      exact wpAny_bind (wpAny_rule (wpAny_pure (hF σc H s' I q)))
  | succ n ih =>
    intro s st
    refine codeAny_builtin F.entry_all_loop ?_
    rw [Around.under_plainId F.plain_all_loop _]
    show wpAny _ A.in1 (pyNext (.ref a) >>= _) _ _ s
    refine wpAny_bind (gen_next hh hroom hpn st (fun σc H s' I q => ?_) (fun σc H s' I q => ?_) (fun m s' e st' => ?_))
    · exact wpAny_bind (wpAny_rule (wpAny_pure (hT σc H s' I q)))
    · refine wpAny_bind (wpAny_holding (wpAny_truthy_bool ?_))
      refine wpAny_bind (wpAny_letGo ?_)
      simp only [Bool.not_true, Bool.false_eq_true, if_false]
      exact wpAny_bind (wpAny_rule (wpAny_pure (hF σc H s' I q)))
    · cases e
      refine wpAny_bind (wpAny_holding (wpAny_truthy_bool ?_))
      refine wpAny_bind (wpAny_letGo ?_)
      simp only [if_true]
      exact wpAny_pure ⟨plainId_quiet F.plain_all_loop _, ih s' st'⟩
theorem any_loop (hh : A.handled = none) (hroom : A.depth < recursionLimit) (hpn : ∀ s' : Shared, (∀ p ∈ X.pn, s'.heap.get? p.1 = some p.2) → s'.heap.IsGen a g)
    (hT : ∀ σc H s', Inv X [] σc H s' → QT H → R (.ok (.ret (.bool false))) s') (hF : ∀ σc H s', Inv X [] σc H s' → QF H → R (.ok (.ret (.bool true))) s') :
    ∀ (n : Nat) (s : Shared), GSt X A g false QT QF n s → codeAny (model X.prog X.w) A (.builtin "any.loop" ⟨[.ref a], []⟩) R s := by
  intro n
  induction n with
  | zero =>
    intro s st
    refine codeAny_builtin F.entry_any_loop ?_
    rw [Around.under_plainId F.plain_any_loop _]
    show wpAny _ A.in1 (pyNext (.ref a) >>= _) _ _ s
    refine wpAny_bind (gen_next hh hroom hpn st (fun σc H s' I q => ?_) (fun σc H s' I q => ?_) (fun m s' e => by cases e))
    · exact wpAny_bind (wpAny_rule (wpAny_pure (hT σc H s' I q)))
    · refine wpAny_bind (wpAny_holding (wpAny_truthy_bool ?_))
      refine wpAny_bind (wpAny_letGo ?_)
      simp only [Bool.not_false, if_true]
      exact wpAny_bind (wpAny_rule (wpAny_pure (hF σc H s' I q)))
  | succ n ih =>
    intro s st
    refine codeAny_builtin F.entry_any_loop ?_
    rw [Around.under_plainId F.plain_any_loop _]
    show wpAny _ A.in1 (pyNext (.ref a) >>= _) _ _ s
    refine wpAny_bind (gen_next hh hroom hpn st (fun σc H s' I q => ?_) (fun σc H s' I q => ?_) (fun m s' e st' => ?_))
    · exact wpAny_bind (wpAny_rule (wpAny_pure (hT σc H s' I q)))
    · refine wpAny_bind (wpAny_holding (wpAny_truthy_bool ?_))
      refine wpAny_bind (wpAny_letGo ?_)
      simp only [Bool.not_false, if_true]
      exact wpAny_bind (wpAny_rule (wpAny_pure (hF σc H s' I q)))
    · cases e
      refine wpAny_bind (wpAny_holding (wpAny_truthy_bool ?_))
      refine wpAny_bind (wpAny_letGo ?_)
      simp only [Bool.false_eq_true, if_false]
      exact wpAny_pure ⟨plainId_quiet F.plain_any_loop _, ih s' st'⟩
end
/-! ### the generator made -/
section
variable {X : Cx} {tg elt iter : Expr} {scope : Scope} {own : List (Str × Nat)} {c P : Addr} {k : Nat} {wi : TI} {g : TG} {te : TE} {go : Bool} {gpos : Pos}
def tGen (P : Addr) (wi : TI) (g : TG) (te : TE) (vs : List Nat) (go : Bool) : TE := fun σ H Q => wi σ H fun J H1 => H1 P = some (TabE P) ∧ ∃ W : Nat → Nat → Hp → Prop, (∃ m, W 0 m H1) ∧
  GWalk go J g te (wipe σ vs) vs (fun H => Q (.bl go) H) (fun H => Q (.bl (!go)) H) W
abbrev genAr (X : Cx) (G : Expr) (it : Addr) (env : Env) : Around := X.A.in1.in1.over (.compLoop G 0 (.ref it) .none env) []
theorem wipe2 (σ : L2.St) (vs : List Nat) : wipe (wipe σ vs) vs = wipe σ vs := by
  refine List.ext_getElem? fun i => ?_
  by_cases h : i ∈ vs
  · by_cases hi : i < σ.length
    · have q : ∀ τ : L2.St, i < τ.length → (wipe τ vs)[i]? = some none := fun τ ht => by
        cases e : (wipe τ vs)[i]? with
        | none => rw [List.getElem?_eq_none_iff, wipe_length] at e; omega
        | some o =>
          cases o with
          | none => rfl
          | some v => exact absurd h (wipe_some e).2
      rw [q _ (by rw [wipe_length]; exact hi), q _ hi]
    · rw [List.getElem?_eq_none (by rw [wipe_length, wipe_length]; omega), List.getElem?_eq_none (by rw [wipe_length]; omega)]
  · rw [wipe_out h]
theorem room_gen {e : Expr} {it : Addr} {env : Env} {A : Around} (hr : Room (k + 1) A) {sc : Scope} {gs : List Comprehension} {ps : Pos} : Room k (A.in1.in1.over (.compLoop (.GeneratorExp e gs sc ps) 0 (.ref it) .none env) []) := by
  refine ⟨hr.hd, ?_, ?_⟩
  · have := hr.dp
    show A.depth + 0 + (1 + 0 + 0 + 0) + 3 * k + 5 < _
    omega
  · have := hr.un
    show A.units + 1 + 1 + 0 + 3 * 1 + 16 * k + 200 < _
    omega
theorem gen_made {pins : List (Addr × Obj)} {s : Shared} {σ : L2.St} {H : Hp} {Q : VK} {Q' : Value → Shared → Prop} (hr : Room (k + 1) X.A) (hN : X.N.Nodup) (TB : GxR.TabB X.base X.mg c P) (hcode : X.env.code = .ref c) (ok : BlkOk X.N X.env.scope scope own) (G : GenSc scope) (hi : PI X tg iter wi)
    (hg : ∀ (s : Shared) (H : Hp) (C : Addr) (code : Value) (A' : Around) (fp : List Addr) (pn : List (Addr × Obj)), Room k A' → PG (X.gen s H scope C code A' fp pn) tg g)
    (he : ∀ (s : Shared) (H : Hp) (C : Addr) (code : Value) (A' : Around) (fp : List Addr) (pn : List (Addr × Obj)), Room k A' → PE (X.gen s H scope C code A' fp pn) elt te)
    (hs : ∀ v, genFold iter X.env v = pure v) (I : Inv X pins σ H s) (h : tGen P wi g te (own.map (·.2)) go σ H Q)
    (hQ : ∀ (X' : Cx) (a : Addr) (gn n : Nat) (s' : Shared), X'.prog = X.prog → X'.w = X.w → (∀ s' : Shared, (∀ p ∈ X'.pn, s'.heap.get? p.1 = some p.2) → s'.heap.IsGen a gn) → GSt X' X.A gn go (fun H => Q (.bl go) H) (fun H => Q (.bl (!go)) H) n s' →
      (∀ σc H s', Inv X' [] σc H s' → Inv X pins σ H s') → s'.heap.IsGen a gn → Q' (.ref a) s') :
    wpAny (model X.prog X.w) X.A (eval (.GeneratorExp elt [⟨tg, iter, [], 0⟩] scope gpos) X.env) Q' X.xe s := by
  have hCap : ∀ y ∈ scope.names, y.2 = .free → ∃ c, X.env.cells.lookup y.1 = some c := fun y hy e => by
    rcases ok.free y hy e with k | k
    · exact I.ok.has _ (.inl k)
    · exact I.ok.has _ (.inr k)
  refine wpAny_GeneratorExp_make G.co (closure_ok hCap) G.cell G.dot ok.kind (by have := hr.dp; omega) ?_ hs
  refine thn (hi.run pins s σ H _ I h) fun xv s1 hx => thn hx fun itv s2 h2 => ?_
  obtain ⟨it, fp, tn, J, H2, e, I2, T, st2, f2, hP, W, ⟨m0, w0⟩, turn⟩ := h2
  subst e
  refine ⟨I2.nolimit, gen_code I2 TB hcode hP fun code h3 tk3 I3 k3 hsz3 => ?_⟩
  obtain ⟨bm, ob, e1, e2, e3, e4, e5, e6, e7, e8⟩ := TB.bm
  refine wpAny_builtinsFor (m := X.mg) (by rw [I3.ok.glob]; exact I3.mod.glob.keeps I3.bk) e1 e2 (I3.bk _ _ e5) e6 e7 e8 ?_
  generalize hs3 : ({ s2 with heap := h3, toks := tk3 } : Shared) = s3 at I3
  have eh3 : h3 = s3.heap := by rw [← hs3]
  subst eh3
  intro h' hn' hsb
  have es3 : s2.gens = s3.gens := by rw [← hs3]
  have st3 : tn 0 s3.heap := T.keep _ _ _ st2 fun b hb o e => k3 b o (fun z => by
    have := (f2 b hb).1
    rw [z, hP] at this
    cases this) e
  have sz3 : ∀ b ∈ fp, b < s3.heap.objs.size := fun b hb => by
    obtain ⟨o, e, _⟩ := T.obj _ _ st3 b hb
    exact Heap.lt_size e
  have hsz : h'.objs.size = s3.heap.objs.size + 1 := by rw [hsb.1, Heap.size_push]
  have keep' : ∀ b o, s3.heap.get? b = some o → h'.get? b = some o := fun b o e => hsb.extBut b o (Nat.ne_of_lt (Heap.lt_size e)) (Heap.get?_push_of_some _ e)
  generalize hgo : ({ cls := .type "generator", data := .fields #[.int s3.gens.size 0, .str "<genexpr>" (s3.toks + 1), .str (X.env.qual ++ "<genexpr>") (s3.toks + 1 + 1)] } : Obj) = gobj
  have keep5 : ∀ b o, s3.heap.get? b = some o → (h'.push gobj).get? b = some o := fun b o e => Heap.get?_push_of_some _ (keep' b o e)
  generalize hGE : (Expr.GeneratorExp elt [⟨tg, iter, [], 0⟩] scope gpos) = GE
  have hX : ∃ X', X' = X.gen s3 H2 scope s3.heap.objs.size code (genAr X GE it (genv X scope s3.heap.objs.size code)) fp [(h'.objs.size, gobj)] := ⟨_, rfl⟩
  obtain ⟨X', eX⟩ := hX
  have isg : ∀ s' : Shared, (∀ p ∈ X'.pn, s'.heap.get? p.1 = some p.2) → s'.heap.IsGen h'.objs.size s3.gens.size := fun s' hp => by
    have q := hp (h'.objs.size, gobj) (by rw [eX]; exact List.mem_singleton.mpr rfl)
    exact ⟨_, _, _, q, by rw [← hgo], by rw [← hgo], by rw [← hgo]⟩
  have hroom : Room k X'.A := by
    rw [eX, ← hGE]
    exact room_gen hr
  have hgc : gobj.data = .fields #[.int s3.gens.size 0, .str "<genexpr>" (s3.toks + 1), .str (X.env.qual ++ "<genexpr>") (s3.toks + 1 + 1)] := by rw [← hgo]
  have start : ∀ s' : Shared, s'.os = s3.os → AllBare s'.gens → (∀ b o, (h'.push gobj).get? b = some o → s'.heap.get? b = some o) → Inv X' [] (wipe σ (own.map (·.2))) H2 s' := fun s' ho hb kk => by
    rw [eX]
    refine gen_start (m := _) I3 ok G hN (fun b hb => ⟨f2 b hb, sz3 b hb⟩) (Nat.le_refl _) hr.hd ?_ ho hb (fun b o e => kk b o (keep5 b o e)) (Heap.Ns.keeps (hn'.push _) kk) fun p hp => ?_
    · have hfr := I3.ok.frames
      rw [← hGE]
      have hfr2 : X.A.in1.in1.frames = some X.stack := hfr
      unfold genAr Around.over
      rw [hfr2]
      rfl
    · rw [List.mem_singleton.mp hp]
      refine ⟨kk _ _ (Heap.get?_push_size _ (by rw [← hgo]; rfl)), by show s3.heap.objs.size ≤ h'.objs.size; omega, by show h'.objs.size ≠ s3.heap.objs.size; omega, fun v z => ?_⟩
      rw [hgc] at z
      cases z
  have back : ∀ σc H s', Inv X' [] σc H s' → Inv X pins σ H s' := fun σc H s' I' => by
    rw [eX] at I'
    exact I3.call' (ch := fp) I'.os I'.base I'.hok I'.bare fun b hb => ⟨(f2 b hb).2.2.2.1, (f2 b hb).2.1, (f2 b hb).2.2.2.2.1, (f2 b hb).2.2.2.2.2⟩
  have hbare : ∀ {c : Code}, AllBare (s3.gens.push (.fresh c)) := fun {c} => I3.bare.push rfl
  refine hQ X' h'.objs.size s3.gens.size (m0 + 1) _ (by rw [eX]) (by rw [eX]) isg ⟨⟨_, _, start _ (by rw [← hs3]) ?_ fun _ _ e => e⟩, _, Array.getElem?_push_size .., rfl, ?_⟩ back ?_
  · exact hbare
  · have I0 := start (({ heap := h'.push gobj, gens := s3.gens.push (.fresh (.compStart GE 0 (.ref it) .none (genv X scope s3.heap.objs.size code))), drawn := s3.drawn, toks := s3.toks + 1 + 1 + 1, os := s3.os } : Shared).setGen s3.gens.size .running) rfl (allBare_setGen (g := s3.gens.size) (x := .running) (s := { heap := h'.push gobj, gens := s3.gens.push (.fresh (.compStart GE 0 (.ref it) .none (genv X scope s3.heap.objs.size code))), drawn := s3.drawn, toks := s3.toks + 1 + 1 + 1, os := s3.os }) hbare rfl) fun _ _ e => e
    have hf : ∀ b ∈ fp, H2 b = none := fun b hb => (f2 b hb).1
    have st5 : tn 0 (h'.push gobj) := T.keep _ _ _ st3 fun b hb o e => keep5 b o e
    have hA : X.A.in1.in1.over (genC tg elt iter scope gpos it X'.env) [] = X'.A := by rw [eX, ← hGE]
    have key := seg_begin (X := X') (scope := scope) (pos := gpos) (iter := iter) (tg := tg) (elt := elt) (it := it) (A := X.A.in1.in1) (fp := fp) (tn := tn) (J := J) (g := g) (te := te) (go := go) (σ0 := wipe σ (own.map (·.2))) (vs := own.map (·.2))
      (QT := fun H => Q (.bl go) H) (QF := fun H => Q (.bl (!go)) H) (W := W) hA (by rw [eX]) (by rw [eX]) (by rw [eX]; exact G.co) (fun b hb => ?_) (by rw [eX]; exact T) (by rw [eX]; exact hg _ _ _ _ _ _ _ (by rw [eX] at hroom; exact hroom)) (by rw [eX]; exact he _ _ _ _ _ _ _ (by rw [eX] at hroom; exact hroom))
      (fun σ => wipe2 σ _) turn (m0 + 1) m0 _ H2 (({ heap := h'.push gobj, gens := s3.gens.push (.fresh (.compStart GE 0 (.ref it) .none (genv X scope s3.heap.objs.size code))), drawn := s3.drawn, toks := s3.toks + 1 + 1 + 1, os := s3.os } : Shared).setGen s3.gens.size .running) (({ heap := h'.push gobj, gens := s3.gens.push (.fresh (.compStart GE 0 (.ref it) .none (genv X scope s3.heap.objs.size code))), drawn := s3.drawn, toks := s3.toks + 1 + 1 + 1, os := s3.os } : Shared).setGen s3.gens.size .running) (Nat.lt_succ_self _) w0 I0 (wipe2 σ _) st5 hf
    · have eC : (genS tg elt iter scope gpos it X'.env) = .compStart GE 0 (.ref it) .none (genv X scope s3.heap.objs.size code) := by rw [eX, ← hGE]
      rw [eC] at key
      exact key
    · rw [eX]
      refine ⟨hb, Nat.ne_of_lt (sz3 b hb), fun z => ?_, fun x c e z => ?_, fun p hp => ?_⟩
      · rcases List.mem_cons.mp (I3.stkSub b z) with z | z
        · exact (f2 b hb).2.1 z
        · exact (f2 b hb).2.2.1 z
      · exact (f2 b hb).2.2.2.2.1 x c (NdefX.clo_cm hCap e) z
      · rw [List.mem_singleton.mp hp]
        have q1 : b < s3.heap.objs.size := sz3 b hb
        show h'.objs.size ≠ b
        rw [hsz]
        exact Nat.ne_of_gt (Nat.lt_succ_of_lt q1)
  · exact ⟨_, _, _, Heap.get?_push_size _ (by rw [← hgo]; rfl), by rw [← hgo], by rw [← hgo], by rw [← hgo]⟩
theorem pe_allG {x : Str} {p pos : Pos} (hx : x = "all") (hr : Room (k + 1) X.A) (hgl : Gl X x) (hm : X.mg x = none) (hN : X.N.Nodup) (TB : GxR.TabB X.base X.mg c P) (hcode : X.env.code = .ref c) (ok : BlkOk X.N X.env.scope scope own) (G : GenSc scope) (hi : PI X tg iter wi)
    (hg : ∀ (s : Shared) (H : Hp) (C : Addr) (code : Value) (A' : Around) (fp : List Addr) (pn : List (Addr × Obj)), Room k A' → PG (X.gen s H scope C code A' fp pn) tg g)
    (he : ∀ (s : Shared) (H : Hp) (C : Addr) (code : Value) (A' : Around) (fp : List Addr) (pn : List (Addr × Obj)), Room k A' → PE (X.gen s H scope C code A' fp pn) elt te)
    (hs : ∀ v, genFold iter X.env v = pure v := by intro _; rfl)
    (hst : starEach [.GeneratorExp elt [⟨tg, iter, [], 0⟩] scope gpos] X.env = (false, eval (.GeneratorExp elt [⟨tg, iter, [], 0⟩] scope gpos) X.env) :: starEach [] X.env := by rfl) :
    PE X (.Call (.Name x p) [.GeneratorExp elt [⟨tg, iter, [], 0⟩] scope gpos] [] pos) (tGen P wi g te (own.map (·.2)) true) := by
  subst hx
  refine ⟨fun pins s σ H Q I h => ?_⟩
  refine wpAny_Call_Name_kw (ld_blt I hgl hm (show bootBuiltins "all" = some (.builtin "all") by decide +kernel) ?_)
  refine PyProof.Rows.callWith_builtin1 ?_ hst (by rfl)
  rw [hst]
  show wpAny _ _ (spliced ((false, eval (.GeneratorExp elt [⟨tg, iter, [], 0⟩] scope gpos) X.env) :: backTo pos (starEach [] X.env))) _ _ s
  refine Calls.spliced_cons (gen_made hr hN TB hcode ok G hi hg he hs I h fun X' a gn n s' ep ew isg st back hgen => ?_)
  refine Calls.spliced_nil ?_
  refine call_function_tree F.kind_all F.plain_all F.entry_all (F.args_all1 _) ?_
  unfold Builtin.«all»
  refine wpAny_bind (wpAny_of_eq (a := Value.ref a) (by rfl) ?_)
  refine wpAny_bind (wpAny_pyIter_gen hgen ?_)
  refine wpAny_pure ⟨plainId_quiet F.plain_all_loop _, ?_⟩
  rw [← ep, ← ew]
  refine all_loop hr.hd (by have := hr.dp; omega) isg (fun σc H' s'' I' q => ?_) (fun σc H' s'' I' q => ?_) n s' st
  · exact ⟨.bl true, H', back _ _ _ I', rfl, q⟩
  · exact ⟨.bl false, H', back _ _ _ I', rfl, q⟩
theorem pe_anyG {x : Str} {p pos : Pos} (hx : x = "any") (hr : Room (k + 1) X.A) (hgl : Gl X x) (hm : X.mg x = none) (hN : X.N.Nodup) (TB : GxR.TabB X.base X.mg c P) (hcode : X.env.code = .ref c) (ok : BlkOk X.N X.env.scope scope own) (G : GenSc scope) (hi : PI X tg iter wi)
    (hg : ∀ (s : Shared) (H : Hp) (C : Addr) (code : Value) (A' : Around) (fp : List Addr) (pn : List (Addr × Obj)), Room k A' → PG (X.gen s H scope C code A' fp pn) tg g)
    (he : ∀ (s : Shared) (H : Hp) (C : Addr) (code : Value) (A' : Around) (fp : List Addr) (pn : List (Addr × Obj)), Room k A' → PE (X.gen s H scope C code A' fp pn) elt te)
    (hs : ∀ v, genFold iter X.env v = pure v := by intro _; rfl)
    (hst : starEach [.GeneratorExp elt [⟨tg, iter, [], 0⟩] scope gpos] X.env = (false, eval (.GeneratorExp elt [⟨tg, iter, [], 0⟩] scope gpos) X.env) :: starEach [] X.env := by rfl) :
    PE X (.Call (.Name x p) [.GeneratorExp elt [⟨tg, iter, [], 0⟩] scope gpos] [] pos) (tGen P wi g te (own.map (·.2)) false) := by
  subst hx
  refine ⟨fun pins s σ H Q I h => ?_⟩
  refine wpAny_Call_Name_kw (ld_blt I hgl hm boot_any ?_)
  refine PyProof.Rows.callWith_builtin1 ?_ hst (by rfl)
  rw [hst]
  show wpAny _ _ (spliced ((false, eval (.GeneratorExp elt [⟨tg, iter, [], 0⟩] scope gpos) X.env) :: backTo pos (starEach [] X.env))) _ _ s
  refine Calls.spliced_cons (gen_made hr hN TB hcode ok G hi hg he hs I h fun X' a gn n s' ep ew isg st back hgen => ?_)
  refine Calls.spliced_nil ?_
  refine call_function_tree F.kind_any F.plain_any F.entry_any (F.args_any1 _) ?_
  unfold Builtin.«any»
  refine wpAny_bind (wpAny_of_eq (a := Value.ref a) (by rfl) ?_)
  refine wpAny_bind (wpAny_pyIter_gen hgen ?_)
  refine wpAny_pure ⟨plainId_quiet F.plain_any_loop _, ?_⟩
  rw [← ep, ← ew]
  refine any_loop hr.hd (by have := hr.dp; omega) isg (fun σc H' s'' I' q => ?_) (fun σc H' s'' I' q => ?_) n s' st
  · exact ⟨.bl false, H', back _ _ _ I', rfl, q⟩
  · exact ⟨.bl true, H', back _ _ _ I', rfl, q⟩
end
/-! ### what the walks ask, by lists -/
theorem gw_tup {K : PySem.W.Frag} {a : Addr} {xs : List V} {go : Bool} {g : TG} {te : TE} {σ0 : L2.St} {vs : List Nat} {QT QF : Hp → Prop} {H : Hp} (Pv : Nat → Hp → Prop) (h0 : Pv 0 H) (hl : ∀ i H, i ≤ xs.length → Pv i H → SqT K H a xs)
    (hs : ∀ i x H, xs[i]? = some x → Pv i H → g x σ0 H fun σ2 H2 => wipe σ2 vs = σ0 ∧ te σ2 H2 fun y H3 => ∃ b, y = .bl b ∧ if b = go then Pv (i + 1) H3 else QF H3) (hd : ∀ H, Pv xs.length H → QT H) :
    ∃ W : Nat → Nat → Hp → Prop, (∃ m, W 0 m H) ∧ GWalk go (Itt K a) g te σ0 vs QT QF W := by
  refine ⟨fun i m H => i ≤ xs.length ∧ m = xs.length - i ∧ Pv i H, ⟨xs.length, Nat.zero_le _, by simp, h0⟩, ?_⟩
  rintro i m H ⟨hi, rfl, hp⟩
  have hL := hl i H hi hp
  by_cases e : i = xs.length
  · exact .inl ⟨⟨xs, hL, by omega⟩, hd H (by rw [← e]; exact hp)⟩
  · have hlt : i < xs.length := by omega
    refine .inr ⟨⟨xs, xs[i], hL, List.getElem?_eq_getElem hlt⟩, Pv (i + 1), fun H' hq => ⟨_, by omega, hlt, rfl, hq⟩, fun x H' hy => ?_⟩
    obtain ⟨rfl, hx⟩ := hy
    exact hs i x _ (hx xs hL) hp
theorem gw_list {K : PySem.W.Frag} {a : Addr} {xs : List V} {go : Bool} {g : TG} {te : TE} {σ0 : L2.St} {vs : List Nat} {QT QF : Hp → Prop} {H : Hp} (Pv : Nat → Hp → Prop) (h0 : Pv 0 H) (hl : ∀ i H, i ≤ xs.length → Pv i H → SqL K H a xs)
    (hs : ∀ i x H, xs[i]? = some x → Pv i H → g x σ0 H fun σ2 H2 => wipe σ2 vs = σ0 ∧ te σ2 H2 fun y H3 => ∃ b, y = .bl b ∧ if b = go then Pv (i + 1) H3 else QF H3) (hd : ∀ H, Pv xs.length H → QT H) :
    ∃ W : Nat → Nat → Hp → Prop, (∃ m, W 0 m H) ∧ GWalk go (Itl K a) g te σ0 vs QT QF W := by
  refine ⟨fun i m H => i ≤ xs.length ∧ m = xs.length - i ∧ Pv i H, ⟨xs.length, Nat.zero_le _, by simp, h0⟩, ?_⟩
  rintro i m H ⟨hi, rfl, hp⟩
  have hL := hl i H hi hp
  by_cases e : i = xs.length
  · exact .inl ⟨⟨xs, hL, by omega⟩, hd H (by rw [← e]; exact hp)⟩
  · have hlt : i < xs.length := by omega
    refine .inr ⟨⟨xs, xs[i], hL, List.getElem?_eq_getElem hlt⟩, Pv (i + 1), fun H' hq => ⟨_, by omega, hlt, rfl, hq⟩, fun x H' hy => ?_⟩
    obtain ⟨rfl, hx⟩ := hy
    exact hs i x _ (hx xs hL) hp
end Sw
set_option Elab.async false
set_option maxRecDepth 100000
set_option maxHeartbeats 4000000
namespace Sw
open PySem L2 PySem.Spec PyProof.Rows GenW
/-! ### the end of a law over defs with generator expressions: their tables are tracked as things that may grow -/
abbrev Tabs (ts : List (Addr × Addr)) (H : Hp) : Prop := ∀ p ∈ ts, H p.2 = some (TabE p.2)
theorem Tabs.same {ts : List (Addr × Addr)} {H H' : Hp} (h : Tabs ts H) (s : Same H H') : Tabs ts H' := fun p hp => s _ _ (h p hp)
theorem law_callE {P : Program} {w : World} {K : PySem.W.Frag} {mg mb : Str → Option Value} {k : Nat} {fa a : Addr} {cs : List (Addr × Addr)} {fd : FuncData} {x : Str} {sp : Sp} {s₁ : Shared} {vs : List Value} {ns : List Int}
    (KX : K.In s₁.heap) (hns : s₁.heap.Ns mainGlobals mg) (hb : s₁.heap.Ns builtinsNs mb) (hbb : ∀ x : Str, x ≠ "__name__" → mb x = bootBuiltins x) (hlim : s₁.heap.NoLimit) (hg : s₁.gens = #[])
    (hT : ∀ p ∈ cs, s₁.heap.get? p.2 = some { cls := .none, data := .fields #[] }) (nT : ∀ p ∈ cs, K.lookup p.2 = none) (C : ∀ p ∈ cs, PySem.W.CodeHd s₁.heap p.1 p.2)
    (hbm : ∃ (bm : Addr) (ob : Obj), mg "__builtins__" = some (.ref bm) ∧ bm ≠ builtinsNs ∧ s₁.heap.get? bm = some ob ∧ ob.cls = .type "module" ∧ ob.dict = some builtinsNs ∧ ob.data = .plain)
    (ha : s₁.heap.get? a = some { cls := .type "list", data := .seq vs.toArray }) (hi : IntsAre vs ns) (hl : ns.length ≤ sizeLine) (hr : Room k callerA)
    (F : ∀ base : Heap, K.In base → base.Ns mainGlobals mg → (∀ p ∈ cs, GxR.TabB base mg p.1 p.2) → FnOk P w K mg base CX0 k fa fd [x] sp) (hbind : ∀ (s : Shared) (u : Value), BindsTo s fd ⟨[u], []⟩ [(x, u)])
    (hsp : ∀ H : Hp, Tabs cs H → SqL K H a (ns.map V.int) → sp [.ref a] H (fun v H' => v = .bl true ∧ Tabs cs H') fun _ _ _ => False) :
    codeAny (model P w) callerA (.call (.ref fa) ⟨[.ref a], []⟩) (fun r s' => r = .ok (.ret (.bool true)) ∧ OldK s₁.heap s'.heap ∧ s'.os = s₁.os ∧ AllBare s'.gens) s₁ := by
  have rv := vals_ints hi
  have lenV := hi.length
  have isT : ∀ b : Addr, b ∈ cs.map (·.2) → s₁.heap.get? b = some { cls := .none, data := .fields #[] } := fun b hb => by
    obtain ⟨p, hp, e⟩ := List.mem_map.mp hb
    rw [← e]
    exact hT p hp
  have aT : a ∉ cs.map (·.2) := fun z => by
    have q := isT a z
    rw [ha] at q
    have z' : Data.seq vs.toArray _ = Data.fields #[] := congrArg Obj.data (Option.some.inj q)
    cases z'
  have memT : ∀ p ∈ cs, p.2 ∈ cs.map (·.2) := fun p hp => List.mem_map.mpr ⟨p, hp, rfl⟩
  have core : ∀ H : Hp, Tabs cs H → (∀ b, H b = none ∨ b ∈ cs.map (·.2) ∨ ∃ o xs, H b = some (.frz o (.lst xs))) → SqL K H a (ns.map V.int) → HOk P w H s₁.heap → (∀ b, H b ≠ none → b = a ∨ b ∈ cs.map (·.2)) → (H a ≠ none → K.lookup a = none) →
      codeAny (model P w) callerA (.call (.ref fa) ⟨[.ref a], []⟩) (fun r s' => r = .ok (.ret (.bool true)) ∧ OldK s₁.heap s'.heap ∧ s'.os = s₁.os ∧ AllBare s'.gens) s₁ := by
    intro H hH hO hS hok hA hK
    have base_of : ∀ {b : Addr} {o : Obj}, s₁.heap.get? b = some o → H b = none → (hidT s₁.heap H).get? b = some o := fun e n => hidT_get e n
    have noD : ∀ {b : Addr} {o : Obj}, s₁.heap.get? b = some o → (∀ vs n, o.data ≠ .seq vs n) → o.data ≠ .fields #[] → H b = none := fun {b o} e h1 h2 => by
      cases q : H b with
      | none => rfl
      | some u =>
        rcases hA b (by rw [q]; simp) with e' | e'
        · rw [e', ha] at e
          cases e
          exact (h1 _ _ rfl).elim
        · rw [isT b e'] at e
          cases e
          exact (h2 rfl).elim
    have noA : ∀ {b : Addr} {o : Obj} {es : Array DictEntry} {ep : Nat}, s₁.heap.get? b = some o → o.data = .dict es ep → H b = none := fun {b o es ep} e d => by
      refine noD e (fun vs n z => ?_) fun z => ?_
      · rw [d] at z
        cases z
      · rw [d] at z
        cases z
    have nsK : ∀ {b : Addr} {m : Str → Option Value}, s₁.heap.Ns b m → (hidT s₁.heap H).Ns b m := fun {b m} ⟨o, es, ep, e, d, r⟩ => ⟨o, es, ep, base_of e (noA e d), d, r⟩
    have hKb : K.In (hidT s₁.heap H) := fun b o e => base_of (KX b o e) (by
      cases q : H b with
      | none => rfl
      | some u =>
        rcases hA b (by rw [q]; simp) with e' | e'
        · rw [e'] at e q
          rw [hK (by rw [q]; simp)] at e
          cases e
        · obtain ⟨p, hp, ep⟩ := List.mem_map.mp e'
          rw [← ep, nT p hp] at e
          cases e)
    have hM : L2.Mod K mg (hidT s₁.heap H) := ⟨hKb, nsK hns, ⟨mb, nsK hb, hbb⟩, let ⟨mc, h1, h2⟩ := hlim; ⟨mc, nsK h1, h2⟩⟩
    have TB : ∀ p ∈ cs, GxR.TabB (hidT s₁.heap H) mg p.1 p.2 := fun p hp => by
      have hTp := hT p hp
      refine ⟨?_, ?_, fun z => ?_⟩
      · obtain ⟨o, us, file, tf, flags, tg, inF, text, tt, e1, r1, r2, r3, r4, r5, r6, r7, r8, hne⟩ := C p hp
        refine ⟨o, us, file, tf, flags, tg, inF, text, tt, base_of e1 (noD e1 (fun vs n z => ?_) fun z => ?_), r1, r2, r3, r4, r5, r6, r7, r8, hne⟩
        · rw [r2] at z
          cases z
        · rw [r2] at z
          cases z
          simp at r3
      · obtain ⟨bm, ob, b1, b2, b3, b4, b5, b6⟩ := hbm
        have nG : bm ≠ mainGlobals := fun q => by
          obtain ⟨o, es, ep, e, hd, _⟩ := hns
          rw [q, e] at b3
          cases b3
          rw [hd] at b6
          cases b6
        have nP : bm ≠ p.2 := fun q => by
          rw [q, hTp] at b3
          cases b3
          cases b6
        refine ⟨bm, ob, b1, b2, nG, nP, base_of b3 (noD b3 (fun vs n z => ?_) fun z => ?_), b4, b5, b6⟩
        · rw [b6] at z
          cases z
        · rw [b6] at z
          cases z
      · obtain ⟨o, es, ep, e, hd, _⟩ := hns
        rw [z, hTp] at e
        cases e
        cases hd
    have e0 : Env0 P w K mg (hidT s₁.heap H) callerA [] s₁ H := ⟨rfl, hM, fun b o e => of_hidT e, Nat.le_of_eq (hidT_size _ _), trivial, fun b hb => absurd (show b ∈ ([] : List Addr) from hb) (by simp), hok, .of_eq hg⟩
    refine codeAny_mono ((F _ hKb (nsK hns) TB).run callerA [] s₁ H ⟨[.ref a], []⟩ [.ref a] [.ref a] _ _ hr e0 (hbind s₁ (.ref a)) (.cons rfl .nil) (hsp H hH hS)) fun r s' h => ?_
    cases r with
    | error e => exact False.elim h
    | ok fl =>
      cases fl with
      | next => exact False.elim h
      | brk => exact False.elim h
      | cont => exact False.elim h
      | ret u =>
        obtain ⟨v, H', os, bare, un, hok', r', q⟩ := h
        obtain ⟨qv, qT⟩ := q
        subst qv
        obtain rfl : u = Value.bool true := r'
        have stays : ∀ b o, b ∉ cs.map (·.2) → s₁.heap.get? b = some o → s'.heap.get? b = some o := fun b o nb e => by
          cases q : H b with
          | none => exact un.keep b o e q (by intro z; exact absurd (show b ∈ ([] : List Addr) from z) (by simp)) (by simp)
          | some u =>
            rcases hO b with z | z | ⟨ob, xs, z⟩
            · rw [q] at z; cases z
            · exact absurd z nb
            · obtain ⟨e1, _⟩ := hok b _ z
              obtain ⟨e2, _⟩ := hok' b _ (un.frzs b ob _ z)
              rw [e] at e1; cases e1
              exact e2
        have grew : ∀ p ∈ cs, ∃ more : Array Value, s'.heap.get? p.2 = some { cls := .none, data := .fields more } := fun p hp => by
          obtain ⟨⟨ps, z, _⟩, _⟩ := hok' p.2 _ (qT p hp)
          exact ⟨ps, z⟩
        refine ⟨rfl, ⟨fun b o e => ?_, fun b o e => ?_⟩, os, bare⟩
        · by_cases hb : b ∈ cs.map (·.2)
          · obtain ⟨p, hp, ep⟩ := List.mem_map.mp hb
            obtain ⟨more, hm⟩ := grew p hp
            rw [← ep] at e ⊢
            rw [hT p hp] at e
            cases e
            exact .inr (.inl ⟨((C p hp).tab (hT p hp)).isCodeTable, rfl, #[], more, rfl, by rw [Array.empty_append]; exact hm⟩)
          · exact .inl (stays b o hb e)
        · by_cases hb : b ∈ cs.map (·.2)
          · obtain ⟨p, hp, ep⟩ := List.mem_map.mp hb
            obtain ⟨more, hm⟩ := grew p hp
            rw [← ep]
            exact ⟨_, hm⟩
          · exact ⟨o, stays b o hb e⟩
  have tOk : ∀ {H : Hp} {b : Addr}, b ∈ cs.map (·.2) → ObjOk P w H s₁.heap b (TabE b) := fun hb => tabE_ok (isT _ hb) (by trivial)
  cases hk : K.lookup a with
  | some o =>
    have e := KX a o hk
    rw [ha] at e
    cases e
    refine core (fun b => if b ∈ cs.map (·.2) then some (TabE b) else none) (fun p hp => if_pos (memT p hp)) (fun b => ?_) (.inr ⟨_, vs.toArray, _, hk, rfl, rfl, rfl, by rw [List.size_toArray, lenV]; exact hl, by simpa using rv⟩) (fun b u z => ?_) (fun b z => ?_) fun z => absurd (show (if a ∈ cs.map (·.2) then some (TabE a) else none) = none from if_neg aT) z
    · by_cases hb : b ∈ cs.map (·.2)
      · exact .inr (.inl hb)
      · exact .inl (if_neg hb)
    · by_cases hb : b ∈ cs.map (·.2)
      · have z' := (if_pos hb).symm.trans z
        cases z'
        exact tOk hb
      · have z' := (if_neg hb).symm.trans z
        cases z'
    · by_cases hb : b ∈ cs.map (·.2)
      · exact .inr hb
      · exact absurd (if_neg hb) z
  | none =>
    refine core (fun b => if b = a then some (.frz { cls := .type "list", data := .seq vs.toArray } (.lst (ns.map V.int))) else if b ∈ cs.map (·.2) then some (TabE b) else none) (fun p hp => (if_neg (show ¬ p.2 = a from fun z => aT (by rw [← z]; exact memT p hp))).trans (if_pos (memT p hp))) (fun b => ?_)
      (.inl (.inr ⟨{ cls := .type "list", data := .seq vs.toArray }, if_pos rfl⟩)) (fun b u z => ?_) (fun b z => ?_) fun _ => hk
    · by_cases hb : b = a
      · exact .inr (.inr ⟨_, _, if_pos hb⟩)
      · by_cases hb2 : b ∈ cs.map (·.2)
        · exact .inr (.inl hb2)
        · exact .inl ((if_neg hb).trans (if_neg hb2))
    · by_cases hb : b = a
      · have z' := (if_pos hb).symm.trans z
        cases z'
        rw [hb]
        exact ⟨ha, by rw [List.length_map]; exact hl, vs, _, rv, ha⟩
      · have z1 := (if_neg hb).symm.trans z
        by_cases hb2 : b ∈ cs.map (·.2)
        · have z' := (if_pos hb2).symm.trans z1
          cases z'
          exact tOk hb2
        · have z' := (if_neg hb2).symm.trans z1
          cases z'
    · by_cases hb : b = a
      · exact .inl hb
      · by_cases hb2 : b ∈ cs.map (·.2)
        · exact .inr hb2
        · exact absurd ((if_neg hb).trans (if_neg hb2)) z
/-- the tables of the defs that stand under these names: empty at the law's entry -/
def OwnT (K : PySem.W.Frag) (h : Heap) (x : Str) (c P : Addr) : Prop := ∀ (f : Addr) (o : Obj) (fd : FuncData) (e : Value) (dd : Option Addr) (vs : Array Value) (sl : Array (Option Value)), PySem.W.nsIn K mainGlobals x = some (some (.ref f)) → K.lookup f = some o → o.data = .func fd → fd.code = .ref c → K.lookup c = some ⟨e, dd, .fields vs, sl⟩ → vs[11]? = some (.ref P) →
  h.get? P = some { cls := .none, data := .fields #[] } ∧ PySem.W.CodeHd h c P
theorem walk_ofE {l : PySem.W.OpenLaw} {n k : Nat} {q : Program} {loose : List Str} {XP : (Str → Option Value) → Heap → Prop} {YP : World → Heap → Prop} {d : DefRec} {K : Params → PySem.W.Frag} {x : Str}
    (hn : l.most = some n) (hn2 : n ≤ sizeLine) (hdf : d.params.defaults = []) (hr : Room k callerA) (hY : ∀ (w : World) (h : Heap), YP w h → (K w.params).In h)
    (F : ∀ (w : World) (mg : Str → Option Value) (fa : Addr) (h : Heap), (K w.params).In h → h.Ns mainGlobals mg → mg d.name = some (.ref fa) → (∀ x c P, ((recsOf q).any fun e => e.name == x) = true → OwnT (K w.params) h x c P) →
      ∃ (fd : FuncData) (cs : List (Addr × Addr)) (sp : Sp), (∀ p ∈ cs, h.get? p.2 = some { cls := .none, data := .fields #[] }) ∧ (∀ p ∈ cs, (K w.params).lookup p.2 = none) ∧ (∀ p ∈ cs, PySem.W.CodeHd h p.1 p.2) ∧ (∀ (s : Shared) (u : Value), BindsTo s fd ⟨[u], []⟩ [(x, u)]) ∧
        (∀ (H : Hp) (a : Addr) (ns : List Int), ns.length ≤ n → (∀ z ∈ ns, Builtin.Int.intBits z ≤ 1048576) → Tabs cs H → SqL (K w.params) H a (ns.map V.int) → sp [.ref a] H (fun v H' => v = .bl true ∧ Tabs cs H') fun _ _ _ => False) ∧
        ∀ base : Heap, (K w.params).In base → base.Ns mainGlobals mg → (∀ p ∈ cs, GxR.TabB base mg p.1 p.2) → FnOk l.prog w (K w.params) mg base CX0 k fa fd [x] sp) :
    PySem.W.WalkO q loose XP YP l.row.toRowW d [] (fun f vs => PySem.call f vs) := by
  refine Att.attach_callB hn hdf fun w s₀ s₁ mg mb fa o pm cd doc a vs ns G Y ho hd hcd hmg hobj hints hlen hbits hg => ?_
  have KX := hY w _ Y
  obtain ⟨fd, cs, sp, hT, nT, C, hb, hsp, hF⟩ := F w mg fa _ KX G.T.g hmg fun x c P hrec f o1 fd1 e dd vs1 sl k0 k1 k2 k3 k4 k5 => by
    obtain ⟨dL, hm, hn1⟩ := List.any_eq_true.mp hrec
    have hn2 : dL.name = x := beq_iff_eq.mp hn1
    obtain ⟨a', o', fd', c', P', h1, h2, h3, h4, h5, h6⟩ := G.T.tab dL hm
    have q0 := PySem.W.mg_of KX G.T.g k0
    rw [hn2, q0] at h1
    cases h1
    have g1 := KX _ _ k1
    rw [g1] at h2
    cases h2
    rw [k2] at h3
    cases h3
    rw [k3] at h4
    cases h4
    have h6' := h6
    obtain ⟨⟨oc, vc, e1, _, e3, e4⟩, hP⟩ := h6
    have g2 := KX _ _ k4
    rw [g2] at e1
    cases e1
    cases e3
    rw [k5] at e4
    cases e4
    exact ⟨hP, PySem.W.CodeHd.of h5 h6'⟩
  exact law_callE KX G.T.g G.T.b G.T.builtins G.T.nolimit hg hT nT C G.T.bmain hobj hints (Nat.le_trans hlen hn2) hr hF hb (fun H hH hS => hsp H a ns hlen hbits hH hS)
end Sw
set_option Elab.async false
set_option maxRecDepth 100000
set_option maxHeartbeats 4000000
namespace Sw
open PySem L2 PySem.Spec PyProof.Rows
def top (i : Nat) : Stmt := PySem.Challenge.pw_soleway_k01_signs_and_rows.main.body.getD i (.Pass ⟨0, 0, 0, 0⟩)
abbrev s_is_sign : Stmt := top 2
abbrev s_is_row : Stmt := top 3
abbrev s_law_text : Stmt := top 5
abbrev s_law_is_sign : Stmt := top 6
abbrev s_law_right : Stmt := top 7
abbrev s_law : Stmt := top 8
end Sw
set_option Elab.async false
set_option maxRecDepth 100000
set_option maxHeartbeats 4000000
namespace Sw
open PySem L2 PySem.Spec PyProof.Rows
theorem szb {n : Nat} (h : n ≤ 16000000) : n < sizeLine := by rw [sizeLine_eq]; omega
theorem szl {n : Nat} (h : n ≤ 16000000) : n ≤ sizeLine := by rw [sizeLine_eq]; omega
/-! ### a thing's type, by its data -/
def tyN : PyData → String
  | .none => "NoneType"
  | .bool _ => "bool"
  | .int _ => "int"
  | .str _ => "str"
  | .list _ => "list"
  | .tuple _ => "tuple"
  | .dict _ => "dict"
theorem tyX {K : PySem.W.Frag} {H : Hp} {v : V} {d : PyData} (h : Dp K H v d) : TyX K H v (.type (tyN d)) := by
  cases h with
  | non => exact .base .non
  | bl b => exact .base (.bl b)
  | int i => exact .base (.int i)
  | str x => exact .base (.str x)
  | lst h1 h2 =>
    rcases h1 with (h1 | ⟨o, h1⟩) | ⟨o, its, n, e, c, _⟩
    · exact .base (.lst h1)
    · exact .base (.frz h1)
    · exact .kList e c
  | tup h1 h2 =>
    rcases h1 with (h1 | ⟨o, h1⟩) | ⟨o, its, n, e, c, _⟩
    · exact .base (.tup h1)
    · exact .fTuple h1
    · exact .kTuple e c
/-- the answer of isinstance for the built-in class T -/
theorem isD (K : PySem.W.Frag) (T : String) (f : PyData → Bool) (h1 : kitB "NoneType" T = some (f .none)) (h2 : ∀ b, kitB "bool" T = some (f (.bool b))) (h3 : ∀ i, kitB "int" T = some (f (.int i))) (h4 : ∀ t, kitB "str" T = some (f (.str t)))
    (h5 : ∀ l, kitB "list" T = some (f (.list l))) (h6 : ∀ l, kitB "tuple" T = some (f (.tuple l))) {H : Hp} {v : V} {d : PyData} (h : Dp K H v d) : PySem.W.kitOne K (.type (tyN d)) (.type T) = some (f d) := by
  cases h with
  | non => exact kit_ty h1
  | bl b => exact kit_ty (h2 b)
  | int i => exact kit_ty (h3 i)
  | str x => exact kit_ty (h4 x)
  | lst _ _ => exact kit_ty (h5 _)
  | tup _ _ => exact kit_ty (h6 _)
def isStrD : PyData → Bool
  | .str _ => true
  | _ => false
def isTupD : PyData → Bool
  | .tuple _ => true
  | _ => false
def isLstD : PyData → Bool
  | .list _ => true
  | _ => false
def isBoolD : PyData → Bool
  | .bool _ => true
  | _ => false
def isIntD : PyData → Bool
  | .int _ => true
  | .bool _ => true
  | _ => false
theorem isStr {K : PySem.W.Frag} {H : Hp} {v : V} {d : PyData} (h : Dp K H v d) : PySem.W.kitOne K (.type (tyN d)) (.type "str") = some (isStrD d) :=
  isD K "str" isStrD (by decide +kernel) (fun _ => (by decide +kernel : kitB "bool" "str" = some false)) (fun _ => (by decide +kernel : kitB "int" "str" = some false)) (fun _ => (by decide +kernel : kitB "str" "str" = some true)) (fun _ => (by decide +kernel : kitB "list" "str" = some false)) (fun _ => (by decide +kernel : kitB "tuple" "str" = some false)) h
theorem isTup {K : PySem.W.Frag} {H : Hp} {v : V} {d : PyData} (h : Dp K H v d) : PySem.W.kitOne K (.type (tyN d)) (.type "tuple") = some (isTupD d) :=
  isD K "tuple" isTupD (by decide +kernel) (fun _ => (by decide +kernel : kitB "bool" "tuple" = some false)) (fun _ => (by decide +kernel : kitB "int" "tuple" = some false)) (fun _ => (by decide +kernel : kitB "str" "tuple" = some false)) (fun _ => (by decide +kernel : kitB "list" "tuple" = some false)) (fun _ => (by decide +kernel : kitB "tuple" "tuple" = some true)) h
theorem isLst {K : PySem.W.Frag} {H : Hp} {v : V} {d : PyData} (h : Dp K H v d) : PySem.W.kitOne K (.type (tyN d)) (.type "list") = some (isLstD d) :=
  isD K "list" isLstD (by decide +kernel) (fun _ => (by decide +kernel : kitB "bool" "list" = some false)) (fun _ => (by decide +kernel : kitB "int" "list" = some false)) (fun _ => (by decide +kernel : kitB "str" "list" = some false)) (fun _ => (by decide +kernel : kitB "list" "list" = some true)) (fun _ => (by decide +kernel : kitB "tuple" "list" = some false)) h
theorem isBool {K : PySem.W.Frag} {H : Hp} {v : V} {d : PyData} (h : Dp K H v d) : PySem.W.kitOne K (.type (tyN d)) (.type "bool") = some (isBoolD d) :=
  isD K "bool" isBoolD (by decide +kernel) (fun _ => (by decide +kernel : kitB "bool" "bool" = some true)) (fun _ => (by decide +kernel : kitB "int" "bool" = some false)) (fun _ => (by decide +kernel : kitB "str" "bool" = some false)) (fun _ => (by decide +kernel : kitB "list" "bool" = some false)) (fun _ => (by decide +kernel : kitB "tuple" "bool" = some false)) h
theorem isInt {K : PySem.W.Frag} {H : Hp} {v : V} {d : PyData} (h : Dp K H v d) : PySem.W.kitOne K (.type (tyN d)) (.type "int") = some (isIntD d) :=
  isD K "int" isIntD (by decide +kernel) (fun _ => (by decide +kernel : kitB "bool" "int" = some true)) (fun _ => (by decide +kernel : kitB "int" "int" = some true)) (fun _ => (by decide +kernel : kitB "str" "int" = some false)) (fun _ => (by decide +kernel : kitB "list" "int" = some false)) (fun _ => (by decide +kernel : kitB "tuple" "int" = some false)) h
/-! ### is, is not of truths -/
section
variable {X : Cx}
def rIsB (n : Bool) : R2 := fun x y H Q => ∃ a b, x = .bl a ∧ y = .bl b ∧ Q (.bl (if n then !decide (a = b) else decide (a = b))) H
theorem bool_beq (a b : Bool) : (Value.bool a == Value.bool b) = decide (a = b) := by cases a <;> cases b <;> rfl
theorem op_isB : OpR X (compareOp .Is) (rIsB false) := by
  intro pins s σ H x y v u Q I rx ry h
  obtain ⟨a, b, rfl, rfl, q⟩ := h
  cases (show v = Value.bool a from rx)
  cases (show u = Value.bool b from ry)
  exact wpAny_is_plain rfl (fin_bl I q (bool_beq a b).symm)
theorem op_notB : OpR X (compareOp .IsNot) (rIsB true) := by
  intro pins s σ H x y v u Q I rx ry h
  obtain ⟨a, b, rfl, rfl, q⟩ := h
  cases (show v = Value.bool a from rx)
  cases (show u = Value.bool b from ry)
  exact wpAny_isNot_plain rfl (fin_bl I q (congrArg not (bool_beq a b).symm))
end
/-! ### walks over a text's signs -/
theorem gw_str {x : Str} {go : Bool} {g : TG} {te : TE} {σ0 : L2.St} {vs : List Nat} {QT QF : Hp → Prop} {H : Hp} (Pv : Nat → Hp → Prop) (h0 : Pv 0 H)
    (hs : ∀ i c H, x.cps.toList[i]? = some c → Pv i H → g (.str ⟨#[c]⟩) σ0 H fun σ2 H2 => wipe σ2 vs = σ0 ∧ te σ2 H2 fun y H3 => ∃ b, y = .bl b ∧ if b = go then Pv (i + 1) H3 else QF H3) (hd : ∀ H, Pv x.cps.toList.length H → QT H) :
    ∃ W : Nat → Nat → Hp → Prop, (∃ m, W 0 m H) ∧ GWalk go (Its x) g te σ0 vs QT QF W := by
  have hl : x.cps.toList.length = x.cps.size := by simp
  refine ⟨fun i m H => i ≤ x.cps.size ∧ m = x.cps.size - i ∧ Pv i H, ⟨_, Nat.zero_le _, rfl, h0⟩, ?_⟩
  rintro i m H ⟨hi, rfl, hp⟩
  by_cases e : i = x.cps.size
  · exact .inl ⟨by show x.cps.size ≤ i; omega, hd H (by rw [hl, ← e]; exact hp)⟩
  · refine .inr ⟨by show i < x.cps.size; omega, Pv (i + 1), fun H' hq => ⟨_, by omega, by omega, rfl, hq⟩, fun v H' hy => ?_⟩
    obtain ⟨rfl, c, hc, rfl⟩ := hy
    exact hs i c _ (by rw [Array.getElem?_toList]; exact hc) hp
theorem lc_str {x : Str} {g : TG} {tt : TT} {te : TE} {vs : List Nat} {σ : L2.St} {H1 : Hp} {D : Addr} {Qd : Hp → Prop} (Pv : Nat → Hp → Prop) (h0 : Pv 0 (upd H1 D (.lst [])))
    (hs : ∀ i c H, x.cps.toList[i]? = some c → Pv i H → g (.str ⟨#[c]⟩) (wipe σ vs) H fun σ2 H2 => wipe σ2 vs = wipe σ vs ∧ tt σ2 H2 fun b H3 => if b = true then te σ2 H3 fun y H4 => ∃ acc, H4 D = some (.lst acc) ∧ acc.length < sizeLine ∧ Pv (i + 1) (upd H4 D (.lst (acc ++ [y]))) else Pv (i + 1) H3)
    (hd : ∀ H, Pv x.cps.toList.length H → Qd H) : ∃ W : Nat → Nat → Hp → Prop, (∃ m, W 0 m (upd H1 D (.lst []))) ∧ ∀ i m H, W i m H →
      ((Its x).stop i H ∧ Qd H) ∨ ((Its x).go i H ∧ ∃ Nx : Hp → Prop, (∀ H', Nx H' → ∃ m', m' < m ∧ W (i + 1) m' H') ∧ ∀ v H', (Its x).yld i H v H' → g v (wipe σ vs) H' fun σ2 H2 => wipe σ2 vs = wipe σ vs ∧ tt σ2 H2 fun b H3 =>
        if b = true then te σ2 H3 fun y H4 => ∃ acc, H4 D = some (.lst acc) ∧ acc.length < sizeLine ∧ Nx (upd H4 D (.lst (acc ++ [y]))) else Nx H3) := by
  have hl : x.cps.toList.length = x.cps.size := by simp
  refine ⟨fun i m H => i ≤ x.cps.size ∧ m = x.cps.size - i ∧ Pv i H, ⟨_, Nat.zero_le _, rfl, h0⟩, ?_⟩
  rintro i m H ⟨hi, rfl, hp⟩
  by_cases e : i = x.cps.size
  · exact .inl ⟨by show x.cps.size ≤ i; omega, hd H (by rw [hl, ← e]; exact hp)⟩
  · refine .inr ⟨by show i < x.cps.size; omega, Pv (i + 1), fun H' hq => ⟨_, by omega, by omega, rfl, hq⟩, fun v H' hy => ?_⟩
    obtain ⟨rfl, c, hc, rfl⟩ := hy
    exact hs i c _ (by rw [Array.getElem?_toList]; exact hc) hp
/-! ### t * k of a tuple, of any tuple -/
theorem tuple_mulOne (l : Addr) (items : Array Value) (n : Nat) (dd : Option Addr) (sl : Array (Option Value)) (x : Int) (u : Tok) (c0 : (decide (x < -(2 ^ 63)) || decide (x ≥ 2 ^ 63)) = false) (c1 : (items.isEmpty || x == 1) = true) :
    Meets (Builtin.«tuple.__mul__» ⟨[.ref l, .int x u], []⟩) (fun _ R s => s.heap.get? l = some { cls := .type "tuple", dict := dd, data := .seq items n, slots := sl } ∧ R (.ok (.ret (Value.ref l))) s) :=
  .of_wp fun prog w A R s h => by
    obtain ⟨hp, g, d, tk, os⟩ := s
    obtain ⟨hl, h⟩ := h
    have f1 := AutoSeq1.idx_int
    wp_walk using wpAny_loadPart' hl
    repeat (first
      | (refine wpAny_ite_false (decide_eq_false (by rw [c0]; exact Bool.false_ne_true)) ?_; wp_walk using wpAny_loadPart' hl)
      | (refine wpAny_ite_true (decide_eq_true c1) ?_; wp_walk using wpAny_loadPart' hl))
    exact ⟨_, rfl, h⟩
def rRepA (K : PySem.W.Frag) : R2 := fun x y H Q => ∃ l k xs, x = .ref l ∧ y = .int k ∧ SqT K H l xs ∧ 1 ≤ k ∧ k ≤ 1000 ∧ xs.length ≤ 1000 ∧ ((xs = [] ∨ k = 1) → Q (.ref l) H) ∧ (∀ p, H p = none → Q (.ref p) (upd H p (.tup (List.replicate k.toNat xs).flatten)))
section
variable {X : Cx}
theorem op_repA : OpR X (binaryOp .Mult) (rRepA X.K) := by
  intro pins s σ H x y v u Q I rx ry h
  obtain ⟨l, k, xs, rfl, rfl, hT, h1, h2, hz, q1, q2⟩ := h
  by_cases hc : xs = [] ∨ k = 1
  · cases rx
    obtain ⟨t, rfl⟩ := ry
    obtain ⟨its, r, ⟨⟨cls, dd, data, sl⟩, ho, hcl, n, hd⟩, hs⟩ := I.tuple hT
    simp only at hcl hd
    subst hcl hd
    have hle : its.length = xs.length := r.length.symm
    have c0 : (decide (k < -(2 ^ 63)) || decide (k ≥ 2 ^ 63)) = false := by
      rw [decide_eq_false (by omega), decide_eq_false (by omega)] <;> rfl
    have c1 : (its.toArray.isEmpty || k == 1) = true := by
      rcases hc with hc | hc
      · rw [hc] at hle
        have e := List.eq_nil_of_length_eq_zero hle
        rw [e]
        rfl
      · rw [hc, Bool.or_eq_true]
        exact .inr rfl
    refine wpAny_binaryOp_repeat_ref (T := "tuple") (U := "int") (by decide) ⟨_, ho, rfl⟩ (fun s' => typeIs_int s' k t) noFill_tuple_mul F.fills_int_mul F.slot_int_rmul repeat_tuple F.slot_int_index.lookup
      (call_meets F.slot_int_rmul (typeIs_int s k t) F.entry_int_rmul (F.args_int_rmul_2 _ _) (int_rmul_tuple k t l its.toArray n dd sl)
        ⟨ho, rfl, ⟨_, ho, rfl⟩, call_meets F.slot_tuple_mul ⟨_, ho, rfl⟩ F.entry_tuple_mul (F.args_tuple_mul_2 _ _) (tuple_mulOne l its.toArray n dd sl k t c0 c1) ⟨ho, ?_⟩⟩)
    exact ⟨.ref l, H, I, rfl, q1 hc⟩
  · exact op_repT pins s σ H _ _ v u Q I rx ry ⟨l, k, xs, rfl, rfl, hT, fun e => hc (.inl e), by omega, h2, hz, q2⟩
end
/-! ### a def that holds generator expressions -/
section
variable {P : Program} {w : World} {K : PySem.W.Frag} {mg : Str → Option Value} {base : Heap}
structure DefTab (K : PySem.W.Frag) (mg : Str → Option Value) (base : Heap) (x : Str) (st : Stmt) (ps : List Str) (T : Addr) : Prop where
  ex : ∃ (f : Addr) (oc : Value) (od : Option Addr) (kV doc pm : Value) (an : Option Addr) (c : Addr) (ct : Value) (osl : Array (Option Value)),
    K.lookup f = some ⟨oc, od, .func (PySem.W.fnOf x x (defArgs st) (defBody st) (defScope st) .none kV doc pm an (.ref c) ct), osl⟩ ∧ PySem.W.codeIn K (.ref c) x = true ∧ PySem.W.keepIn K (.ref f) = true ∧ mg x = some (.ref f) ∧
      Binds K (PySem.W.fnOf x x (defArgs st) (defBody st) (defScope st) .none kV doc pm an (.ref c) ct) ps [] ∧ GxR.TabB base mg c T
theorem DefTab.ok {x : Str} {st : Stmt} {N ps : List Str} {k : Nat} {sp : Sp} {T : Addr} (F : DefTab K mg base x st ps T) (S : FnScope N ps (defScope st)) (len : ∀ vs H Q E, sp vs H Q E → vs.length = ps.length)
    (hbody : ∀ (f c : Addr) (A : Around) (outer : List Env) (s : Shared) (H : Hp) (vs : List V) (Q : VK) (E : XK), GxR.TabB base mg c T → Room k (A.deeper (envOfC x (defScope st) s.heap.objs.size f (.ref c))) → sp vs H Q E →
      ∃ t, PSs (cxOf CX0 P w K mg base N x (defScope st) f (.ref c) A outer s H E).nox (defBody st) t ∧ t { nx := fun _ H' => Q .non H', rt := Q } (start N vs) H) : DefOk P w K mg base x (k + 1) ps sp := by
  obtain ⟨f, oc, od, kV, doc, pm, an, c, ct, osl, lk, hcd, kp, hm, hb, TB⟩ := F.ex
  refine ⟨f, _, fn_of lk hcd S len fun A outer s H vs Q E hr hsp => ?_, hm, kp, hb⟩
  obtain ⟨t, h, q⟩ := hbody f c A outer s H vs Q E TB hr hsp
  exact ⟨t, h.nox, q⟩
end
end Sw
set_option Elab.async false
set_option maxRecDepth 100000
set_option maxHeartbeats 4000000
namespace Sw
open PySem L2 PySem.Spec PyProof.Rows
/-! ### is_sign, is_row -/
def letter (c : Nat) : Bool := decide (97 ≤ c) && decide (c ≤ 122)
def signS (t : Str) : Bool := decide (1 ≤ t.length) && decide (t.length ≤ 6) && t.cps.toList.all letter
def signD : PyData → Bool
  | .str t => signS t
  | _ => false
def rowD : PyData → Bool
  | .tuple ds => ds.all signD
  | _ => false
theorem lt_one (a b : Nat) : decide ([a] < [b]) = decide (a < b) := by
  by_cases h : a < b
  · rw [decide_eq_true h]; exact decide_eq_true (List.Lex.rel h)
  · rw [decide_eq_false h]
    refine decide_eq_false fun z => ?_
    cases z with
    | rel q => exact h q
    | cons q => cases q
section
variable {P : Program} {w : World} {K : PySem.W.Frag} {mg : Str → Option Value} {base : Heap}
abbrev n_is_sign : List Str := ["thing", "letter"]
theorem sc_is_sign : FnScope n_is_sign ["thing"] (defScope s_is_sign) := ⟨rfl, rfl, rfl, by decide +kernel, rfl, by decide +kernel, by decide +kernel⟩
def spIsSign (K : PySem.W.Frag) (T : Addr) : Sp := fun vs H Q _ => ∃ v d, vs = [v] ∧ Dp K H v d ∧ (∀ t, d = .str t → t.length ≤ 1000) ∧ H T = some (TabE T) ∧ Q (.bl (signD d)) H
theorem ok_is_sign {T : Addr} (F : DefTab K mg base "is_sign" s_is_sign ["thing"] T) (b_all : mg "all" = none) (b_isinstance : mg "isinstance" = none) (b_len : mg "len" = none) (b_str : mg "str" = none) (g_ml : ∃ t, mg "_MOST_LETTERS" = some (.int 6 t)) :
    DefOk P w K mg base "is_sign" 2 ["thing"] (spIsSign K T) := by
  obtain ⟨tml, g_ml⟩ := g_ml
  refine F.ok sc_is_sign (fun vs H Q E h => ?_) (fun f c A outer s H vs Q E TB hr h => ?_)
  · obtain ⟨_, _, rfl, _⟩ := h
    rfl
  obtain ⟨v, d, rfl, hd, hl, hT, k⟩ := h
  refine ⟨_, (pss_cons (ps_if (PW.pt (pw_or (pt_not (pt_val (pe_callB call_isi (by rfl) b_isinstance (by decide +kernel) (pa_cons (pv 0) (pa_cons (pe_bltn (v := .ty "str") (by rfl) b_str (by decide +kernel) rfl) pa_nil))))) (pw_or1 (pt_not (pt_chain op_le op_le pe_int (pe_callB call_len_str (by rfl) b_len PySem.boot_len (pa_cons (pv 0) pa_nil)) (pe_glob (v := .int 6) rfl g_ml ⟨_, rfl⟩)))))) (pss_one (ps_ret pe_bl)) pss_nil)
    (pss_one (ps_ret (pe_allG rfl hr rfl b_all sc_is_sign.nd TB rfl (blkOk_by (own := [("letter", 1)]) (N := n_is_sign) (sc := defScope s_is_sign) (by decide +kernel)) ⟨rfl, by decide +kernel, by rfl⟩ (pi_str (pv 0)) (fun _ _ _ _ _ _ _ _ => (pg_name (i := 1) sc_is_sign.nd rfl (Or.inl rfl))) (fun _ _ _ _ _ _ _ _ => (pe_chain op_le_str op_le_str pe_str (pv 1) pe_str)))))), ?_⟩
  refine ⟨v, rfl, v, .ty "str", _, _, _, rfl, .ty _, tyX hd, isStr hd, _, rfl, ?_⟩
  by_cases hs : ∃ t, d = .str t
  · obtain ⟨t, rfl⟩ := hs
    cases hd
    have hlt := hl t rfl
    refine iteF ?_
    refine ⟨_, rfl, t, rfl, szl (by omega), _, _, rfl, rfl, _, rfl, ?_⟩
    have body : decide (1 ≤ t.length) = true → decide (t.length ≤ 6) = true → tGen T (iStr (tVar 0)) (gName 1) (tChain (fun x y H Q => ∃ i j, x = V.str i ∧ y = V.str j ∧ Q (V.bl !decide (j.cps.toList < i.cps.toList)) H)
        (fun x y H Q => ∃ i j, x = V.str i ∧ y = V.str j ∧ Q (V.bl !decide (j.cps.toList < i.cps.toList)) H) (tC (V.str (Str.ofString "a"))) (tVar 1) (tC (V.str (Str.ofString "z")))) [1] true (L2.start n_is_sign [V.str t]) H Q := fun h1 h6 => by
      refine ⟨_, rfl, t, rfl, hT, ?_⟩
      refine gw_str (fun i H' => H' = H ∧ (t.cps.toList.take i).all letter = true) ⟨rfl, by rfl⟩ ?_ ?_
      · rintro i cc H' hc ⟨rfl, ha⟩
        have hgo : ∀ b, b = letter cc → ∃ b_1, V.bl b = V.bl b_1 ∧ if b_1 = true then (H' = H' ∧ (t.cps.toList.take (i + 1)).all letter = true) else Q (.bl (!true)) H' := fun b eb => by
          subst eb
          refine ⟨_, rfl, ?_⟩
          cases e : letter cc with
          | true =>
            rw [if_pos rfl]
            refine ⟨rfl, ?_⟩
            rw [List.take_add_one, hc, List.all_append, ha]
            show (true && (letter cc && true)) = true
            rw [e]
            rfl
          | false =>
            rw [if_neg Bool.false_ne_true]
            have e2 : signS t = false := by
              unfold signS
              have : t.cps.toList.all letter = false := List.all_eq_false.mpr ⟨cc, List.mem_of_getElem? hc, by rw [e]; exact Bool.false_ne_true⟩
              rw [this, Bool.and_false]
            have k2 : Q (.bl (signS t)) H' := k
            rw [e2] at k2
            exact k2
        refine ⟨rfl, _, rfl, _, _, rfl, rfl, _, rfl, ?_⟩
        have ea : (!decide (([cc] : List Nat) < [97])) = decide (97 ≤ cc) := by
          rw [lt_one]
          by_cases q : cc < 97
          · rw [decide_eq_true q, decide_eq_false (by omega)]; rfl
          · rw [decide_eq_false q, decide_eq_true (by omega)]; rfl
        have ez : (!decide (([122] : List Nat) < [cc])) = decide (cc ≤ 122) := by
          rw [lt_one]
          by_cases q : 122 < cc
          · rw [decide_eq_true q, decide_eq_false (by omega)]; rfl
          · rw [decide_eq_false q, decide_eq_true (by omega)]; rfl
        show if (!decide (([cc] : List Nat) < [97])) = true then _ else _
        rw [ea]
        by_cases q : 97 ≤ cc
        · rw [decide_eq_true q, if_pos rfl]
          refine ⟨_, _, rfl, rfl, ?_⟩
          show ∃ b, V.bl (!decide (([122] : List Nat) < [cc])) = V.bl b ∧ _
          rw [ez]
          exact hgo _ (by unfold letter; rw [decide_eq_true q, Bool.true_and])
        · rw [decide_eq_false q, if_neg Bool.false_ne_true]
          exact hgo _ (by unfold letter; rw [decide_eq_false q, Bool.false_and])
      · rintro H' ⟨rfl, ha⟩
        rw [List.take_length] at ha
        have k2 : Q (.bl (signS t)) H' := k
        unfold signS at k2
        rw [h1, h6, ha] at k2
        exact k2
    have e1 : decide ((1 : Int) ≤ (t.length : Int)) = decide (1 ≤ t.length) := by
      by_cases q : 1 ≤ t.length
      · rw [decide_eq_true q, decide_eq_true (by omega)]
      · rw [decide_eq_false q, decide_eq_false (by omega)]
    have e6 : decide ((t.length : Int) ≤ 6) = decide (t.length ≤ 6) := by
      by_cases q : t.length ≤ 6
      · rw [decide_eq_true q, decide_eq_true (by omega)]
      · rw [decide_eq_false q, decide_eq_false (by omega)]
    have no : (decide (1 ≤ t.length) && decide (t.length ≤ 6)) = false → Q (.bl false) H := fun e => by
      have k2 : Q (.bl (signS t)) H := k
      unfold signS at k2
      rw [e] at k2
      exact k2
    rw [e1]
    cases h1 : decide (1 ≤ t.length) with
    | true =>
      rw [if_pos rfl]
      refine ⟨_, _, rfl, rfl, ?_⟩
      show ∃ k, V.bl (decide ((t.length : Int) ≤ 6)) = .bl k ∧ _
      rw [e6]
      cases h6 : decide (t.length ≤ 6) with
      | true => exact ⟨_, rfl, iteF (body h1 h6)⟩
      | false => exact ⟨_, rfl, iteT (no (by rw [h1, h6]; rfl))⟩
    | false =>
      rw [if_neg Bool.false_ne_true]
      exact ⟨_, rfl, iteT (no (by rw [h1]; rfl))⟩
  · have e : isStrD d = false := by cases d <;> first | rfl | exact absurd ⟨_, rfl⟩ hs
    rw [e]
    refine iteT ?_
    have e2 : signD d = false := by cases d <;> first | rfl | exact absurd ⟨_, rfl⟩ hs
    show Q _ _
    rw [← e2]
    exact k
end
end Sw
set_option Elab.async false
set_option maxRecDepth 100000
set_option maxHeartbeats 4000000
namespace Sw
open PySem L2 PySem.Spec PyProof.Rows
section
variable {P : Program} {w : World} {K : PySem.W.Frag} {mg : Str → Option Value} {base : Heap}
abbrev n_is_row : List Str := ["thing", "sign"]
theorem sc_is_row : FnScope n_is_row ["thing"] (defScope s_is_row) := ⟨rfl, rfl, rfl, by decide +kernel, rfl, by decide +kernel, by decide +kernel⟩
def spIsRow (K : PySem.W.Frag) (T1 T2 : Addr) : Sp := fun vs H Q _ => ∃ v d, vs = [v] ∧ Dp K H v d ∧ (∀ ds t, d = .tuple ds → .str t ∈ ds → t.length ≤ 1000) ∧ H T1 = some (TabE T1) ∧ H T2 = some (TabE T2) ∧ Q (.bl (rowD d)) H
theorem ok_is_row {T1 T2 : Addr} (F : DefTab K mg base "is_row" s_is_row ["thing"] T2) (d_is_sign : DefOk P w K mg base "is_sign" 2 ["thing"] (spIsSign K T1)) (b_all : mg "all" = none) (b_isinstance : mg "isinstance" = none) (b_tuple : mg "tuple" = none) :
    DefOk P w K mg base "is_row" 4 ["thing"] (spIsRow K T1 T2) := by
  refine F.ok sc_is_row (fun vs H Q E h => ?_) (fun f c A outer s H vs Q E TB hr h => ?_)
  · obtain ⟨_, _, rfl, _⟩ := h
    rfl
  obtain ⟨v, d, rfl, hd, hl, hT1, hT2, k⟩ := h
  refine ⟨_, (pss_one (ps_ret (pe_and (pe_callB call_isi (by rfl) b_isinstance (by decide +kernel) (pa_cons (pv 0) (pa_cons (pe_bltn (v := .ty "tuple") (by rfl) b_tuple (by decide +kernel) rfl) pa_nil))) (pe_one
    (pe_allG rfl hr rfl b_all sc_is_row.nd TB rfl (blkOk_by (own := [("sign", 1)]) (N := n_is_row) (sc := defScope s_is_row) (by decide +kernel)) ⟨rfl, by decide +kernel, by rfl⟩ (pi_tup (pv 0)) (fun _ _ _ _ _ _ _ _ => (pg_name (i := 1) sc_is_row.nd rfl (Or.inl rfl)))
      (fun _ _ _ _ _ _ _ hr' => (pe_callD d_is_sign hr' rfl (pa_cons (pv 1) pa_nil)))))))), ?_⟩
  refine ⟨v, rfl, v, .ty "tuple", _, _, _, rfl, .ty _, tyX hd, isTup hd, _, rfl, ?_⟩
  by_cases hs : ∃ ds, d = .tuple ds
  · obtain ⟨ds, rfl⟩ := hs
    obtain ⟨a, xs, rfl, ha, hx⟩ := dpTup hd
    refine iteT ?_
    refine ⟨_, rfl, a, rfl, ⟨xs, ha⟩, hT2, ?_⟩
    refine gw_tup (xs := xs) (fun i H' => H' = H ∧ (ds.take i).all signD = true) ⟨rfl, by rfl⟩ (fun i H' _ q => by rw [q.1]; exact ha) ?_ ?_
    · rintro i x H' hi ⟨rfl, hall⟩
      obtain ⟨e, he, hxe⟩ := dpsAtV hx hi
      refine ⟨rfl, _, rfl, x, e, rfl, hxe, fun t et => hl ds t rfl (by rw [← et]; exact List.mem_of_getElem? he), hT1, _, rfl, ?_⟩
      cases q : signD e with
      | true =>
        rw [if_pos rfl]
        refine ⟨rfl, ?_⟩
        rw [List.take_add_one, he, List.all_append, hall]
        show (true && (signD e && true)) = true
        rw [q]
        rfl
      | false =>
        rw [if_neg Bool.false_ne_true]
        have e2 : rowD (.tuple ds) = false := List.all_eq_false.mpr ⟨e, List.mem_of_getElem? he, by rw [q]; exact Bool.false_ne_true⟩
        rw [e2] at k
        exact k
    · rintro H' ⟨rfl, hall⟩
      rw [dpsLen hx, List.take_length] at hall
      have e2 : rowD (.tuple ds) = true := hall
      rw [e2] at k
      exact k
  · have e : isTupD d = false := by cases d <;> first | rfl | exact absurd ⟨_, rfl⟩ hs
    rw [e]
    refine iteF ?_
    have e2 : rowD d = false := by cases d <;> first | rfl | exact absurd ⟨_, rfl⟩ hs
    rw [e2] at k
    exact k
end
end Sw
set_option Elab.async false
set_option maxRecDepth 100000
set_option maxHeartbeats 4000000
namespace Sw
open PySem L2 PySem.Spec PyProof.Rows
/-! ### the law's helpers -/
section
variable {P : Program} {w : World} {K : PySem.W.Frag} {mg : Str → Option Value} {base : Heap}
abbrev n_law_text : List Str := ["cell", "small", "some", "found", "k", "mixed"]
theorem sc_law_text : FnScope n_law_text ["cell"] (defScope s_law_text) := ⟨rfl, rfl, rfl, by decide +kernel, rfl, by decide +kernel, by decide +kernel⟩
def spText : Sp := fun vs H Q _ => ∃ z : Int, vs = [.int z] ∧ ∀ H' (t : Str), Same H H' → t.length ≤ 8 → Q (.str t) H'
abbrev smallS : Str := Str.ofString "abcdefghijklmnopqrstuvwxyz"
theorem mod_nat (z : Int) {m : Nat} (h : 0 < m) : ∃ k : Nat, z % (m : Int) = (k : Int) ∧ k < m := by
  have h1 : 0 ≤ z % (m : Int) := Int.emod_nonneg _ (by omega)
  have h2 : z % (m : Int) < (m : Int) := Int.emod_lt_of_pos _ (by omega)
  exact ⟨(z % (m : Int)).toNat, by omega, by omega⟩
theorem ok_law_text (F : DefAt K mg "_law_text" s_law_text ["cell"]) (b_len : mg "len" = none) (b_range : mg "range" = none) : DefOk P w K mg base "_law_text" 1 ["cell"] spText := by
  refine F.ok sc_law_text (fun vs H Q E h => ?_) (fun f cdv A outer s H vs Q E hr h => ?_)
  · obtain ⟨_, rfl, _⟩ := h
    rfl
  obtain ⟨z, rfl, k⟩ := h
  refine ⟨_, (pss_cons (ps_set (i := 1) sc_law_text.nd rfl (Or.inl rfl) pe_str)
    (pss_cons (ps_set (i := 2) sc_law_text.nd rfl (Or.inl rfl) (pe_ix ix_list (pe_lst (pa_cons (pv 1) (pa_cons (pv 1) (pa_cons (pe_op op_add_str (pv 1) pe_str) pa_nil)))) (pe_op op_mod (pv 0) pe_int) (fun _ _ => rfl)))
    (pss_cons (ps_set (i := 3) sc_law_text.nd rfl (Or.inl rfl) pe_str)
    (pss_cons (ps_for PassesOwn.never rfl (pi_range1 rfl b_range (pa_cons (pe_op op_mod (pe_op op_fdiv (pv 0) pe_int) pe_int) pa_nil)) (pg_name (i := 4) sc_law_text.nd rfl (Or.inl rfl))
      (pss_cons (ps_set (i := 5) sc_law_text.nd rfl (Or.inl rfl) (pe_op op_mod (pe_op op_pow (pe_op op_add (pe_op op_add (pe_op op_mod (pe_op op_fdiv (pv 0) pe_int) pe_int) (pe_op op_mul pe_int (pv 4))) pe_int) pe_int) pe_int))
    (pss_one (ps_set (i := 3) sc_law_text.nd rfl (Or.inl rfl) (pe_op op_add_str (pv 3) (pe_ix ix_str (pv 2) (pe_op op_mod (pe_op op_fdiv (pv 5) pe_int) (pe_callB call_len_str (by rfl) b_len PySem.boot_len (pa_cons (pv 2) pa_nil))) (fun _ _ => rfl)))))))
    (pss_one (ps_ret (pv 3))))))), ?_⟩
  refine ⟨_, rfl, _, rfl, _, rfl, _, _, rfl, rfl, szl (by decide +kernel), szl (by decide), fun L nL => ?_⟩
  obtain ⟨i3, e3, l3⟩ := mod_nat z (m := 3) (by decide)
  obtain ⟨tx, htx, hpos, hle⟩ : ∃ tx : Str, ([.str smallS, .str smallS, .str (smallS ++ Str.ofString "ABZ0189 !#$&'()*+,-./:;<=>?\x40[]^_`{|}~\n\t\\")] : List V)[i3]? = some (.str tx) ∧ 0 < tx.length ∧ tx.length ≤ 1000 := by
    match i3, l3 with
    | 0, _ => exact ⟨_, rfl, by decide +kernel, by decide +kernel⟩
    | 1, _ => exact ⟨_, rfl, by decide +kernel, by decide +kernel⟩
    | 2, _ => exact ⟨_, rfl, by decide +kernel, by decide +kernel⟩
  refine ⟨_, rfl, _, _, rfl, rfl, (by show (0 : Int) < 3; decide), ?_⟩
  have e3' : z % 3 = (i3 : Int) := e3
  refine ⟨L, _, _, .str tx, rfl, rfl, sL upd_same, (show atI _ (z % 3) = _ by rw [e3']; exact atI_nat htx), ?_⟩
  have s1 : Same H (upd H L (.lst [.str smallS, .str smallS, .str (smallS ++ Str.ofString "ABZ0189 !#$&'()*+,-./:;<=>?\x40[]^_`{|}~\n\t\\")])) := .new nL
  generalize upd H L (.lst [.str smallS, .str smallS, .str (smallS ++ Str.ofString "ABZ0189 !#$&'()*+,-./:;<=>?\x40[]^_`{|}~\n\t\\")]) = H1 at s1 ⊢
  obtain ⟨n, en, ln⟩ := mod_nat (z / 3) (m := 9) (by decide)
  refine ⟨_, rfl, _, _, rfl, rfl, ⟨by decide, by decide⟩, _, _, rfl, rfl, (by show (0 : Int) < 9; decide), ?_⟩
  have en' : z / 3 % 9 = (n : Int) := en
  refine ⟨(n : Int), (show [V.int (z / 3 % 9)] = _ by rw [en']), by omega, by omega, ?_⟩
  refine for_range (n := n) (fun i σ H' => ∃ (t : Str) (x4 x5 : Option V), H' = H1 ∧ t.length ≤ i ∧ σ = [some (.int z), some (.str smallS), some (.str tx), some (.str t), x4, x5]) ⟨_, _, _, rfl, Nat.zero_le _, rfl⟩ ?_ ?_
  · rintro i σ H' hi ⟨t, x4, x5, rfl, htl, rfl⟩
    obtain ⟨a, ea, la⟩ := mod_nat (z / 27) (m := 1000003) (by decide)
    refine ⟨_, rfl, _, _, rfl, rfl, ⟨by decide, by decide⟩, _, _, rfl, rfl, (by show (0 : Int) < 1000003; decide), ?_⟩
    have ea' : z / 27 % 1000003 = (a : Int) := ea
    refine ⟨_, rfl, _, _, rfl, rfl, .inl ⟨by decide, by decide⟩, (a : Int), _, (show V.int (z / 27 % 1000003) = _ by rw [ea']), rfl, _, _, rfl, rfl, ?_⟩
    refine ⟨_, _, rfl, rfl, ⟨by decide, by decide, by omega⟩, _, _, rfl, rfl, (by show (0 : Int) < 2147483647; decide), ?_⟩
    refine ⟨_, rfl, _, rfl, _, rfl, _, _, rfl, rfl, ⟨by decide, by decide⟩, ?_⟩
    refine ⟨_, rfl, tx, rfl, szl (by omega), _, _, rfl, rfl, (by show (0 : Int) < (tx.length : Int); omega), ?_⟩
    obtain ⟨b, eb, lb⟩ := mod_nat (((a : Int) + 7919 * (0 + (i : Int)) + 1) ^ Int.toNat 5 % 2147483647 / 8) hpos
    have hb : b < tx.cps.toList.length := by
      have : tx.length = tx.cps.toList.length := by show tx.cps.size = _; simp
      omega
    refine ⟨_, (b : Int), _, rfl, (show V.int (((a : Int) + 7919 * (0 + (i : Int)) + 1) ^ Int.toNat 5 % 2147483647 / 8 % (tx.length : Int)) = _ by rw [eb]), szl (by omega), atI_nat (List.getElem?_eq_getElem hb), ?_⟩
    have e1 : (t ++ (⟨#[tx.cps.toList[b]]⟩ : Str)).length = t.length + 1 := by
      show (t.cps ++ #[_]).size = t.cps.size + 1
      simp
    refine ⟨_, _, rfl, rfl, szl (by show t.length + 1 ≤ 16000000; omega), ?_⟩
    exact ⟨_, _, _, rfl, by rw [e1]; omega, rfl⟩
  · rintro σ H' ⟨t, x4, x5, rfl, htl, rfl⟩
    exact ⟨_, rfl, k H' t s1 (by omega)⟩
end
end Sw
set_option Elab.async false
set_option maxRecDepth 100000
set_option maxHeartbeats 4000000
namespace Sw
open PySem L2 PySem.Spec PyProof.Rows
theorem small_letter (c : Nat) : decide (c ∈ smallS.cps.toList) = letter c := by
  have e : smallS.cps.toList = (List.range 26).map (· + 97) := by decide +kernel
  rw [e]
  unfold letter
  by_cases h : 97 ≤ c ∧ c ≤ 122
  · rw [decide_eq_true h.1, decide_eq_true h.2]
    exact decide_eq_true (List.mem_map.mpr ⟨c - 97, List.mem_range.mpr (by omega), by omega⟩)
  · have e2 : (decide (97 ≤ c) && decide (c ≤ 122)) = false := by
      by_cases q : 97 ≤ c
      · rw [decide_eq_true q, decide_eq_false (by omega)]; rfl
      · rw [decide_eq_false q]; rfl
    rw [e2]
    refine decide_eq_false fun z => ?_
    obtain ⟨k, hk, e3⟩ := List.mem_map.mp z
    have := List.mem_range.mp hk
    omega
section
variable {P : Program} {w : World} {K : PySem.W.Frag} {mg : Str → Option Value} {base : Heap}
abbrev n_law_is_sign : List Str := ["text", "small", "letter"]
theorem sc_law_is_sign : FnScope n_law_is_sign ["text"] (defScope s_law_is_sign) := ⟨rfl, rfl, rfl, by decide +kernel, rfl, by decide +kernel, by decide +kernel⟩
def spLawSign : Sp := fun vs H Q _ => ∃ t : Str, vs = [.str t] ∧ t.length ≤ 1000 ∧ ∀ H', Same H H' → Q (.bl (signS t)) H'
theorem ok_law_is_sign (F : DefAt K mg "_law_is_sign" s_law_is_sign ["text"]) (b_len : mg "len" = none) : DefOk P w K mg base "_law_is_sign" 1 ["text"] spLawSign := by
  refine F.ok sc_law_is_sign (fun vs H Q E h => ?_) (fun f cdv A outer s H vs Q E hr h => ?_)
  · obtain ⟨_, rfl, _⟩ := h
    rfl
  obtain ⟨t, rfl, hl, k⟩ := h
  refine ⟨_, (pss_cons (ps_set (i := 1) sc_law_is_sign.nd rfl (Or.inr rfl) pe_str)
    (pss_one (ps_ret (pe_and (pe_chain op_le op_le pe_int (pe_callB call_len_str (by rfl) b_len PySem.boot_len (pa_cons (pv 0) pa_nil)) pe_int) (pe_one (pe_cmpR op_eq (pe_callB call_len_seq (by rfl) b_len PySem.boot_len (pa_cons (pe_lc (own := [("letter", 2)]) (g := gName 2) rfl sc_law_is_sign.nd (pi_str (pv 0)) (blkOk_by (own := [("letter", 2)]) (N := n_law_is_sign) (sc := defScope s_law_is_sign) (by decide +kernel)) (fun _ _ _ _ _ => (pg_name (i := 2) sc_law_is_sign.nd rfl (Or.inl rfl))) (fun _ _ _ _ _ => (pts_one (pt_cmpR op_notIn_sign (pv 2) (pv 1) (by rfl)))) (fun _ _ _ _ _ => (pv 2))) pa_nil)) pe_int (nomark _))))))), ?_⟩
  have e1 : decide ((1 : Int) ≤ (t.length : Int)) = decide (1 ≤ t.length) := by
    by_cases q : 1 ≤ t.length
    · rw [decide_eq_true q, decide_eq_true (by omega)]
    · rw [decide_eq_false q, decide_eq_false (by omega)]
  have e6 : decide ((t.length : Int) ≤ 6) = decide (t.length ≤ 6) := by
    by_cases q : t.length ≤ 6
    · rw [decide_eq_true q, decide_eq_true (by omega)]
    · rw [decide_eq_false q, decide_eq_false (by omega)]
  have hlen : t.cps.toList.length = t.length := by show _ = t.cps.size; simp
  have no : (decide (1 ≤ t.length) && decide (t.length ≤ 6)) = false → Q (.bl false) H := fun e => by
    have k2 := k H (Same.refl _)
    unfold signS at k2
    rw [e] at k2
    exact k2
  refine ⟨_, rfl, t, rfl, szl (by omega), _, _, rfl, rfl, _, rfl, ?_⟩
  show if decide ((1 : Int) ≤ (t.length : Int)) = true then _ else _
  rw [e1]
  cases h1 : decide (1 ≤ t.length) with
  | false =>
    rw [if_neg Bool.false_ne_true]
    exact ⟨_, rfl, iteF (no (by rw [h1]; rfl))⟩
  | true =>
    rw [if_pos rfl]
    refine ⟨_, _, rfl, rfl, ?_⟩
    show ∃ c, V.bl (decide ((t.length : Int) ≤ 6)) = .bl c ∧ _
    rw [e6]
    cases h6 : decide (t.length ≤ 6) with
    | false => exact ⟨_, rfl, iteF (no (by rw [h1, h6]; rfl))⟩
    | true =>
      refine ⟨_, rfl, iteT ?_⟩
      refine ⟨_, rfl, t, rfl, fun D nD => ?_⟩
      refine lc_str (fun i H' => ∃ xs : List V, Same H H' ∧ H' D = some (.lst xs) ∧ xs.length = ((t.cps.toList.take i).filter fun c => !letter c).length ∧ xs.length ≤ i) ⟨[], .new nD, upd_same, rfl, Nat.zero_le _⟩ ?_ ?_
      · rintro i c H' hc ⟨xs, s1, hD, hx, hxi⟩
        have hi := (List.getElem?_eq_some_iff.mp hc).1
        have ef : ((t.cps.toList.take (i + 1)).filter fun c => !letter c) = ((t.cps.toList.take i).filter fun c => !letter c) ++ (if letter c then [] else [c]) := by
          rw [List.take_add_one, hc, List.filter_append]
          show _ ++ ([c].filter _) = _
          cases e : letter c <;> simp [List.filter, e]
        refine ⟨rfl, _, rfl, _, rfl, c, smallS, rfl, rfl, _, rfl, ?_⟩
        show if (!decide (c ∈ smallS.cps.toList)) = true then _ else _
        rw [small_letter]
        cases e : letter c with
        | true =>
          refine iteF ⟨xs, s1, hD, ?_, by omega⟩
          rw [ef, e, hx]
          simp
        | false =>
          refine iteT ⟨_, rfl, xs, hD, szb (by omega), xs ++ [.str ⟨#[c]⟩], s1.mut nD, upd_same, ?_, by rw [List.length_append, List.length_singleton]; omega⟩
          rw [ef, e, List.length_append, List.length_append, hx]
          rfl
      · rintro H' ⟨xs, s1, hD, hx, hxi⟩
        refine ⟨D, xs, rfl, .inl (sL hD), rfl, ?_⟩
        have k2 := k H' s1
        have es : signS t = decide (V.int (xs.length : Int) = V.int 0) := by
          unfold signS
          rw [h1, h6, List.take_length] at *
          rw [Bool.true_and]
          by_cases q : xs.length = 0
          · rw [decide_eq_true (by rw [q]; rfl)]
            rw [q] at hx
            have h0 := List.eq_nil_of_length_eq_zero hx.symm
            show (true && _) = true
            rw [Bool.true_and]
            refine List.all_eq_true.mpr fun c hc => ?_
            have := List.filter_eq_nil_iff.mp h0 c hc
            simpa using this
          · rw [decide_eq_false (fun z => q (by injection z with z; omega))]
            refine (Bool.true_and _).trans (List.all_eq_false.mpr ?_)
            cases hf : t.cps.toList.filter fun c => !letter c with
            | nil => rw [hf] at hx; exact absurd hx q
            | cons c r =>
              have hm : c ∈ t.cps.toList.filter fun c => !letter c := by rw [hf]; exact List.mem_cons_self
              obtain ⟨m1, m2⟩ := List.mem_filter.mp hm
              exact ⟨c, m1, by simpa using m2⟩
        rw [es] at k2
        exact k2
abbrev n_law_right : List Str := ["found", "due"]
theorem sc_law_right : FnScope n_law_right ["found", "due"] (defScope s_law_right) := ⟨rfl, rfl, rfl, by decide +kernel, rfl, by decide +kernel, by decide +kernel⟩
def spLawRight : Sp := fun vs H Q _ => ∃ b : Bool, vs = [.bl b, .bl b] ∧ Q (.bl true) H
theorem ok_law_right (F : DefAt K mg "_law_right" s_law_right ["found", "due"]) (b_isinstance : mg "isinstance" = none) (b_bool : mg "bool" = none) : DefOk P w K mg base "_law_right" 1 ["found", "due"] spLawRight := by
  refine F.ok sc_law_right (fun vs H Q E h => ?_) (fun f cdv A outer s H vs Q E hr h => ?_)
  · obtain ⟨_, rfl, _⟩ := h
    rfl
  obtain ⟨b, rfl, k⟩ := h
  refine ⟨_, (pss_one (ps_ret (pe_and (pe_callB call_isi (by rfl) b_isinstance (by decide +kernel) (pa_cons (pv 0) (pa_cons (pe_bltn (v := .ty "bool") (by rfl) b_bool (by decide +kernel) rfl) pa_nil))) (pe_one (pe_cmpR op_eq (pv 0) (pv 1) (nomark _)))))), ?_⟩
  refine ⟨_, rfl, .bl b, .ty "bool", _, _, true, rfl, .ty _, .base (.bl b), kit_ty (by decide +kernel), _, rfl, iteT ?_⟩
  refine ⟨_, rfl, _, rfl, rfl, ?_⟩
  rw [decide_eq_true rfl]
  exact k
end
end Sw
set_option Elab.async false
set_option maxRecDepth 100000
set_option maxHeartbeats 8000000
namespace Sw
open PySem L2 PySem.Spec PyProof.Rows
theorem cut_take (xs : List V) (n : Nat) : cutV xs none (some (n : Int)) = xs.take n := by
  unfold cutV
  rw [HT.sIx_nat, HT.sIx_none, List.drop_zero, Nat.sub_zero]
  by_cases h : n ≤ xs.length
  · rw [Nat.min_eq_left h]
  · rw [Nat.min_eq_right (by omega), List.take_of_length_le (by omega), List.take_of_length_le (by omega)]
theorem sameL {K : PySem.W.Frag} {H H' : Hp} {a : Addr} {xs : List V} (e : Same H H') (h : SqL K H a xs) : SqL K H' a xs := by
  rcases h with h | h
  · exact Or.inl (e.rd h)
  · exact Or.inr h
def forBody : Stmt → List Stmt
  | .For _ _ body _ _ => body
  | _ => []
theorem dpStrs {K : PySem.W.Frag} {H : Hp} : ∀ ts : List Str, DpAll K H (ts.map V.str) (ts.map PyData.str)
  | [] => .nil
  | t :: ts => .cons (.str t) (dpStrs ts)
theorem signs_all : ∀ ts : List Str, (ts.map PyData.str).all signD = ts.all signS
  | [] => rfl
  | t :: ts => by
    rw [List.map_cons, List.all_cons, List.all_cons, signs_all ts]
    rfl
theorem all_none (ts : List Str) : decide ((ts.filter fun t => !signS t).length = 0) = ts.all signS := by
  cases q : ts.all signS with
  | true =>
    refine decide_eq_true ?_
    rw [List.filter_eq_nil_iff.mpr fun t ht => by have := List.all_eq_true.mp q t ht; rw [this]; decide]
    rfl
  | false =>
    refine decide_eq_false fun z => ?_
    have h0 := List.eq_nil_of_length_eq_zero z
    have : ts.all signS = true := List.all_eq_true.mpr fun t ht => by
      have := List.filter_eq_nil_iff.mp h0 t ht
      simpa using this
    rw [q] at this
    cases this
section
variable {P : Program} {w : World} {K : PySem.W.Frag} {mg : Str → Option Value} {base : Heap}
abbrev n_law : List Str := ["script", "cell", "text", "base", "mixed", "k", "some", "one", "due", "odd", "thing"]
theorem sc_law : FnScope n_law ["script"] (defScope s_law) := ⟨rfl, rfl, rfl, by decide +kernel, rfl, by decide +kernel, by decide +kernel⟩
def spLaw (K : PySem.W.Frag) (T1 T2 : Addr) : Sp := fun vs H Q _ => ∃ (a : Addr) (ns : List Int), vs = [.ref a] ∧ SqL K H a (ns.map V.int) ∧ ns.length ≤ 63 ∧ H T1 = some (TabE T1) ∧ H T2 = some (TabE T2) ∧ ∀ H', Same H H' → Q (.bl true) H'
theorem ok_law {f : Addr} {fd : FuncData} {T1 T2 : Addr} (F : Fun K "law" "law" s_law f fd) (d__law_text : DefOk P w K mg base "_law_text" 1 ["cell"] spText) (d__law_is_sign : DefOk P w K mg base "_law_is_sign" 1 ["text"] spLawSign) (d__law_right : DefOk P w K mg base "_law_right" 1 ["found", "due"] spLawRight)
    (d_is_sign : DefOk P w K mg base "is_sign" 2 ["thing"] (spIsSign K T1)) (d_is_row : DefOk P w K mg base "is_row" 4 ["thing"] (spIsRow K T1 T2)) (b_len : mg "len" = none) (b_range : mg "range" = none) (b_tuple : mg "tuple" = none) (b_list : mg "list" = none) :
    FnOk P w K mg base CX0 5 f fd ["script"] (spLaw K T1 T2) := by
  refine F.ok sc_law (fun vs H Q E h => ?_) (fun cdv A outer s H vs Q E hr h => ?_)
  · obtain ⟨_, _, rfl, _⟩ := h
    rfl
  obtain ⟨a, ns, rfl, ha, hl, hT1, hT2, k⟩ := h
  have hu := hu_of hr
  obtain ⟨t2, h2, f2⟩ : ∃ t2, PSs (cxOf CX0 P w K mg base n_law "law" (defScope s_law) f cdv A outer s H E).nox (forBody ((defBody s_law).getD 0 (.Pass ⟨0, 0, 0, 0⟩))) t2 ∧
      ∀ (D : Ends) (z : Int) (x2 x3 x4 x5 x6 x7 x8 x9 x10 : Option V) (H1 : Hp), H1 T1 = some (TabE T1) → H1 T2 = some (TabE T2) →
        (∀ (H' : Hp) (y2 y3 y4 y5 y6 y7 y8 y9 y10 : Option V), Same H1 H' → D.nx [some (.ref a), some (.int z), y2, y3, y4, y5, y6, y7, y8, y9, y10] H') →
        t2 D [some (.ref a), some (.int z), x2, x3, x4, x5, x6, x7, x8, x9, x10] H1 := by
    obtain ⟨t3, h3, f3⟩ : ∃ t3, PSs (cxOf CX0 P w K mg base n_law "law" (defScope s_law) f cdv A outer s H E).nox ((forBody ((defBody s_law).getD 0 (.Pass ⟨0, 0, 0, 0⟩))).drop 5) t3 ∧
      ∀ (D : Ends) (z : Int) (t : Str) (x3 x4 x5 x7 x8 x9 x10 : Option V) (S : Addr) (us : List Str) (H1 : Hp), H1 T1 = some (TabE T1) → H1 T2 = some (TabE T2) → t.length ≤ 8 → SqT K H1 S (us.map V.str) → us.length ≤ 240 → (∀ t, t ∈ us → t.length ≤ 8) →
        (∀ (H' : Hp) (y2 y3 y4 y5 y6 y7 y8 y9 y10 : Option V), Same H1 H' → D.nx [some (.ref a), some (.int z), y2, y3, y4, y5, y6, y7, y8, y9, y10] H') →
        t3 D [some (.ref a), some (.int z), some (.str t), x3, x4, x5, some (.ref S), x7, x8, x9, x10] H1 := by
      refine ⟨_, (pss_cons (ps_set (i := 8) sc_law.nd rfl (Or.inl rfl) (pe_cmpR op_eq (pe_callB call_len_seq (by rfl) b_len PySem.boot_len (pa_cons (pe_lc (own := [("one", 7)]) (g := gName 7) rfl sc_law.nd (pi_tup (pv 6)) (blkOk_by (own := [("one", 7)]) (N := n_law) (sc := defScope s_law) (by decide +kernel)) (fun _ _ _ _ _ => (pg_name (i := 7) sc_law.nd rfl (Or.inl rfl))) (fun _ _ _ _ _ => (pts_one (pt_not (pt_val (pe_callD d__law_is_sign (hr.mono (by decide)) rfl (pa_cons (pv 7) pa_nil)))))) (fun _ _ _ _ _ => (pv 7))) pa_nil)) pe_int (nomark _)))
      (pss_cons (ps_if (PW.pt (pw_or (pt_not (pt_val (pe_callD d__law_right (hr.mono (by decide)) rfl (pa_cons (pe_callD d_is_sign (hr.mono (by decide)) rfl (pa_cons (pv 2) pa_nil)) (pa_cons (pe_callD d__law_is_sign (hr.mono (by decide)) rfl (pa_cons (pv 2) pa_nil)) pa_nil))))) (pw_or1 (pt_not (pt_val (pe_callD d__law_right (hr.mono (by decide)) rfl (pa_cons (pe_callD d_is_row (hr.mono (by decide)) rfl (pa_cons (pv 6) pa_nil)) (pa_cons (pv 8) pa_nil)))))))) (pss_one (ps_ret pe_bl)) pss_nil)
      (pss_cons (ps_set (i := 9) sc_law.nd rfl (Or.inl rfl) (pe_lst (pa_cons pe_non (pa_cons pe_bl (pa_cons pe_int (pa_cons (pe_tup (pa_cons (pv 2) pa_nil)) (pa_cons (pe_lst (pa_cons (pv 2) pa_nil)) (pa_cons (pe_tup pa_nil) (pa_cons (pe_tup (pa_cons (pe_tup (pa_cons (pv 2) pa_nil)) pa_nil)) (pa_cons (pe_lst pa_nil) (pa_cons pe_int pa_nil)))))))))))
      (pss_cons (ps_for PassesOwn.never rfl (pi_list (pv 9)) (pg_name (i := 10) sc_law.nd rfl (Or.inl rfl))
      (pss_one (ps_if (pt_cmpR op_notB (pe_callD d_is_sign (hr.mono (by decide)) rfl (pa_cons (pv 10) pa_nil)) pe_bl (nomark _)) (pss_one (ps_ret pe_bl)) pss_nil)))
      (pss_one (ps_for PassesOwn.never rfl (pi_list (pe_lst (pa_cons (pv 2) (pa_cons (pe_callTy call_list_of (by rfl) b_list (by decide +kernel) (pa_cons (pv 6) pa_nil)) (pa_cons pe_non (pa_cons pe_int (pa_cons pe_bl (pa_cons (pe_tup (pa_cons pe_str (pa_cons pe_non pa_nil))) (pa_cons (pe_tup (pa_cons pe_str (pa_cons (pe_tup (pa_cons pe_str pa_nil)) pa_nil))) (pa_cons (pe_tup (pa_cons pe_int pa_nil)) (pa_cons (pe_tup (pa_cons (pe_lst (pa_cons pe_str pa_nil)) pa_nil)) pa_nil))))))))))) (pg_name (i := 10) sc_law.nd rfl (Or.inl rfl))
      (pss_one (ps_if (pt_cmpR op_notB (pe_callD d_is_row (hr.mono (by decide)) rfl (pa_cons (pv 10) pa_nil)) pe_bl (nomark _)) (pss_one (ps_ret pe_bl)) pss_nil)))))))), ?_⟩
      intro D z t x3 x4 x5 x7 x8 x9 x10 S us H1 g1 g2 ht hS hul hus fin
      refine ⟨_, rfl, S, rfl, ⟨_, hS⟩, fun D1 nD1 => ?_⟩
      refine lc_tup (K := K) (a := S) (xs := us.map V.str) (fun i H' => ∃ xs : List V, Same H1 H' ∧ H' D1 = some (.lst xs) ∧ xs.length = ((us.take i).filter fun u => !signS u).length ∧ xs.length ≤ i) ⟨[], .new nD1, upd_same, rfl, Nat.zero_le _⟩ (fun i H' _ ⟨_, g, _⟩ => g.sqT hS) ?_ ?_
      · rintro i x H' hx ⟨xs, s1, hD, hxl, hxi⟩
        obtain ⟨u, hu1, rfl⟩ : ∃ u : Str, us[i]? = some u ∧ x = .str u := by
          rw [List.getElem?_map] at hx
          cases e : us[i]? with
          | none => rw [e] at hx; cases hx
          | some y => rw [e] at hx; cases hx; exact ⟨y, rfl, rfl⟩
        have hi := (List.getElem?_eq_some_iff.mp hu1).1
        have ef : ((us.take (i + 1)).filter fun u => !signS u) = ((us.take i).filter fun u => !signS u) ++ (if signS u then [] else [u]) := by
          rw [List.take_add_one, hu1, List.filter_append]
          show _ ++ ([u].filter _) = _
          cases e : signS u <;> simp [List.filter, e]
        refine ⟨rfl, _, rfl, u, rfl, by have := hus u (List.mem_of_getElem? hu1); omega, fun H2 s2 => ⟨_, rfl, ?_⟩⟩
        cases e : signS u with
        | true =>
          refine iteF ⟨xs, s1.trans s2, s2 _ _ hD, ?_, by omega⟩
          rw [ef, e, hxl]
          simp
        | false =>
          refine iteT ⟨_, rfl, xs, s2 _ _ hD, szb (by omega), xs ++ [.str u], (s1.trans s2).mut nD1, upd_same, ?_, by rw [List.length_append, List.length_singleton]; omega⟩
          rw [ef, e, List.length_append, List.length_append, hxl]
          rfl
      rintro H2 ⟨xs, s2, hD, hxl, hxi⟩
      refine ⟨D1, xs, rfl, .inl (sL hD), rfl, ?_⟩
      have hdue : decide (V.int (xs.length : Int) = V.int 0) = us.all signS := by
        rw [← all_none, hxl, List.length_map, List.take_of_length_le (Nat.le_refl _)]
        by_cases q : (us.filter fun u => !signS u).length = 0
        · rw [decide_eq_true q, q]; rfl
        · rw [decide_eq_false q]
          exact decide_eq_false fun z => q (by injection z with z; omega)
      refine ⟨_, rfl, .str t, .str t, rfl, .str t, fun u e => by injection e with e; subst e; omega, s2 _ _ g1, _, rfl, t, rfl, by omega, fun H3 s3 => ⟨signS t, rfl, _, rfl, iteF ?_⟩⟩
      have s13 := s2.trans s3
      refine ⟨_, rfl, .ref S, .tuple (us.map PyData.str), rfl, .tup (s13.sqT hS) (dpStrs us), fun ds u e hu => ?_, s13 _ _ g1, s13 _ _ g2, _, rfl, ?_⟩
      · injection e with e
        subst e
        obtain ⟨u', hu', e'⟩ := List.mem_map.mp hu
        injection e' with e'
        subst e'
        have := hus _ hu'
        omega
      refine ⟨us.all signS, ?_, _, rfl, iteF ?_⟩
      · rw [hdue]
        show [V.bl ((us.map PyData.str).all signD), _] = _
        rw [signs_all]
      refine ⟨_, rfl, szl (Nat.le_of_ble_eq_true rfl), fun p1 n_p1 => ⟨_, rfl, szl (Nat.le_of_ble_eq_true rfl), fun p2 n_p2 => ⟨szl (Nat.le_of_ble_eq_true rfl), fun p3 n_p3 => ⟨_, rfl, szl (Nat.le_of_ble_eq_true rfl), fun p4 n_p4 => ⟨szl (Nat.le_of_ble_eq_true rfl), fun p5 n_p5 => ⟨szl (Nat.le_of_ble_eq_true rfl), fun p6 n_p6 => ⟨szl (Nat.le_of_ble_eq_true rfl), fun L n_L => ?_⟩⟩⟩⟩⟩⟩⟩
      have s_p1 : Same H3 (upd H3 p1 (.tup [.str t])) := .new n_p1
      have t_p1 : (upd H3 p1 (.tup [.str t])) p1 = some (.tup [.str t]) := upd_same
      generalize upd H3 p1 (.tup [.str t]) = A1 at *
      have s_p2 : Same A1 (upd A1 p2 (.lst [.str t])) := .new n_p2
      have t_p2 : (upd A1 p2 (.lst [.str t])) p2 = some (.lst [.str t]) := upd_same
      generalize upd A1 p2 (.lst [.str t]) = A2 at *
      have s_p3 : Same A2 (upd A2 p3 (.tup [])) := .new n_p3
      have t_p3 : (upd A2 p3 (.tup [])) p3 = some (.tup []) := upd_same
      generalize upd A2 p3 (.tup []) = A3 at *
      have s_p4 : Same A3 (upd A3 p4 (.tup [.str t])) := .new n_p4
      have t_p4 : (upd A3 p4 (.tup [.str t])) p4 = some (.tup [.str t]) := upd_same
      generalize upd A3 p4 (.tup [.str t]) = A4 at *
      have s_p5 : Same A4 (upd A4 p5 (.tup [.ref p4])) := .new n_p5
      have t_p5 : (upd A4 p5 (.tup [.ref p4])) p5 = some (.tup [.ref p4]) := upd_same
      generalize upd A4 p5 (.tup [.ref p4]) = A5 at *
      have s_p6 : Same A5 (upd A5 p6 (.lst [])) := .new n_p6
      have t_p6 : (upd A5 p6 (.lst [])) p6 = some (.lst []) := upd_same
      generalize upd A5 p6 (.lst []) = A6 at *
      have s_L : Same A6 (upd A6 L (.lst [.non, .bl true, .int 5, .ref p1, .ref p2, .ref p3, .ref p5, .ref p6, .int 0])) := .new n_L
      have t_L : (upd A6 L (.lst [.non, .bl true, .int 5, .ref p1, .ref p2, .ref p3, .ref p5, .ref p6, .int 0])) L = some (.lst [.non, .bl true, .int 5, .ref p1, .ref p2, .ref p3, .ref p5, .ref p6, .int 0]) := upd_same
      generalize upd A6 L (.lst [.non, .bl true, .int 5, .ref p1, .ref p2, .ref p3, .ref p5, .ref p6, .int 0]) = A7 at *
      have u6 : Same A6 A7 := s_L
      have u5 : Same A5 A7 := s_p6.trans u6
      have u4 : Same A4 A7 := s_p5.trans u5
      have u3 : Same A3 A7 := s_p4.trans u4
      have u2 : Same A2 A7 := s_p3.trans u3
      have u1 : Same A1 A7 := s_p2.trans u2
      have s1A : Same H1 A7 := s13.trans (s_p1.trans u1)
      have dts : DpAll K A7 [.str t] [.str t] := .cons (.str t) .nil
      have dall : DpAll K A7 [.non, .bl true, .int 5, .ref p1, .ref p2, .ref p3, .ref p5, .ref p6, .int 0] [.none, .bool true, .int 5, .tuple [.str t], .list [.str t], .tuple [], .tuple [.tuple [.str t]], .list [], .int 0] :=
        .cons .non (.cons (.bl _) (.cons (.int _) (.cons (.tup (sT (u1 _ _ t_p1)) dts) (.cons (.lst (sL (u2 _ _ t_p2)) dts) (.cons (.tup (sT (u3 _ _ t_p3)) .nil) (.cons (.tup (sT (u5 _ _ t_p5)) (.cons (.tup (sT (u4 _ _ t_p4)) dts) .nil)) (.cons (.lst (sL (u6 _ _ t_p6)) .nil) (.cons (.int _) .nil))))))))
      have dno : ∀ d, d ∈ ([.none, .bool true, .int 5, .tuple [.str t], .list [.str t], .tuple [], .tuple [.tuple [.str t]], .list [], .int 0] : List PyData) → signD d = false ∧ ∀ u, d ≠ .str u := fun d hd => by
        simp only [List.mem_cons, List.not_mem_nil, or_false] at hd
        rcases hd with rfl | rfl | rfl | rfl | rfl | rfl | rfl | rfl | rfl <;> exact ⟨rfl, fun u e => by cases e⟩
      refine ⟨_, rfl, L, rfl, ⟨_, sL t_L⟩, ?_⟩
      refine for_list (K := K) (a := L) (xs := [.non, .bl true, .int 5, .ref p1, .ref p2, .ref p3, .ref p5, .ref p6, .int 0]) (fun i σ H' => H' = A7 ∧ ∃ y3 y4 y5 y7 y8 y10 : Option V, σ = [some (.ref a), some (.int z), some (.str t), y3, y4, y5, some (.ref S), y7, y8, some (.ref L), y10]) ⟨rfl, _, _, _, _, _, _, rfl⟩ (fun i σ H' _ q => by rw [q.1]; exact sL t_L) ?_ ?_
      · rintro i x σ H' hx ⟨rfl, y3, y4, y5, y7, y8, y10, rfl⟩
        obtain ⟨d, hd1, hd2⟩ := dpsAtV dall hx
        obtain ⟨e1, e2⟩ := dno d (List.mem_of_getElem? hd1)
        refine ⟨_, rfl, x, d, rfl, hd2, fun u e => absurd e (e2 u), s1A _ _ g1, signD d, false, rfl, rfl, _, rfl, ?_⟩
        rw [e1]
        exact iteF ⟨rfl, _, _, _, _, _, _, rfl⟩
      rintro σ H' ⟨rfl, y3, y4, y5, y7, y8, y10, rfl⟩
      refine ⟨_, rfl, _, rfl, S, _, rfl, .inr (s1A.sqT hS), fun q1 n_q1 => ⟨szl (Nat.le_of_ble_eq_true rfl), fun q2 n_q2 => ⟨szl (Nat.le_of_ble_eq_true rfl), fun q3 n_q3 => ⟨szl (Nat.le_of_ble_eq_true rfl), fun q4 n_q4 => ⟨szl (Nat.le_of_ble_eq_true rfl), fun q5 n_q5 => ⟨szl (Nat.le_of_ble_eq_true rfl), fun q6 n_q6 => ⟨szl (Nat.le_of_ble_eq_true rfl), fun q7 n_q7 => ⟨szl (Nat.le_of_ble_eq_true rfl), fun M n_M => ?_⟩⟩⟩⟩⟩⟩⟩⟩
      have s_q1 : Same H' (upd H' q1 (.lst (us.map V.str))) := .new n_q1
      have t_q1 : (upd H' q1 (.lst (us.map V.str))) q1 = some (.lst (us.map V.str)) := upd_same
      generalize upd H' q1 (.lst (us.map V.str)) = B1 at *
      have s_q2 : Same B1 (upd B1 q2 (.tup [.str "a", .non])) := .new n_q2
      have t_q2 : (upd B1 q2 (.tup [.str "a", .non])) q2 = some (.tup [.str "a", .non]) := upd_same
      generalize upd B1 q2 (.tup [.str "a", .non]) = B2 at *
      have s_q3 : Same B2 (upd B2 q3 (.tup [.str "b"])) := .new n_q3
      have t_q3 : (upd B2 q3 (.tup [.str "b"])) q3 = some (.tup [.str "b"]) := upd_same
      generalize upd B2 q3 (.tup [.str "b"]) = B3 at *
      have s_q4 : Same B3 (upd B3 q4 (.tup [.str "a", .ref q3])) := .new n_q4
      have t_q4 : (upd B3 q4 (.tup [.str "a", .ref q3])) q4 = some (.tup [.str "a", .ref q3]) := upd_same
      generalize upd B3 q4 (.tup [.str "a", .ref q3]) = B4 at *
      have s_q5 : Same B4 (upd B4 q5 (.tup [.int 3])) := .new n_q5
      have t_q5 : (upd B4 q5 (.tup [.int 3])) q5 = some (.tup [.int 3]) := upd_same
      generalize upd B4 q5 (.tup [.int 3]) = B5 at *
      have s_q6 : Same B5 (upd B5 q6 (.lst [.str "a"])) := .new n_q6
      have t_q6 : (upd B5 q6 (.lst [.str "a"])) q6 = some (.lst [.str "a"]) := upd_same
      generalize upd B5 q6 (.lst [.str "a"]) = B6 at *
      have s_q7 : Same B6 (upd B6 q7 (.tup [.ref q6])) := .new n_q7
      have t_q7 : (upd B6 q7 (.tup [.ref q6])) q7 = some (.tup [.ref q6]) := upd_same
      generalize upd B6 q7 (.tup [.ref q6]) = B7 at *
      have s_M : Same B7 (upd B7 M (.lst [.str t, .ref q1, .non, .int 7, .bl true, .ref q2, .ref q4, .ref q5, .ref q7])) := .new n_M
      have t_M : (upd B7 M (.lst [.str t, .ref q1, .non, .int 7, .bl true, .ref q2, .ref q4, .ref q5, .ref q7])) M = some (.lst [.str t, .ref q1, .non, .int 7, .bl true, .ref q2, .ref q4, .ref q5, .ref q7]) := upd_same
      generalize upd B7 M (.lst [.str t, .ref q1, .non, .int 7, .bl true, .ref q2, .ref q4, .ref q5, .ref q7]) = B8 at *
      have v7 : Same B7 B8 := s_M
      have v6 : Same B6 B8 := s_q7.trans v7
      have v5 : Same B5 B8 := s_q6.trans v6
      have v4 : Same B4 B8 := s_q5.trans v5
      have v3 : Same B3 B8 := s_q4.trans v4
      have v2 : Same B2 B8 := s_q3.trans v3
      have v1 : Same B1 B8 := s_q2.trans v2
      have s1B : Same H1 B8 := s1A.trans (s_q1.trans v1)
      have eall : DpAll K B8 [.str t, .ref q1, .non, .int 7, .bl true, .ref q2, .ref q4, .ref q5, .ref q7] [.str t, .list (us.map PyData.str), .none, .int 7, .bool true, .tuple [.str "a", .none], .tuple [.str "a", .tuple [.str "b"]], .tuple [.int 3], .tuple [.list [.str "a"]]] :=
        .cons (.str t) (.cons (.lst (sL (v1 _ _ t_q1)) (dpStrs us)) (.cons .non (.cons (.int _) (.cons (.bl _) (.cons (.tup (sT (v2 _ _ t_q2)) (.cons (.str _) (.cons .non .nil))) (.cons (.tup (sT (v4 _ _ t_q4)) (.cons (.str _) (.cons (.tup (sT (v3 _ _ t_q3)) (.cons (.str _) .nil)) .nil)))
          (.cons (.tup (sT (v5 _ _ t_q5)) (.cons (.int _) .nil)) (.cons (.tup (sT (v7 _ _ t_q7)) (.cons (.lst (sL (v6 _ _ t_q6)) (.cons (.str _) .nil)) .nil)) .nil))))))))
      have eno : ∀ d, d ∈ ([.str t, .list (us.map PyData.str), .none, .int 7, .bool true, .tuple [.str "a", .none], .tuple [.str "a", .tuple [.str "b"]], .tuple [.int 3], .tuple [.list [.str "a"]]] : List PyData) → rowD d = false ∧ ∀ ds u, d = .tuple ds → .str u ∈ ds → u.length ≤ 1000 := fun d hd => by
        have ha1 : (Str.ofString "a").length ≤ 1000 := by decide +kernel
        simp only [List.mem_cons, List.not_mem_nil, or_false] at hd
        rcases hd with rfl | rfl | rfl | rfl | rfl | rfl | rfl | rfl | rfl
        · exact ⟨rfl, fun ds u e => by cases e⟩
        · exact ⟨rfl, fun ds u e => by cases e⟩
        · exact ⟨rfl, fun ds u e => by cases e⟩
        · exact ⟨rfl, fun ds u e => by cases e⟩
        · exact ⟨rfl, fun ds u e => by cases e⟩
        · refine ⟨by decide +kernel, fun ds u e hu => ?_⟩
          cases e
          simp at hu
          rw [hu]
          exact ha1
        · refine ⟨by decide +kernel, fun ds u e hu => ?_⟩
          cases e
          simp at hu
          rw [hu]
          exact ha1
        · refine ⟨by decide +kernel, fun ds u e hu => ?_⟩
          cases e
          simp at hu
        · refine ⟨by decide +kernel, fun ds u e hu => ?_⟩
          cases e
          simp at hu
      refine ⟨M, rfl, ⟨_, sL t_M⟩, ?_⟩
      refine for_list (K := K) (a := M) (xs := [.str t, .ref q1, .non, .int 7, .bl true, .ref q2, .ref q4, .ref q5, .ref q7]) (fun i σ H' => H' = B8 ∧ ∃ y3 y4 y5 y7 y8 y10 : Option V, σ = [some (.ref a), some (.int z), some (.str t), y3, y4, y5, some (.ref S), y7, y8, some (.ref L), y10]) ⟨rfl, _, _, _, _, _, _, rfl⟩ (fun i σ H' _ q => by rw [q.1]; exact sL t_M) ?_ ?_
      · rintro i x σ H' hx ⟨rfl, y3, y4, y5, y7, y8, y10, rfl⟩
        obtain ⟨d, hd1, hd2⟩ := dpsAtV eall hx
        obtain ⟨e1, e2⟩ := eno d (List.mem_of_getElem? hd1)
        refine ⟨_, rfl, x, d, rfl, hd2, e2, s1B _ _ g1, s1B _ _ g2, rowD d, false, rfl, rfl, _, rfl, ?_⟩
        rw [e1]
        exact iteF ⟨rfl, _, _, _, _, _, _, rfl⟩
      rintro σ H' ⟨rfl, y3, y4, y5, y7, y8, y10, rfl⟩
      exact fin H' _ _ _ _ _ _ _ _ _ s1B
    refine ⟨_, (pss_cons (ps_set (i := 2) sc_law.nd rfl (Or.inl rfl) (pe_callD d__law_text (hr.mono (by decide)) rfl (pa_cons (pv 1) pa_nil)))
      (pss_cons (ps_set (i := 3) sc_law.nd rfl (Or.inr rfl) (pe_op op_mod (pe_op op_fdiv (pv 1) pe_int) pe_int))
      (pss_cons (ps_setLc (i := 4) (own := [("k", 5)]) (g := gName 5) rfl sc_law.nd rfl rfl (sw_true rfl rfl rfl (by decide +kernel)) (pi_range1 rfl b_range (pa_cons (pe_op op_mod (pe_op op_fdiv (pv 1) pe_int) pe_int) pa_nil)) (blkOk_by (own := [("k", 5)]) (N := n_law) (sc := defScope s_law) (by decide +kernel)) (fun _ _ _ _ _ => (pg_name (i := 5) sc_law.nd rfl (Or.inl rfl))) (fun _ _ _ _ _ => pts_nil) (fun _ _ _ _ _ => (pe_op op_fdiv (pe_op op_mod (pe_op op_pow (pe_op op_add (pe_op op_add (pv 3) (pe_op op_mul pe_int (pv 5))) pe_int) pe_int) pe_int) pe_int)))
      (pss_cons (ps_set (i := 6) sc_law.nd rfl (Or.inl rfl) (pe_callTy call_tuple_of (by rfl) b_tuple (by decide +kernel) (pa_cons (pe_lc (own := [("one", 7)]) (g := gName 7) rfl sc_law.nd (pi_list (pv 4)) (blkOk_by (own := [("one", 7)]) (N := n_law) (sc := defScope s_law) (by decide +kernel)) (fun _ _ _ _ _ => (pg_name (i := 7) sc_law.nd rfl (Or.inl rfl))) (fun _ _ _ _ _ => pts_nil) (fun _ _ _ _ _ => (pe_callD d__law_text (hr.mono (by decide)) rfl (pa_cons (pv 7) pa_nil)))) pa_nil)))
      (pss_cons (ps_set (i := 6) sc_law.nd rfl (Or.inl rfl) (pe_op op_repA (pv 6) (pe_ix ix_list (pe_lst (pa_cons pe_int (pa_cons pe_int (pa_cons pe_int (pa_cons pe_int (pa_cons pe_int pa_nil)))))) (pe_op op_mod (pe_op op_fdiv (pv 1) pe_int) pe_int) (fun _ _ => rfl))))
      h3))))), ?_⟩
    intro D z x2 x3 x4 x5 x6 x7 x8 x9 x10 H1 g1 g2 fin
    refine ⟨_, rfl, z, rfl, fun H2 t s2 ht => ?_⟩
    obtain ⟨b, eb, lb⟩ := mod_nat (z / 35) (m := 1000003) (by decide)
    have eb' : z / 35 % 1000003 = (b : Int) := eb
    refine ⟨_, rfl, _, _, rfl, rfl, ⟨by decide, by decide⟩, _, _, rfl, rfl, (by show (0 : Int) < 1000003; decide), ?_⟩
    obtain ⟨n, en, ln⟩ := mod_nat (z / 7) (m := 5) (by decide)
    have en' : z / 7 % 5 = (n : Int) := en
    refine ⟨_, rfl, _, _, rfl, rfl, ⟨by decide, by decide⟩, _, _, rfl, rfl, (by show (0 : Int) < 5; decide), (n : Int), (show [V.int (z / 7 % 5)] = _ by rw [en']), by omega, by omega, fun M nM => ?_⟩
    refine lc_range (lo := 0) (n := n) (fun i H' => ∃ ms : List Int, Same H2 H' ∧ H' M = some (.lst (ms.map V.int)) ∧ ms.length = i) ⟨[], .new nM, upd_same, rfl⟩ ?_ ?_
    · rintro i H' hi ⟨ms, s3, hM, hml⟩
      refine ⟨rfl, .int (b : Int), (show some (some (V.int (z / 35 % 1000003))) = _ by rw [eb']), _, rfl, _, _, rfl, rfl, .inl ⟨by decide, by decide⟩, _, _, rfl, rfl, _, _, rfl, rfl, _, _, rfl, rfl, ⟨by decide, by decide, by omega⟩, _, _, rfl, rfl, (by show (0 : Int) < 2147483647; decide), _, _, rfl, rfl, ⟨by decide, by decide⟩, ?_⟩
      refine ⟨_, hM, szb (by rw [List.length_map]; omega), ms ++ [((b : Int) + 7919 * (0 + (i : Int)) + 1) ^ Int.toNat 5 % 2147483647 / 8], s3.mut nM, ?_, by rw [List.length_append, hml]; rfl⟩
      rw [upd_same, List.map_append]
      rfl
    rintro H3 ⟨ms, s3, hM, hml⟩
    refine ⟨_, rfl, M, rfl, ⟨_, sL hM⟩, fun L1 nL1 => ?_⟩
    refine lc_list (K := K) (a := M) (xs := ms.map V.int) (fun i H' => ∃ ts : List Str, Same H3 H' ∧ H' L1 = some (.lst (ts.map V.str)) ∧ ts.length = i ∧ ∀ t, t ∈ ts → t.length ≤ 8) ⟨[], .new nL1, upd_same, rfl, fun t h => absurd h (by simp)⟩ (fun i H' _ ⟨_, g, _⟩ => sL (g _ _ hM)) ?_ ?_
    · rintro i x H' hx ⟨ts, s4, hL, htl, ht8⟩
      obtain ⟨y, hy, rfl⟩ : ∃ y : Int, ms[i]? = some y ∧ x = .int y := by
        rw [List.getElem?_map] at hx
        cases e : ms[i]? with
        | none => rw [e] at hx; cases hx
        | some y => rw [e] at hx; cases hx; exact ⟨y, rfl, rfl⟩
      have hi := (List.getElem?_eq_some_iff.mp hy).1
      refine ⟨rfl, _, rfl, y, rfl, fun H4 t4 s5 h5 => ?_⟩
      refine ⟨_, s5 _ _ hL, szb (by rw [List.length_map]; omega), ts ++ [t4], (s4.trans s5).mut nL1, by rw [upd_same, List.map_append]; rfl, by rw [List.length_append, htl]; rfl, fun t ht => ?_⟩
      rcases List.mem_append.mp ht with q | q
      · exact ht8 t q
      · rw [List.mem_singleton.mp q]; exact h5
    rintro H4 ⟨ts, s4, hL1, htl, ht8⟩
    have htl : ts.length ≤ 4 := by rw [htl, List.length_map]; omega
    refine ⟨L1, _, rfl, .inl ⟨sL hL1, fun Tp nTp => ?_⟩⟩
    have s5 : Same H4 (upd H4 Tp (.tup (ts.map V.str))) := .new nTp
    have hTp : (upd H4 Tp (.tup (ts.map V.str))) Tp = some (.tup (ts.map V.str)) := upd_same
    generalize upd H4 Tp (.tup (ts.map V.str)) = H5 at s5 hTp ⊢
    refine ⟨_, rfl, szl (by decide), fun L2 nL2 => ?_⟩
    obtain ⟨j, ej, lj⟩ := mod_nat (z / 35) (m := 5) (by decide)
    have ej' : z / 35 % 5 = (j : Int) := ej
    obtain ⟨kk, hkk, hk1, hk60⟩ : ∃ kk : Nat, ([.int 1, .int 1, .int 1, .int 16, .int 60] : List V)[j]? = some (.int (kk : Int)) ∧ 1 ≤ kk ∧ kk ≤ 60 := by
      match j, lj with
      | 0, _ => exact ⟨1, rfl, by decide, by decide⟩
      | 1, _ => exact ⟨1, rfl, by decide, by decide⟩
      | 2, _ => exact ⟨1, rfl, by decide, by decide⟩
      | 3, _ => exact ⟨16, rfl, by decide, by decide⟩
      | 4, _ => exact ⟨60, rfl, by decide, by decide⟩
    refine ⟨_, rfl, _, _, rfl, rfl, ⟨by decide, by decide⟩, _, _, rfl, rfl, (by show (0 : Int) < 5; decide), L2, _, _, .int (kk : Int), rfl, rfl, sL upd_same, (show atI _ (z / 35 % 5) = _ by rw [ej']; exact atI_nat hkk), ?_⟩
    have s6 : Same H5 (upd H5 L2 (.lst [.int 1, .int 1, .int 1, .int 16, .int 60])) := .new nL2
    generalize upd H5 L2 (.lst [.int 1, .int 1, .int 1, .int 16, .int 60]) = H6 at s6 ⊢
    have s16 : Same H1 H6 := s2.trans (s3.trans (s4.trans (s5.trans s6)))
    refine ⟨Tp, (kk : Int), _, rfl, rfl, sT (s6 _ _ hTp), by omega, by omega, by rw [List.length_map]; omega, fun _ => ?_, fun p np => ?_⟩
    · exact f3 D z t _ _ _ _ _ _ _ Tp ts H6 (s16 _ _ g1) (s16 _ _ g2) ht (sT (s6 _ _ hTp)) (by omega) ht8 fun H' y2 y3 y4 y5 y6 y7 y8 y9 y10 q => fin H' _ _ _ _ _ _ _ _ _ (s16.trans q)
    · have s7 : Same H6 (upd H6 p (.tup (List.replicate kk (ts.map V.str)).flatten)) := .new np
      have hp : (upd H6 p (.tup (List.replicate kk (ts.map V.str)).flatten)) p = some (.tup (List.replicate kk (ts.map V.str)).flatten) := upd_same
      have e1 : (List.replicate kk (ts.map V.str)).flatten = ((List.replicate kk ts).flatten).map V.str := by rw [List.map_flatten, List.map_replicate]
      show tSeq _ _ _ _ (upd H6 p (.tup (List.replicate kk (ts.map V.str)).flatten))
      generalize upd H6 p (.tup (List.replicate kk (ts.map V.str)).flatten) = H7 at s7 hp ⊢
      rw [e1] at hp
      refine f3 D z t _ _ _ _ _ _ _ p (List.replicate kk ts).flatten H7 ((s16.trans s7) _ _ g1) ((s16.trans s7) _ _ g2) ht (sT hp) ?_ (fun u hu => ?_) fun H' y2 y3 y4 y5 y6 y7 y8 y9 y10 q => fin H' _ _ _ _ _ _ _ _ _ ((s16.trans s7).trans q)
      · rw [PyProof.Rows.lm_len_rep_flat]
        have := Nat.mul_le_mul hk60 htl
        omega
      · obtain ⟨l, hl1, hl2⟩ := List.mem_flatten.mp hu
        rw [(List.mem_replicate.mp hl1).2] at hl2
        exact ht8 u hl2
  have loop := fun (D : Ends) (L : Addr) (zs : List Int) (H1 : Hp) (s1 : Same H H1) (hL : SqL K H1 L (zs.map V.int)) (fin : ∀ (σ : L2.St) (H' : Hp), Same H H' → D.nx σ H') =>
    for_list (K := K) (a := L) (xs := zs.map V.int) (g := gName 1) (tb := t2) (D := D) (σ := L2.start n_law [.ref a]) (H := H1) (fun i σ H' => Same H1 H' ∧ ∃ x1 x2 x3 x4 x5 x6 x7 x8 x9 x10 : Option V, σ = [some (.ref a), x1, x2, x3, x4, x5, x6, x7, x8, x9, x10])
      ⟨Same.refl _, _, _, _, _, _, _, _, _, _, _, rfl⟩ (fun i σ H' _ q => sameL q.1 hL) (fun i x σ H' hx ⟨s2, x1, x2, x3, x4, x5, x6, x7, x8, x9, x10, hσ⟩ => by
        subst hσ
        obtain ⟨z, rfl⟩ : ∃ z : Int, x = .int z := by
          rw [List.getElem?_map] at hx
          cases e : zs[i]? with
          | none => rw [e] at hx; cases hx
          | some y => rw [e] at hx; cases hx; exact ⟨y, rfl⟩
        exact f2 _ z _ _ _ _ _ _ _ _ _ H' ((s1.trans s2) _ _ hT1) ((s1.trans s2) _ _ hT2) fun H2 y2 y3 y4 y5 y6 y7 y8 y9 y10 s3 => ⟨s2.trans s3, _, _, _, _, _, _, _, _, _, _, rfl⟩) (fun σ H' q => fin σ H' (s1.trans q.1))
  refine ⟨_, (pss_cons (ps_for PassesOwn.never rfl (pi_list (pe_ifExp (pt_cmpR op_gt (pe_callB call_len_seq (by rfl) b_len PySem.boot_len (pa_cons (pv 0) pa_nil)) pe_int (nomark _)) (pe_slice sl_list (pv 0) po_none (po_some pe_int)) (pe_lst (pa_cons pe_int pa_nil)))) (pg_name (i := 1) sc_law.nd rfl (Or.inl rfl))
      h2)
    (pss_one (ps_ret pe_bl))), ?_⟩
  refine ⟨_, rfl, a, _, rfl, .inl ha, _, _, rfl, rfl, _, rfl, ite2 (fun _ => ?_) (fun _ => ?_)⟩
  · refine ⟨_, rfl, _, rfl, a, _, rfl, ha, fun p np => ?_⟩
    have e1 : cutV (ns.map V.int) none (some (20 : Int)) = (ns.take 20).map V.int := (cut_take _ 20).trans List.map_take.symm
    refine ⟨p, rfl, ⟨_, sL upd_same⟩, loop _ p (ns.take 20) _ (.new np) (by rw [← e1]; exact sL upd_same) fun σ H' s1 => k H' s1⟩
  · refine ⟨szl (by decide), fun p np => ⟨p, rfl, ⟨_, sL upd_same⟩, loop _ p [0] _ (.new np) (sL upd_same) fun σ H' s1 => k H' s1⟩⟩
end
end Sw
set_option Elab.async false
set_option maxRecDepth 100000
set_option maxHeartbeats 8000000
namespace Sw
open PySem L2 PySem.Spec PyProof.Rows
theorem defAt_mk {K : PySem.W.Frag} {h : Heap} {mg : Str → Option Value} {x : Str} {st : Stmt} {ps : List Str} {f : Addr} {od an : Option Addr} {sl : Array (Option Value)} {oc kV dc pm cd ct : Value} (X : K.In h) (G : h.Ns mainGlobals mg)
    (a : PySem.W.nsIn K mainGlobals x = some (some (.ref f))) (l : K.lookup f = some ⟨oc, od, .func (PySem.W.fnOf x x (defArgs st) (defBody st) (defScope st) .none kV dc pm an cd ct), sl⟩) (c : PySem.W.codeIn K cd x = true) (k : PySem.W.keepIn K (.ref f) = true)
    (b : Binds K (PySem.W.fnOf x x (defArgs st) (defBody st) (defScope st) .none kV dc pm an cd ct) ps []) : DefAt K mg x st ps :=
  ⟨f, _, fun_mk (st := st) l c k, PySem.W.mg_of X G a, b⟩
theorem defTab_mk {K : PySem.W.Frag} {h base : Heap} {mg : Str → Option Value} {x : Str} {st : Stmt} {ps : List Str} {f c T : Addr} {od an : Option Addr} {sl : Array (Option Value)} {oc kV dc pm ct : Value} (X : K.In h) (G : h.Ns mainGlobals mg)
    (a : PySem.W.nsIn K mainGlobals x = some (some (.ref f))) (l : K.lookup f = some ⟨oc, od, .func (PySem.W.fnOf x x (defArgs st) (defBody st) (defScope st) .none kV dc pm an (.ref c) ct), sl⟩) (cc : PySem.W.codeIn K (.ref c) x = true) (k : PySem.W.keepIn K (.ref f) = true)
    (b : Binds K (PySem.W.fnOf x x (defArgs st) (defBody st) (defScope st) .none kV dc pm an (.ref c) ct) ps []) (TB : GxR.TabB base mg c T) : DefTab K mg base x st ps T :=
  ⟨f, oc, od, kV, dc, pm, an, c, ct, sl, l, cc, k, PySem.W.mg_of X G a, b, TB⟩
theorem all_mk {l : PySem.W.OpenLaw} {w : World} {K : PySem.W.Frag} {h : Heap} {mg : Str → Option Value} {q : Program} {f1 f2 f3 f4 f5 f6 c1 T1 c2 T2 fa : Addr} {od1 an1 od2 an2 od3 an3 od4 an4 od5 an5 od6 an6 td1 td2 : Option Addr} {sl1 sl2 sl3 sl4 sl5 sl6 ts1 ts2 : Array (Option Value)} {tv1 tv2 : Array Value} {oc1 kV1 dc1 pm1 ct1 oc2 kV2 dc2 pm2 ct2 oc3 kV3 dc3 pm3 ct3 cd3 oc4 kV4 dc4 pm4 ct4 cd4 oc5 kV5 dc5 pm5 ct5 cd5 oc6 kV6 dc6 pm6 ct6 cd6 te1 te2 : Value} {k__MOST_LETTERS : Tok} (X : K.In h) (G : h.Ns mainGlobals mg) (hfa : mg "law" = some (.ref fa)) (own : ∀ x c P, ((recsOf q).any fun e => e.name == x) = true → OwnT K h x c P)
    (a1 : PySem.W.nsIn K mainGlobals "is_sign" = some (some (.ref f1))) (l1 : K.lookup f1 = some ⟨oc1, od1, .func (PySem.W.fnOf "is_sign" "is_sign" (defArgs s_is_sign) (defBody s_is_sign) (defScope s_is_sign) .none kV1 dc1 pm1 an1 (.ref c1) ct1), sl1⟩) (d1 : PySem.W.codeIn K (.ref c1) "is_sign" = true) (k1 : PySem.W.keepIn K (.ref f1) = true)
    (t1 : K.lookup c1 = some ⟨te1, td1, .fields tv1, ts1⟩) (u1 : tv1[11]? = some (.ref T1)) (n1 : K.lookup T1 = none) (r1 : ((recsOf q).any fun e => e.name == ("is_sign" : Str)) = true)
    (a2 : PySem.W.nsIn K mainGlobals "is_row" = some (some (.ref f2))) (l2 : K.lookup f2 = some ⟨oc2, od2, .func (PySem.W.fnOf "is_row" "is_row" (defArgs s_is_row) (defBody s_is_row) (defScope s_is_row) .none kV2 dc2 pm2 an2 (.ref c2) ct2), sl2⟩) (d2 : PySem.W.codeIn K (.ref c2) "is_row" = true) (k2 : PySem.W.keepIn K (.ref f2) = true)
    (t2 : K.lookup c2 = some ⟨te2, td2, .fields tv2, ts2⟩) (u2 : tv2[11]? = some (.ref T2)) (n2 : K.lookup T2 = none) (r2 : ((recsOf q).any fun e => e.name == ("is_row" : Str)) = true)
    (a3 : PySem.W.nsIn K mainGlobals "_law_text" = some (some (.ref f3))) (l3 : K.lookup f3 = some ⟨oc3, od3, .func (PySem.W.fnOf "_law_text" "_law_text" (defArgs s_law_text) (defBody s_law_text) (defScope s_law_text) .none kV3 dc3 pm3 an3 cd3 ct3), sl3⟩) (d3 : PySem.W.codeIn K cd3 "_law_text" = true) (k3 : PySem.W.keepIn K (.ref f3) = true)
    (a4 : PySem.W.nsIn K mainGlobals "_law_is_sign" = some (some (.ref f4))) (l4 : K.lookup f4 = some ⟨oc4, od4, .func (PySem.W.fnOf "_law_is_sign" "_law_is_sign" (defArgs s_law_is_sign) (defBody s_law_is_sign) (defScope s_law_is_sign) .none kV4 dc4 pm4 an4 cd4 ct4), sl4⟩) (d4 : PySem.W.codeIn K cd4 "_law_is_sign" = true) (k4 : PySem.W.keepIn K (.ref f4) = true)
    (a5 : PySem.W.nsIn K mainGlobals "_law_right" = some (some (.ref f5))) (l5 : K.lookup f5 = some ⟨oc5, od5, .func (PySem.W.fnOf "_law_right" "_law_right" (defArgs s_law_right) (defBody s_law_right) (defScope s_law_right) .none kV5 dc5 pm5 an5 cd5 ct5), sl5⟩) (d5 : PySem.W.codeIn K cd5 "_law_right" = true) (k5 : PySem.W.keepIn K (.ref f5) = true)
    (a6 : PySem.W.nsIn K mainGlobals "law" = some (some (.ref f6))) (l6 : K.lookup f6 = some ⟨oc6, od6, .func (PySem.W.fnOf "law" "law" (defArgs s_law) (defBody s_law) (defScope s_law) .none kV6 dc6 pm6 an6 cd6 ct6), sl6⟩) (d6 : PySem.W.codeIn K cd6 "law" = true) (k6 : PySem.W.keepIn K (.ref f6) = true)
    (g__MOST_LETTERS : PySem.W.nsIn K mainGlobals "_MOST_LETTERS" = some (some (.int 6 k__MOST_LETTERS)))
    (z_all : PySem.W.nsIn K mainGlobals "all" = some none)
    (z_isinstance : PySem.W.nsIn K mainGlobals "isinstance" = some none)
    (z_len : PySem.W.nsIn K mainGlobals "len" = some none)
    (z_str : PySem.W.nsIn K mainGlobals "str" = some none)
    (z_tuple : PySem.W.nsIn K mainGlobals "tuple" = some none)
    (z_list : PySem.W.nsIn K mainGlobals "list" = some none)
    (z_bool : PySem.W.nsIn K mainGlobals "bool" = some none)
    (z_range : PySem.W.nsIn K mainGlobals "range" = some none)
    : ∃ (fd : FuncData) (cs : List (Addr × Addr)) (sp : Sp), (∀ p ∈ cs, h.get? p.2 = some { cls := .none, data := .fields #[] }) ∧ (∀ p ∈ cs, K.lookup p.2 = none) ∧ (∀ p ∈ cs, PySem.W.CodeHd h p.1 p.2) ∧ (∀ (s : Shared) (u : Value), BindsTo s fd ⟨[u], []⟩ [("script", u)]) ∧
      (∀ (H : Hp) (a : Addr) (ns : List Int), ns.length ≤ 63 → (∀ z ∈ ns, Builtin.Int.intBits z ≤ 1048576) → Tabs cs H → SqL K H a (ns.map V.int) → sp [.ref a] H (fun v H' => v = .bl true ∧ Tabs cs H') fun _ _ _ => False) ∧
      ∀ base : Heap, K.In base → base.Ns mainGlobals mg → (∀ p ∈ cs, GxR.TabB base mg p.1 p.2) → FnOk l.prog w K mg base CX0 5 fa fd ["script"] sp := by
  have e := hfa.symm.trans (PySem.W.mg_of X G a6)
  cases e
  have b_all := PySem.W.mg_none_of X G z_all
  have b_isinstance := PySem.W.mg_none_of X G z_isinstance
  have b_len := PySem.W.mg_none_of X G z_len
  have b_str := PySem.W.mg_none_of X G z_str
  have b_tuple := PySem.W.mg_none_of X G z_tuple
  have b_list := PySem.W.mg_none_of X G z_list
  have b_bool := PySem.W.mg_none_of X G z_bool
  have b_range := PySem.W.mg_none_of X G z_range
  have m__MOST_LETTERS : ∃ t, mg "_MOST_LETTERS" = some (.int 6 t) := ⟨_, PySem.W.mg_of X G g__MOST_LETTERS⟩
  obtain ⟨w1, x1⟩ := own _ c1 T1 r1 _ _ _ _ _ _ _ a1 l1 rfl rfl t1 u1
  obtain ⟨w2, x2⟩ := own _ c2 T2 r2 _ _ _ _ _ _ _ a2 l2 rfl rfl t2 u2
  have D3 : DefAt K mg "_law_text" s_law_text ["cell"] := defAt_mk X G a3 l3 d3 k3 ((fun_mk (st := s_law_text) l3 d3 k3).binds (ps := ["cell"]) fun _ _ _ _ _ _ us hl => match us, hl with | [_], _ => rfl)
  have D4 : DefAt K mg "_law_is_sign" s_law_is_sign ["text"] := defAt_mk X G a4 l4 d4 k4 ((fun_mk (st := s_law_is_sign) l4 d4 k4).binds (ps := ["text"]) fun _ _ _ _ _ _ us hl => match us, hl with | [_], _ => rfl)
  have D5 : DefAt K mg "_law_right" s_law_right ["found", "due"] := defAt_mk X G a5 l5 d5 k5 ((fun_mk (st := s_law_right) l5 d5 k5).binds (ps := ["found", "due"]) fun _ _ _ _ _ _ us hl => match us, hl with | [_, _], _ => rfl)
  refine ⟨PySem.W.fnOf "law" "law" (defArgs s_law) (defBody s_law) (defScope s_law) .none kV6 dc6 pm6 an6 cd6 ct6, [(c1, T1), (c2, T2)], spLaw K T1 T2, ?_, ?_, ?_, fun s v => .of_eq rfl, ?_, fun base _ _ TB => ?_⟩
  · exact fun p hp => by
      simp only [List.mem_cons, List.not_mem_nil, or_false] at hp
      rcases hp with rfl | rfl
      · exact w1
      · exact w2
  · exact fun p hp => by
      simp only [List.mem_cons, List.not_mem_nil, or_false] at hp
      rcases hp with rfl | rfl
      · exact n1
      · exact n2
  · exact fun p hp => by
      simp only [List.mem_cons, List.not_mem_nil, or_false] at hp
      rcases hp with rfl | rfl
      · exact x1
      · exact x2
  · intro H a ns hl _ hT hS
    exact ⟨a, ns, rfl, hS, hl, hT _ List.mem_cons_self, hT _ (List.mem_cons_of_mem _ List.mem_cons_self), fun H' s => ⟨rfl, hT.same s⟩⟩
  have TB1 : GxR.TabB base mg c1 T1 := TB (c1, T1) List.mem_cons_self
  have TB2 : GxR.TabB base mg c2 T2 := TB (c2, T2) (List.mem_cons_of_mem _ List.mem_cons_self)
  have D1 : DefTab K mg base "is_sign" s_is_sign ["thing"] T1 := defTab_mk X G a1 l1 d1 k1 ((fun_mk (st := s_is_sign) l1 d1 k1).binds (ps := ["thing"]) fun _ _ _ _ _ _ us hl => match us, hl with | [_], _ => rfl) TB1
  have D2 : DefTab K mg base "is_row" s_is_row ["thing"] T2 := defTab_mk X G a2 l2 d2 k2 ((fun_mk (st := s_is_row) l2 d2 k2).binds (ps := ["thing"]) fun _ _ _ _ _ _ us hl => match us, hl with | [_], _ => rfl) TB2
  have o_is_sign := ok_is_sign (P := l.prog) (w := w) D1 b_all b_isinstance b_len b_str m__MOST_LETTERS
  have o_is_row := ok_is_row D2 o_is_sign b_all b_isinstance b_tuple
  have o_law_text := ok_law_text (P := l.prog) (w := w) (base := base) D3 b_len b_range
  have o_law_is_sign := ok_law_is_sign (P := l.prog) (w := w) (base := base) D4 b_len
  have o_law_right := ok_law_right (P := l.prog) (w := w) (base := base) D5 b_isinstance b_bool
  exact ok_law (fun_mk (st := s_law) l6 d6 k6) o_law_text o_law_is_sign o_law_right o_is_sign o_is_row b_len b_range b_tuple b_list
end Sw
set_option Elab.async false
open PySem PySem.W PyProof.Rows
set_option maxRecDepth 100000 in
set_option maxHeartbeats 0 in
theorem PySem.Challenge.cw_soleway_k01_signs_and_rows_holds : PySem.Challenge.rw_soleway_k01_signs_and_rows.Holds := by
  w_on; o_law; k_head; (case hw => w_witness2)
  k_fill
  refine Sw.walk_ofE (l := PySem.Challenge.rw_soleway_k01_signs_and_rows) (n := 63) (k := 5) (x := "script") rfl (by decide) rfl ⟨rfl, by decide, by decide⟩ (fun w h Y => PySem.W.kIn_of Y) ?F
  case F =>
    intro w mg fa h KX G hmg own
    refine' Sw.all_mk KX G hmg own ?a1 ?l1 ?d1 ?k1 ?t1 ?u1 ?n1 ?r1 ?a2 ?l2 ?d2 ?k2 ?t2 ?u2 ?n2 ?r2 ?a3 ?l3 ?d3 ?k3 ?a4 ?l4 ?d4 ?k4 ?a5 ?l5 ?d5 ?k5 ?a6 ?l6 ?d6 ?k6 ?g__MOST_LETTERS ?z_all ?z_isinstance ?z_len ?z_str ?z_tuple ?z_list ?z_bool ?z_range
    (case a1 => k_is)
    (case l1 => k_is)
    (case d1 => k_is)
    (case k1 => k_is)
    (case t1 => k_is)
    (case u1 => first | rfl | decide +kernel | k_is)
    (case n1 => first | rfl | decide +kernel | k_is)
    (case r1 => first | rfl | decide +kernel | k_is)
    (case a2 => k_is)
    (case l2 => k_is)
    (case d2 => k_is)
    (case k2 => k_is)
    (case t2 => k_is)
    (case u2 => first | rfl | decide +kernel | k_is)
    (case n2 => first | rfl | decide +kernel | k_is)
    (case r2 => first | rfl | decide +kernel | k_is)
    (case a3 => k_is)
    (case l3 => k_is)
    (case d3 => k_is)
    (case k3 => k_is)
    (case a4 => k_is)
    (case l4 => k_is)
    (case d4 => k_is)
    (case k4 => k_is)
    (case a5 => k_is)
    (case l5 => k_is)
    (case d5 => k_is)
    (case k5 => k_is)
    (case a6 => k_is)
    (case l6 => k_is)
    (case d6 => k_is)
    (case k6 => k_is)
    (case g__MOST_LETTERS => k_is)
    (case z_all => k_is)
    (case z_isinstance => k_is)
    (case z_len => k_is)
    (case z_str => k_is)
    (case z_tuple => k_is)
    (case z_list => k_is)
    (case z_bool => k_is)
    (case z_range => k_is)
