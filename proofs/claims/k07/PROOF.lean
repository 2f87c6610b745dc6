import PyProof.Rows.All
import Wide.All
import OpenK.AllK
import Wide.FinOn
import HandS.ForMost
import HandS.TupAny
import HandS.TupMul
import HandS.RevRange
import HandS.Wide
import HandS.Style
import HandS.Flow
import HandS.AnyAll
import HandS.GenList
import HandS.Nested
import HandS.EndTab
import KE.KSuperObj
import KE.KExcSuper
import HandS.Exc
import HandS.ForExc
import HandS.TryOnly
import KE.KExcIs
import HandS.ExcIs
import HandS.ExcField
import HandS.IsInst
import HandS.ExcValue
import HandS.MakeKw
import HandS.More
import HandS.Text
import HandS.Zip
import HandS.Star
import PySem.Challenge.RW_soleway_k07_refusals_apart
set_option Elab.async false
set_option maxRecDepth 100000
set_option maxHeartbeats 4000000
namespace Sw
open PySem L2 PySem.Spec PyProof.Rows

/-! ### defs of the top -/
section
variable {P : Program} {w : World} {K : PySem.W.Frag} {mg : Str → Option Value} {base : Heap}
/-- a def of the top: it stands under its name, takes its arguments by place -/
structure DefAt (K : PySem.W.Frag) (mg : Str → Option Value) (x : Str) (st : Stmt) (ps : List Str) : Prop where
  ex : ∃ f fd, Fun K x x st f fd ∧ mg x = some (.ref f) ∧ Binds K fd ps []
/-- .. and keeps a promise -/
structure DefOk (P : Program) (w : World) (K : PySem.W.Frag) (mg : Str → Option Value) (base : Heap) (x : Str) (k : Nat) (ps : List Str) (sp : Sp) : Prop where
  ex : ∃ f fd, FnOk P w K mg base CX0 k f fd ps sp ∧ mg x = some (.ref f) ∧ PySem.W.keepIn K (.ref f) = true ∧ Binds K fd ps []
theorem DefOk.mono {x : Str} {j k : Nat} {ps : List Str} {sp : Sp} (F : DefOk P w K mg base x j ps sp) (h : j ≤ k) : DefOk P w K mg base x k ps sp := by
  obtain ⟨f, fd, a, b, c, d⟩ := F.ex
  exact ⟨f, fd, a.mono h, b, c, d⟩
theorem DefOk.imp {x : Str} {k : Nat} {ps : List Str} {sp sp' : Sp} (F : DefOk P w K mg base x k ps sp) (h : ∀ vs H Q E, sp' vs H Q E → sp vs H Q E) : DefOk P w K mg base x k ps sp' := by
  obtain ⟨f, fd, a, b, c, d⟩ := F.ex
  exact ⟨f, fd, a.imp h, b, c, d⟩
theorem DefAt.ok {x : Str} {st : Stmt} {N ps : List Str} {k : Nat} {sp : Sp} (F : DefAt K mg x st ps) (S : FnScope N ps (defScope st)) (len : ∀ vs H Q E, sp vs H Q E → vs.length = ps.length)
    (hbody : ∀ (f : Addr) (cdv : Value) (A : Around) (outer : List Env) (s : Shared) (H : Hp) (vs : List V) (Q : VK) (E : XK), Room k (A.deeper (envOfC x (defScope st) s.heap.objs.size f cdv)) → sp vs H Q E →
      ∃ t, PSs (cxOf CX0 P w K mg base N x (defScope st) f cdv A outer s H E).nox (defBody st) t ∧ t { nx := fun _ H' => Q .non H', rt := Q } (start N vs) H) : DefOk P w K mg base x (k + 1) ps sp := by
  obtain ⟨f, fd, h1, h2, h3⟩ := F.ex
  exact ⟨f, fd, h1.ok S len (fun cdv A outer s H vs Q E hr hs => hbody f cdv A outer s H vs Q E hr hs), h2, h1.kp, h3⟩
end
section
variable {X : Cx} {x : Str} {k : Nat} {ps : List Str} {sp : Sp} {e : Expr} {es : List Expr} {t : TA} {p pos : Pos}
theorem pe_callD (F : DefOk X.prog X.w X.K X.mg X.base x k ps sp) (hr : Room k X.A) (hg : Gl X x) (ha : PA X (e :: es) t) (hx : Passes CX0 X E0 := by exact pass0) (hdb : (x == ("__debug__" : Str)) = false := by decide)
    (he : starEach (e :: es) X.env = (false, eval e X.env) :: starEach es X.env := by rfl) (hpl : (backTo pos (starEach es X.env)).any (·.1) = false := by rfl) : PE X (.Call (.Name x p) (e :: es) [] pos) (tCall sp [] E0 t) := by
  obtain ⟨f, fd, a, b, c, d⟩ := F.ex
  exact pe_call a hr hg b c d .nil hx ha hdb he hpl
end

/-! ### heaps -/
theorem _root_.L2.Same.new {H : Hp} {p : Addr} {o : HO} (h : H p = none) : Same H (upd H p o) := fun b u q => by rw [upd_ne (ne_of_none q h)]; exact q
/-- what was not there may be written again -/
theorem _root_.L2.Same.mut {H H' : Hp} {p : Addr} {o : HO} (e : Same H H') (h : H p = none) : Same H (upd H' p o) := fun a u ha => by
  rw [upd_ne (ne_of_none ha h)]
  exact e a u ha
theorem _root_.L2.Same.rd {H H' : Hp} {a : Addr} {u : HO} (e : Same H H') (h : Rd H a u) : Rd H' a u := by
  rcases h with h | ⟨o, h⟩
  · exact Or.inl (e a _ h)
  · exact Or.inr ⟨o, e a _ h⟩
theorem _root_.L2.Same.sqT {K : PySem.W.Frag} {H H' : Hp} {a : Addr} {xs : List V} (e : Same H H') (h : SqT K H a xs) : SqT K H' a xs := by
  rcases h with h | h
  · exact Or.inl (e.rd h)
  · exact Or.inr h
theorem sT {K : PySem.W.Frag} {H : Hp} {a : Addr} {xs : List V} (h : H a = some (.tup xs)) : SqT K H a xs := Or.inl (Or.inl h)
theorem sL {K : PySem.W.Frag} {H : Hp} {a : Addr} {xs : List V} (h : H a = some (.lst xs)) : SqL K H a xs := Or.inl (Or.inl h)
/-- all but the object at p is as it was -/
def But (p : Addr) (H H' : Hp) : Prop := ∀ b o, H b = some o → b ≠ p → H' b = some o
theorem But.of {p : Addr} {H H' : Hp} (h : Same H H') : But p H H' := fun b o e _ => h b o e
theorem But.trans {p : Addr} {H H1 H2 : Hp} (a : But p H H1) (b : But p H1 H2) : But p H H2 := fun c o e n => b c o (a c o e n) n
theorem But.refl {p : Addr} {H : Hp} : But p H H := fun _ _ e _ => e
theorem But.upd {p : Addr} {H H' : Hp} {o : HO} (a : But p H H') : But p H (upd H' p o) := fun b u e n => by rw [upd_ne n]; exact a b u e n
theorem But.same {p : Addr} {H H' : Hp} (a : But p H H') (h : H p = none) : Same H H' := fun b o e => a b o e (ne_of_none e h)
theorem But.free {p q : Addr} {H H' : Hp} (a : But p H H') (h : H' q = none) (n : q ≠ p) : H q = none := by
  cases e : H q with
  | none => rfl
  | some o =>
    rw [a q o e n] at h
    cases h

/-! ### data in the heap -/
mutual
theorem dpSame {K : PySem.W.Frag} {H H' : Hp} (s : ∀ a u, (∃ xs, u = HO.lst xs ∨ u = HO.tup xs) → Rd H a u → Rd H' a u) : ∀ (d : PyData) (v : V), Dp K H v d → Dp K H' v d
  | .none, _, h => by cases h; exact .non
  | .bool b, _, h => by cases h; exact .bl b
  | .int i, _, h => by cases h; exact .int i
  | .str x, _, h => by cases h; exact .str x
  | .list ds, _, h => by
    cases h with
    | lst h1 h2 =>
      refine .lst ?_ (dpAllSame s ds _ h2)
      rcases h1 with h1 | h1
      · exact .inl (s _ _ ⟨_, .inl rfl⟩ h1)
      · exact .inr h1
  | .tuple ds, _, h => by
    cases h with
    | tup h1 h2 =>
      refine .tup ?_ (dpAllSame s ds _ h2)
      rcases h1 with h1 | h1
      · exact .inl (s _ _ ⟨_, .inr rfl⟩ h1)
      · exact .inr h1
  | .dict _, _, h => by cases h
theorem dpAllSame {K : PySem.W.Frag} {H H' : Hp} (s : ∀ a u, (∃ xs, u = HO.lst xs ∨ u = HO.tup xs) → Rd H a u → Rd H' a u) : ∀ (ds : List PyData) (vs : List V), DpAll K H vs ds → DpAll K H' vs ds
  | [], _, h => by cases h; exact .nil
  | d :: ds, _, h => by
    cases h with
    | cons h1 h2 => exact .cons (dpSame s d _ h1) (dpAllSame s ds _ h2)
end
theorem dpS {K : PySem.W.Frag} {H H' : Hp} (s : Same H H') {d : PyData} {v : V} (h : Dp K H v d) : Dp K H' v d := dpSame (fun _ _ _ r => s.rd r) d v h
theorem dpsS {K : PySem.W.Frag} {H H' : Hp} (s : Same H H') {ds : List PyData} {vs : List V} (h : DpAll K H vs ds) : DpAll K H' vs ds := dpAllSame (fun _ _ _ r => s.rd r) ds vs h
/-- a thing that is no list and no tuple may change -/
theorem dpB {K : PySem.W.Frag} {H H' : Hp} {p : Addr} (s : But p H H') (hp : ∀ u, Rd H p u → ∀ xs, u ≠ .lst xs ∧ u ≠ .tup xs) {d : PyData} {v : V} (h : Dp K H v d) : Dp K H' v d := by
  refine dpSame (fun a u hu r => ?_) d v h
  obtain ⟨xs, hu⟩ := hu
  have n : a ≠ p := by
    rintro rfl
    have := hp u r xs
    rcases hu with e | e
    · exact this.1 e
    · exact this.2 e
  rcases r with r | ⟨o, r⟩
  · exact .inl (s _ _ r n)
  · exact .inr ⟨o, s _ _ r n⟩
theorem dpsLen {K : PySem.W.Frag} {H : Hp} : ∀ {vs : List V} {ds : List PyData}, DpAll K H vs ds → vs.length = ds.length
  | [], _, h => by cases h; rfl
  | _ :: _, _, h => by cases h with | cons _ t => simp [dpsLen t]
theorem dpsAt {K : PySem.W.Frag} {H : Hp} : ∀ {vs : List V} {ds : List PyData} {i : Nat} {d : PyData}, DpAll K H vs ds → ds[i]? = some d → ∃ v, vs[i]? = some v ∧ Dp K H v d
  | [], _, i, d, h, e => by cases h; simp at e
  | v :: vs, _, i, d, h, e => by
    cases h with
    | cons h1 h2 =>
      cases i with
      | zero => simp at e; subst e; exact ⟨v, rfl, h1⟩
      | succ i => simp at e; obtain ⟨u, e1, e2⟩ := dpsAt h2 e; exact ⟨u, by simpa using e1, e2⟩
theorem dpsAtV {K : PySem.W.Frag} {H : Hp} : ∀ {vs : List V} {ds : List PyData} {i : Nat} {v : V}, DpAll K H vs ds → vs[i]? = some v → ∃ d, ds[i]? = some d ∧ Dp K H v d
  | [], _, i, v, h, e => by simp at e
  | v :: vs, _, i, u, h, e => by
    cases h with
    | cons h1 h2 =>
      cases i with
      | zero => simp at e; subst e; exact ⟨_, rfl, h1⟩
      | succ i => simp at e; obtain ⟨u, e1, e2⟩ := dpsAtV h2 e; exact ⟨u, by simpa using e1, e2⟩
theorem dpsApp {K : PySem.W.Frag} {H : Hp} : ∀ {vs us : List V} {ds es : List PyData}, DpAll K H vs ds → DpAll K H us es → DpAll K H (vs ++ us) (ds ++ es)
  | [], _, _, _, h, g => by cases h; exact g
  | _ :: _, _, _, _, h, g => by cases h with | cons h1 h2 => exact .cons h1 (dpsApp h2 g)
/-- a tuple's data by its items -/
theorem dpTup {K : PySem.W.Frag} {H : Hp} {v : V} {ds : List PyData} (h : Dp K H v (.tuple ds)) : ∃ a xs, v = .ref a ∧ SqT K H a xs ∧ DpAll K H xs ds := by
  cases h with
  | tup h1 h2 => exact ⟨_, _, rfl, h1, h2⟩
theorem dpLst {K : PySem.W.Frag} {H : Hp} {v : V} {ds : List PyData} (h : Dp K H v (.list ds)) : ∃ a xs, v = .ref a ∧ SqL K H a xs ∧ DpAll K H xs ds := by
  cases h with
  | lst h1 h2 => exact ⟨_, _, rfl, h1, h2⟩
theorem dpStr {K : PySem.W.Frag} {H : Hp} {v : V} {x : Str} (h : Dp K H v (.str x)) : v = .str x := by cases h; rfl
theorem dpInt {K : PySem.W.Frag} {H : Hp} {v : V} {x : Int} (h : Dp K H v (.int x)) : v = .int x := by cases h; rfl
theorem dpNone {K : PySem.W.Frag} {H : Hp} {v : V} (h : Dp K H v .none) : v = .non := by cases h; rfl
theorem dpNil {K : PySem.W.Frag} {H : Hp} {vs : List V} (h : DpAll K H vs []) : vs = [] := by cases h; rfl
theorem dpCons {K : PySem.W.Frag} {H : Hp} {vs : List V} {d : PyData} {ds : List PyData} (h : DpAll K H vs (d :: ds)) : ∃ v us, vs = v :: us ∧ Dp K H v d ∧ DpAll K H us ds := by
  cases h with
  | cons h1 h2 => exact ⟨_, _, rfl, h1, h2⟩

/-! ### forms -/
inductive Fm where
  | sign (s : Str)
  | row (ps : List Fm)
  | pick (ps : List Fm)
  | times (p : Fm) (low : Nat) (high : Option Nat)
def highD : Option Nat → PyData
  | none => .none
  | some h => .int h
def highV : Option Nat → V
  | none => .non
  | some h => .int h
theorem dpHigh {K : PySem.W.Frag} {H : Hp} {v : V} {o : Option Nat} (h : Dp K H v (highD o)) : v = highV o := by
  cases o with
  | none => exact dpNone h
  | some n => exact dpInt h
theorem highDp {K : PySem.W.Frag} {H : Hp} (o : Option Nat) : Dp K H (highV o) (highD o) := by
  cases o with
  | none => exact .non
  | some n => exact .int _
mutual
def Fm.dat : Fm → PyData
  | .sign s => .tuple [.str "sign", .str s]
  | .row ps => .tuple [.str "row", .tuple (Fm.dats ps)]
  | .pick ps => .tuple [.str "pick", .tuple (Fm.dats ps)]
  | .times p low high => .tuple [.str "times", p.dat, .int low, highD high]
def Fm.dats : List Fm → List PyData
  | [] => []
  | p :: ps => p.dat :: Fm.dats ps
end
theorem Fm.dats_map : ∀ ps : List Fm, Fm.dats ps = ps.map Fm.dat
  | [] => rfl
  | p :: ps => by rw [Fm.dats, Fm.dats_map ps, List.map_cons]
def Fm.kind : Fm → Str
  | .sign _ => "sign"
  | .row _ => "row"
  | .pick _ => "pick"
  | .times _ _ _ => "times"
def Fm.parts : Fm → List Fm
  | .sign _ => []
  | .row ps => ps
  | .pick ps => ps
  | .times p _ _ => [p]
abbrev FmAt (K : PySem.W.Frag) (H : Hp) (v : V) (f : Fm) : Prop := Dp K H v f.dat
abbrev FmsAt (K : PySem.W.Frag) (H : Hp) (vs : List V) (fs : List Fm) : Prop := DpAll K H vs (Fm.dats fs)
/-- every form is a tuple that begins with its kind -/
theorem fmTup {K : PySem.W.Frag} {H : Hp} {v : V} {f : Fm} (h : FmAt K H v f) : ∃ a xs, v = .ref a ∧ SqT K H a (.str f.kind :: xs) := by
  cases f with
  | sign s => obtain ⟨a, xs, rfl, h1, h2⟩ := dpTup h; obtain ⟨v, us, rfl, e, _⟩ := dpCons h2; cases dpStr e; exact ⟨a, us, rfl, h1⟩
  | row s => obtain ⟨a, xs, rfl, h1, h2⟩ := dpTup h; obtain ⟨v, us, rfl, e, _⟩ := dpCons h2; cases dpStr e; exact ⟨a, us, rfl, h1⟩
  | pick s => obtain ⟨a, xs, rfl, h1, h2⟩ := dpTup h; obtain ⟨v, us, rfl, e, _⟩ := dpCons h2; cases dpStr e; exact ⟨a, us, rfl, h1⟩
  | times s l u => obtain ⟨a, xs, rfl, h1, h2⟩ := dpTup h; obtain ⟨v, us, rfl, e, _⟩ := dpCons h2; cases dpStr e; exact ⟨a, us, rfl, h1⟩
theorem fmSign {K : PySem.W.Frag} {H : Hp} {v : V} {s : Str} (h : FmAt K H v (.sign s)) : ∃ a, v = .ref a ∧ SqT K H a [.str "sign", .str s] := by
  obtain ⟨a, xs, rfl, h1, h2⟩ := dpTup h; obtain ⟨v, us, rfl, e, h3⟩ := dpCons h2; cases dpStr e
  obtain ⟨v, us, rfl, e, h4⟩ := dpCons h3; cases dpStr e; cases dpNil h4; exact ⟨a, rfl, h1⟩
theorem fmRow {K : PySem.W.Frag} {H : Hp} {v : V} {ps : List Fm} (h : FmAt K H v (.row ps)) : ∃ a b vs, v = .ref a ∧ SqT K H a [.str "row", .ref b] ∧ SqT K H b vs ∧ FmsAt K H vs ps := by
  obtain ⟨a, xs, rfl, h1, h2⟩ := dpTup h; obtain ⟨v, us, rfl, e, h3⟩ := dpCons h2; cases dpStr e
  obtain ⟨v, us, rfl, e, h4⟩ := dpCons h3; obtain ⟨b, vs, rfl, h5, h6⟩ := dpTup e; cases dpNil h4; exact ⟨a, b, vs, rfl, h1, h5, h6⟩
theorem fmPick {K : PySem.W.Frag} {H : Hp} {v : V} {ps : List Fm} (h : FmAt K H v (.pick ps)) : ∃ a b vs, v = .ref a ∧ SqT K H a [.str "pick", .ref b] ∧ SqT K H b vs ∧ FmsAt K H vs ps := by
  obtain ⟨a, xs, rfl, h1, h2⟩ := dpTup h; obtain ⟨v, us, rfl, e, h3⟩ := dpCons h2; cases dpStr e
  obtain ⟨v, us, rfl, e, h4⟩ := dpCons h3; obtain ⟨b, vs, rfl, h5, h6⟩ := dpTup e; cases dpNil h4; exact ⟨a, b, vs, rfl, h1, h5, h6⟩
theorem fmTimes {K : PySem.W.Frag} {H : Hp} {v : V} {p : Fm} {low : Nat} {high : Option Nat} (h : FmAt K H v (.times p low high)) : ∃ a u, v = .ref a ∧ SqT K H a [.str "times", u, .int low, highV high] ∧ FmAt K H u p := by
  obtain ⟨a, xs, rfl, h1, h2⟩ := dpTup h; obtain ⟨v, us, rfl, e, h3⟩ := dpCons h2; cases dpStr e
  obtain ⟨u, us, rfl, e, h4⟩ := dpCons h3
  obtain ⟨v, us, rfl, e2, h5⟩ := dpCons h4; cases dpInt e2
  obtain ⟨v, us, rfl, e3, h6⟩ := dpCons h5; cases dpHigh e3; cases dpNil h6
  exact ⟨a, u, rfl, h1, e⟩
end Sw
set_option Elab.async false
set_option maxRecDepth 100000
set_option maxHeartbeats 4000000
namespace Sw
open PySem L2 PySem.Spec PyProof.Rows GenW
/-! ### any, all of a generator expression, its element of any kind -/
/-- a code object's table: it may grow -/
def TabE (P : Addr) : HO := .ext fun h => ∃ ps : Array Value, h.get? P = some { cls := .none, data := .fields ps } ∧ TriplesOk ps.toList
section
variable {X : Cx} {pins : List (Addr × Obj)} {σ : L2.St} {H : Hp} {s : Shared}
theorem tabE_ok {P : Program} {w : World} {h : Heap} {a : Addr} {ps : Array Value} (e : h.get? a = some { cls := .none, data := .fields ps }) (t : TriplesOk ps.toList) : ObjOk P w H h a (TabE a) :=
  ⟨⟨ps, e, t⟩, ⟨_, e⟩, fun _ _ ⟨ps, q, t⟩ k => ⟨ps, k _ q, t⟩⟩
theorem inv_tabE {P : Addr} {ps' : Array Value} {h' : Heap} {tk : Nat} (I : Inv X pins σ H s) (hP : H P = some (TabE P)) (k : ∀ b o, b ≠ P → s.heap.get? b = some o → h'.get? b = some o)
    (hm : h'.get? P = some { cls := .none, data := .fields ps' }) (ht : TriplesOk ps'.toList) : Inv X pins σ H { s with heap := h', toks := tk } := by
  have nN : ∀ b, H b = none → b ≠ P := fun b e z => by
    rw [z, hP] at e
    cases e
  have nO : ∀ b x, H b = some (.own x) → b ≠ P := fun b x e z => by
    rw [z, hP] at e
    cases e
  refine I.step (g' := s.gens) (d' := s.drawn) (ch := []) (fun b hb => absurd hb (by simp)) (fun b o _ _ _ e n => k b o (nN b n) e) (fun b o _ _ _ e n => ⟨o.slots, k b o (nN b n) e⟩) (fun _ _ _ _ n => n) (fun b o _ e => ?_)
    (fun _ _ e => e) (fun _ _ _ e => e) (fun b ps e => ⟨#[], by rw [e]; simp⟩) (fun m hn => ?_) (fun b u e => ?_) I.bare
  · by_cases hb : b = P
    · rw [hb]
      exact ⟨_, hm⟩
    · exact ⟨o, k b o hb e⟩
  · obtain ⟨ob, es, ep, ho, r⟩ := hn
    exact ⟨ob, es, ep, k _ ob (nN _ I.free) ho, r⟩
  · by_cases hb2 : b = P
    · subst hb2
      rw [hP] at e
      cases e
      exact tabE_ok hm ht
    · refine (I.hok b u e).stay (fun d v hd q => k d v ?_ q) (fun _ q => q) fun _ _ q => q
      rcases hd with z | z
      · rw [z]
        exact hb2
      · exact nO d _ z
theorem gen_code {M : Model} {A : Around} {E : Value → Shared → Prop} {c P : Addr} {gpos : Pos} {qual : Str} {scope : Scope} {Q : Value → Shared → Prop} (I : Inv X pins σ H s) (TB : GxR.TabB X.base X.mg c P) (hcode : X.env.code = .ref c) (hP : H P = some (TabE P))
    (hQ : ∀ code h' tk, Inv X pins σ H { s with heap := h', toks := tk } → (∀ b o, b ≠ P → s.heap.get? b = some o → h'.get? b = some o) → s.heap.objs.size ≤ h'.objs.size → Q code { s with heap := h', toks := tk }) :
    wpAny M A (genexprCode X.env gpos qual scope) Q E s := by
  obtain ⟨⟨ps, e, ht⟩, _⟩ := I.hok P _ hP
  have cd : PySem.W.CodeHd s.heap c P := TB.code.keeps fun b u e => I.bk b u e
  cases hf : codeAmong gpos ps.toList with
  | none =>
    refine wpAny_genexprCodeX hcode (cd.code e ht) (cd.tab e) hf fun c' h' tk hx hge hlt hco' _ htab' _ => ?_
    obtain ⟨o1, vs, f1, tf, fl, tg, inF, tx, tt, op, _, _, _, _, _, _, _, _, _, htr, _⟩ := hco'
    exact hQ _ h' tk (inv_tabE I hP hx htab'.2 htr) hx (Nat.le_trans hge (Nat.le_of_lt hlt))
  | some cv =>
    refine wpAny_genexprCode_hit hcode (cd.code e ht) hf ?_
    exact hQ cv s.heap s.toks I (fun _ _ _ q => q) (Nat.le_refl _)
/-! ### the frame -/
abbrev genv (X : Cx) (scope : Scope) (C : Addr) (code : Value) : Env := genEnv scope (cloFrom X.env.cells scope.names []) C code builtinsNs X.env
abbrev _root_.L2.Cx.gen (X : Cx) (s : Shared) (H : Hp) (scope : Scope) (C : Addr) (code : Value) (A' : Around) (fp : List Addr) (pn : List (Addr × Obj)) : Cx :=
  { X with A := A', s_0 := s, H_0 := H, env := genv X scope C code, outer := X.stack, stack := genv X scope C code :: X.stack, ex := fp, fn := fun _ => false, calm := true, pn := pn, xe := fun _ _ => False }
structure GenSc (scope : Scope) : Prop where
  co : (scope.isCoroutine : Bool) = false
  cell : ∀ nk ∈ scope.names, nk.2 ≠ NameKind.cell
  dot : scope.names.lookup (".0" : Str) = some (.local : NameKind)
theorem gen_start {scope : Scope} {own : List (Str × Nat)} {fp : List Addr} {pn : List (Addr × Obj)} {C : Addr} {code : Value} {A' : Around} {s' : Shared} {m : Str → Option Value} (I : Inv X pins σ H s) (ok : BlkOk X.N X.env.scope scope own) (G : GenSc scope) (hN : X.N.Nodup)
    (hfp : ∀ b ∈ fp, FpOk X pins H b ∧ b < s.heap.objs.size) (hC : s.heap.objs.size ≤ C) (hA : A'.handled = none) (hF : A'.frames = some (genv X scope C code :: X.stack))
    (hos : s'.os = s.os) (hb : AllBare s'.gens) (k : ∀ b o, s.heap.get? b = some o → s'.heap.get? b = some o) (hn : s'.heap.Ns C m)
    (hpn : ∀ p ∈ pn, s'.heap.get? p.1 = some p.2 ∧ s.heap.objs.size ≤ p.1 ∧ p.1 ≠ C ∧ ∀ v, p.2.data ≠ .cell v) :
    Inv (X.gen s H scope C code A' fp pn) [] (wipe σ (own.map (·.2))) H s' := by
  have hCap : ∀ y ∈ scope.names, y.2 = .free → ∃ c, X.env.cells.lookup y.1 = some c := fun y hy e => by
    rcases ok.free y hy e with k | k
    · exact I.ok.has _ (.inl k)
    · exact I.ok.has _ (.inr k)
  have cm : ∀ {y c}, (cloFrom X.env.cells scope.names []).lookup y = some c → X.env.cells.lookup y = some c := fun {y c} e => NdefX.clo_cm hCap e
  have clt : ∀ {y c}, X.env.cells.lookup y = some c → c < s.heap.objs.size := fun {y c} e => by
    obtain ⟨w, z⟩ := I.cell _ _ e
    exact z.lt
  have okG : (X.gen s H scope C code A' fp pn).Ok := by
    refine ⟨I.ok.mod, ok.kind, I.ok.glob, rfl, hC, fun y z c e1 e2 => I.ok.inj y z c (cm e1) (cm e2), fun y hy => ?_, fun y c z => (by cases z), fun _ => hA, hF, .inr ⟨rfl, rfl⟩, fun b hb => ⟨?_, fun y c e z => ?_⟩, I.bs, Nat.le_trans I.ok.bsz I.sz, fun b o e hb => ?_, fun b hb z => ?_, I.stack, I.stkFree⟩
    · have hy : scope.names.lookup y = some .cell ∨ scope.names.lookup y = some .free := hy
      rcases hy with hy | hy
      · exact absurd rfl (G.cell _ (PySem.mem_of_lookup hy))
      · obtain ⟨c, hc⟩ := hCap _ (PySem.mem_of_lookup hy) rfl
        exact ⟨c, NdefX.clo_has hCap (PySem.mem_of_lookup hy) hc⟩
    · exact Nat.ne_of_lt (Nat.lt_of_lt_of_le (hfp b hb).2 hC)
    · exact (hfp b hb).1.2.2.2.2.1 y c (cm e) z
    · rcases (hfp b hb).1.2.2.2.1 with z | z
      · exact I.ok.noex b o e z
      · exact absurd (Nat.lt_of_lt_of_le (Heap.lt_size e) (Nat.le_trans I.ok.bsz z)) (Nat.lt_irrefl _)
    · rcases List.mem_cons.mp (I.stkSub b z) with z | z
      · exact (hfp b hb).1.2.1 z
      · exact (hfp b hb).1.2.2.1 z
  refine ⟨okG, hos, hb, Un.kept k, ⟨m, hn, fun i y av e1 e2 e3 => ?_⟩, fun y c e => ?_, I.hok.fresh hC, fun y c e => I.freeC y c (cm e), fun p hp => ?_, I.hok.kept k, by rw [wipe_length]; exact I.len⟩
  · obtain ⟨e2, hne⟩ := wipe_some e2
    have no : ∀ kd, scope.names.lookup y = some kd → ¬ (kd = .local ∨ kd = .cell) := fun kd e hh => by
      rcases ok.own _ (PySem.mem_of_lookup e) hh with e' | e'
      · obtain ⟨p, hp, hpy⟩ := List.mem_map.mp e'
        have e3 := ok.ix p hp
        have : p.1 = y := hpy
        rw [this] at e3
        exact hne (List.mem_map.mpr ⟨p, hp, nodup_ix hN e3 e1⟩)
      · exact e' (List.mem_of_getElem? e1)
    have e3 : Vis scope y := e3
    have hfr : scope.names.lookup y = some .free := by
      rcases e3 with e3 | e3 | e3
      · exact absurd (.inl rfl) (no _ e3)
      · exact absurd (.inr rfl) (no _ e3)
      · exact e3
    obtain ⟨m0, hn0, hl⟩ := I.loc
    have hsc := ok.free _ (PySem.mem_of_lookup hfr) rfl
    have hVs : Vis X.env.scope y := hsc.elim (fun k => .inr (.inl k)) (fun k => .inr (.inr k))
    obtain ⟨w, r, q⟩ := hl i y av e1 e2 hVs
    refine ⟨w, r, .inr ⟨.inr hfr, ?_⟩⟩
    rcases q with ⟨kk, _⟩ | ⟨_, c', e', z⟩
    · have kk : X.env.scope.names.lookup y = some .local := kk
      rcases hsc with k1 | k1 <;> rw [show X.env.scope.names.lookup y = _ from k1] at kk <;> cases kk
    · exact ⟨c', NdefX.clo_has hCap (PySem.mem_of_lookup hfr) e', z.keeps k⟩
  · obtain ⟨w, z⟩ := I.cell y c (cm e)
    exact ⟨w, z.keeps k⟩
  · have hp : p ∈ pn := by simpa using hp
    obtain ⟨h1, h2, h3, h4⟩ := hpn p hp
    refine ⟨h1, I.hok.fresh h2, h3, fun z => ?_, h4⟩
    rcases List.mem_cons.mp (I.stkSub p.1 z) with z | z
    · exact absurd I.lt (by rw [← z]; exact Nat.not_lt.mpr h2)
    · exact I.nofs h2 z
end
end Sw
set_option Elab.async false
set_option maxRecDepth 100000
set_option maxHeartbeats 4000000
namespace Sw
open PySem L2 PySem.Spec PyProof.Rows GenW
/-! ### the generator's turns -/
/-- behind what the consumer does meanwhile: all objects stand, generators and tokens may have changed -/
theorem inv_later {X : Cx} {pins : List (Addr × Obj)} {σ : L2.St} {H : Hp} {s s' : Shared} (I : Inv X pins σ H s) (k : ∀ b o, s.heap.get? b = some o → s'.heap.get? b = some o) (hos : s'.os = s.os) (hb : AllBare s'.gens) : Inv X pins σ H s' :=
  I.call' (ch := []) hos (Un.kept k) (I.hok.kept k) hb fun b hb => absurd hb (by simp)
section
variable {X : Cx} {tg elt iter : Expr} {scope : Scope} {pos : Pos} {it : Addr}
abbrev genC (tg elt iter : Expr) (scope : Scope) (pos : Pos) (it : Addr) (env : Env) : Code := .compLoop (.GeneratorExp elt [⟨tg, iter, [], 0⟩] scope pos) 0 (.ref it) .none env
abbrev genS (tg elt iter : Expr) (scope : Scope) (pos : Pos) (it : Addr) (env : Env) : Code := .compStart (.GeneratorExp elt [⟨tg, iter, [], 0⟩] scope pos) 0 (.ref it) .none env
/-- at its end -/
def RG (X : Cx) (QT : Hp → Prop) : Nat → Shared → Shared → Prop := fun _ _ s₁ => ∃ σc H, Inv X [] σc H s₁ ∧ QT H
/-- a truth is handed out; if it is go, it may be asked on -/
def YG (X : Cx) (go : Bool) (QF : Hp → Prop) : Protocol := fun _ _ v s kap => ∃ b σc H, v = .bool b ∧ Inv X [] σc H s ∧ (b = !go → QF H) ∧
  (b = go → ∀ s'', (∀ b o, s.heap.get? b = some o → s''.heap.get? b = some o) → s''.os = s.os → AllBare s''.gens → kap (.send .none) s'')
/-- what a generator expression's walk asks: go the truth by which its consumer goes on -/
def GWalk (go : Bool) (J : It) (g : TG) (te : TE) (σ0 : L2.St) (vs : List Nat) (QT QF : Hp → Prop) (W : Nat → Nat → Hp → Prop) : Prop := ∀ i m H, W i m H →
  (J.stop i H ∧ QT H) ∨ (J.go i H ∧ ∃ Nx : Hp → Prop, (∀ H', Nx H' → ∃ m', m' < m ∧ W (i + 1) m' H') ∧ ∀ x H', J.yld i H x H' → g x σ0 H' fun σ2 H2 => wipe σ2 vs = σ0 ∧ te σ2 H2 fun y H3 => ∃ b, y = .bl b ∧ if b = go then Nx H3 else QF H3)
theorem seg_turns {A : Around} {fp : List Addr} {tn : Nat → Heap → Prop} {J : It} {g : TG} {te : TE} {go : Bool} {σ0 : L2.St} {vs : List Nat} {QT QF : Hp → Prop} {W : Nat → Nat → Hp → Prop}
    (hA : A.over (genC tg elt iter scope pos it X.env) [] = X.A) (hc : X.calm = true) (hx : X.xe = fun _ _ => False) (hco : X.env.scope.isCoroutine = false) (hex : ∀ b ∈ fp, b ∈ X.ex ∧ b ≠ X.env.locals ∧ b ∉ X.fs ∧ (∀ x c, X.env.cells.lookup x = some c → c ≠ b) ∧ ∀ p ∈ X.pn, p.1 ≠ b)
    (T : Turn X.prog X.w X.K tg J fp it tn) (hg : PG X tg g) (he : PE X elt te) (hw : ∀ σ : L2.St, wipe (wipe σ vs) vs = wipe σ vs) (turn : GWalk go J g te σ0 vs QT QF W) :
    ∀ (n m i : Nat) (σc : L2.St) (H : Hp) (s₀ s : Shared), m < n → W i m H → Inv X [] σc H s → wipe σc vs = σ0 → tn i s.heap → (∀ b ∈ fp, H b = none) →
      Seg (model X.prog X.w) A (fun n s₀ r s₁ => r = .ok .next ∧ RG X QT n s₀ s₁) (YG X go QF) n s₀ (genC tg elt iter scope pos it X.env) ((model X.prog X.w).den (genC tg elt iter scope pos it X.env)) [] s := by
  intro n
  induction n with
  | zero => intro m i σc H s₀ s h; exact absurd h (Nat.not_lt_zero _)
  | succ n ih =>
    intro m i σc H s₀ s hm w0 I hσ st fr
    have stat : ∀ {H' : Hp}, (∀ b ∈ fp, H' b = none) → ∀ b ∈ fp, FpOk X [] H' b := fun {H'} hn b hb => by
      obtain ⟨h1, h2, h3, h4, h5⟩ := hex b hb
      exact ⟨hn b hb, h2, h3, .inl h1, h4, fun p hp => h5 p (by simpa using hp)⟩
    have I0 : Inv X [] σ0 H s := I.weak (by rw [← hσ, wipe_length]) fun i v e => by rw [← hσ] at e; exact (wipe_some e).1
    show Seg _ A _ _ _ s₀ _ ((compTurn (.GeneratorExp elt [⟨tg, iter, [], 0⟩] scope pos) 0 (.ref it) .none X.env).onRaise (leaving X.env)) [] s
    rw [compTurn_gen, Sem.onRaise_eq_wrap]
    refine seg_bind_wrap (wpAny_standAt ?_)
    rcases turn i m H w0 with ⟨stop, qt⟩ | ⟨hgo, Nx, hN, step⟩
    · refine seg_bind_wrap ?_
      rw [hA]
      refine thn (T.done X rfl rfl rfl hc i [] s σ0 H _ I0 (stat fr) st stop) fun r s1 ⟨hr, I1⟩ => ?_
      subst hr
      exact seg_end (.ok .next) ⟨rfl, σ0, H, I1, qt⟩
    · refine seg_bind_wrap ?_
      rw [hA]
      refine thn (T.item X rfl rfl rfl hc i [] s σ0 H _ I0 (stat fr) st hgo) fun r s1 ⟨u, hr, h1⟩ => ?_
      subst hr
      refine seg_bind_wrap ?_
      rw [hA]
      refine thn h1 fun _ s2 ⟨x, H2, I2, r2, y2, st2, fr2⟩ => ?_
      have I2' := I2.pinned (stat fr2) (T.obj _ _ st2)
      refine seg_bind_wrap ?_
      rw [hA]
      have h3 := hg.run _ s2 σ0 H2 x u _ I2' r2 (step x H2 y2)
      rw [hx] at h3
      refine thnF h3 fun _ s3 ⟨σ3, H3, I3, w3, q3⟩ => ?_
      refine seg_bind_wrap ?_
      rw [List.forIn_nil]
      refine wpAny_pure ?_
      simp only [if_true]
      have hy : ∀ v, yieldOut X.env v = yieldValue v := fun v => by simp only [yieldOut, hco, Bool.false_eq_true, if_false]
      simp only [hy]
      rw [Sem.bind_eq_wrap', Sem.bind_eq_wrap', Sem.wrap_wrap, Sem.wrap_wrap]
      refine seg_wrap ?_
      rw [hA]
      have h4 := he.run _ s3 σ3 H3 _ I3 q3
      rw [hx] at h4
      refine thnF h4 fun v s4 ⟨y, H4, I4, r4, b, ey, q4⟩ => ?_
      subst ey
      obtain rfl : v = Value.bool b := r4
      have fr4 : ∀ b ∈ fp, H4 b = none := fun b hb => by
        obtain ⟨o, e, d⟩ := T.obj _ _ st2 b hb
        exact (I4.pin (b, o) (List.mem_append_right _ (List.mem_append_right _ (mem_pinsAt hb e)))).2.1
      have kp4 : ∀ b ∈ fp, ∀ o, s2.heap.get? b = some o → s4.heap.get? b = some o := fun b hb o e => (I4.pin (b, o) (List.mem_append_right _ (List.mem_append_right _ (mem_pinsAt hb e)))).1
      have I4' := I4.unpinned
      refine seg_at (seg_yield rfl rfl rfl ⟨b, σ3, H4, rfl, I4', fun hb => ?_, fun hb s'' k hos hbr => ?_⟩)
      · rw [if_neg (by rw [hb]; cases go <;> decide)] at q4
        exact q4
      · rw [if_pos hb] at q4
        obtain ⟨m', hm', w4⟩ := hN H4 q4
        refine seg_again rfl (ih m' (i + 1) σ3 H4 s'' s'' (by omega) w4 (inv_later I4' k hos hbr) w3 (T.keep _ _ _ st2 fun b hb o e => k b o (kp4 b hb o e)) fr4)
/-- .. begun -/
theorem seg_begin {A : Around} {fp : List Addr} {tn : Nat → Heap → Prop} {J : It} {g : TG} {te : TE} {go : Bool} {σ0 : L2.St} {vs : List Nat} {QT QF : Hp → Prop} {W : Nat → Nat → Hp → Prop}
    (hA : A.over (genC tg elt iter scope pos it X.env) [] = X.A) (hc : X.calm = true) (hx : X.xe = fun _ _ => False) (hco : X.env.scope.isCoroutine = false) (hex : ∀ b ∈ fp, b ∈ X.ex ∧ b ≠ X.env.locals ∧ b ∉ X.fs ∧ (∀ x c, X.env.cells.lookup x = some c → c ≠ b) ∧ ∀ p ∈ X.pn, p.1 ≠ b)
    (T : Turn X.prog X.w X.K tg J fp it tn) (hg : PG X tg g) (he : PE X elt te) (hw : ∀ σ : L2.St, wipe (wipe σ vs) vs = wipe σ vs) (turn : GWalk go J g te σ0 vs QT QF W)
    (n m : Nat) (σc : L2.St) (H : Hp) (s₀ s : Shared) (hm : m < n) (w0 : W 0 m H) (I : Inv X [] σc H s) (hσ : wipe σc vs = σ0) (st : tn 0 s.heap) (fr : ∀ b ∈ fp, H b = none) :
      Seg (model X.prog X.w) A (fun n s₀ r s₁ => r = .ok .next ∧ RG X QT n s₀ s₁) (YG X go QF) n s₀ (genS tg elt iter scope pos it X.env) ((model X.prog X.w).den (genS tg elt iter scope pos it X.env)) [] s := by
  have loop := seg_turns (scope := scope) (pos := pos) (iter := iter) hA hc hx hco hex T hg he hw turn n m 0 σc H s₀ s hm w0 I hσ st fr
  show Seg _ A _ _ _ s₀ _ ((compStart (.GeneratorExp elt [⟨tg, iter, [], 0⟩] scope pos) 0 (.ref it) .none X.env).onRaise (leaving X.env)) [] s
  unfold compStart
  rw [Sem.onRaise_eq_wrap]
  show Seg _ A _ _ _ s₀ _ ((ask >>= _).wrap _ _ _ _) [] s
  refine seg_bind_wrap (wpAny_askSetting ?_)
  split
  · exact seg_again rfl loop
  · refine seg_bind_wrap (wpAny_rule ?_)
    show Seg _ A _ _ _ s₀ _ ((standAt iter.pos >>= _).wrap _ _ _ _) [] s
    exact seg_bind_wrap (wpAny_standAt (seg_bind_wrap (T.self _ 0 s _ _ st (seg_again rfl loop))))
end
end Sw
set_option Elab.async false
set_option maxRecDepth 100000
set_option maxHeartbeats 4000000
namespace Sw
open PySem L2 PySem.Spec PyProof.Rows GenW
/-! ### all, any: the consumer -/
section
variable {X : Cx} {A : Around} {a : Addr} {g : Nat} {go : Bool} {QT QF : Hp → Prop} {R : Result → Shared → Prop}
/-- the generator sleeps or has not begun; it may be asked so often -/
def GSt (X : Cx) (A : Around) (g : Nat) (go : Bool) (QT QF : Hp → Prop) (n : Nat) (s : Shared) : Prop :=
  (∃ σc H, Inv X [] σc H s) ∧ ∃ gs, s.gens[g]? = some gs ∧ gs.Goes (model X.prog X.w) A.in1.in1 (fun n s₀ r s₁ => r = .ok .next ∧ RG X QT n s₀ s₁) (YG X go QF) n (.send .none) (s.setGen g .running)
theorem gen_next {E : Value → Shared → Prop} {n : Nat} {s : Shared} {Q : Option Value → Shared → Prop} (hh : A.handled = none) (hroom : A.depth < recursionLimit) (hpn : ∀ s' : Shared, (∀ p ∈ X.pn, s'.heap.get? p.1 = some p.2) → s'.heap.IsGen a g) (st : GSt X A g go QT QF n s)
    (hE : ∀ σc H s', Inv X [] σc H s' → QT H → Q none s') (hF : ∀ σc H s', Inv X [] σc H s' → QF H → Q (some (.bool (!go))) s') (hG : ∀ m s', n = m + 1 → GSt X A g go QT QF m s' → Q (some (.bool go)) s') :
    wpAny (model X.prog X.w) A.in1 (pyNext (.ref a)) Q E s := by
  obtain ⟨⟨σc, H, I⟩, gs, hgs, hgo⟩ := st
  have isg : ∀ {σc : L2.St} {H : Hp} {s' : Shared}, Inv X [] σc H s' → s'.heap.IsGen a g := fun I => hpn _ fun p hp => (I.pin p (List.mem_append_left _ hp)).1
  have hlt : g < s.gens.size := by
    rcases Nat.lt_or_ge g s.gens.size with h | h
    · exact h
    · rw [Array.getElem?_eq_none h] at hgs; cases hgs
  refine wpAny_gsz (n := s.gens.size) (Nat.le_refl _) ?_
  refine wpAny_pyNext_genexpQ (A := A.in1) (Y := YG X go QF) (P := RG X QT) hh I.nolimit hroom (isg I) hgs hgo (fun v s₁ gs' hb hv hsz => ?_) (fun s₁ hp h' hk hsz => ?_)
  · obtain ⟨b, σ1, H1, rfl, I1, q0, q1⟩ := hv
    have hsz : s.gens.size ≤ s₁.gens.size := by rw [← setGen_size s₁ g gs']; exact hsz
    have I2 : Inv X [] σ1 H1 (s₁.setGen g gs') := inv_later I1 (fun _ _ e => e) rfl (allBare_setGen I1.bare hb)
    by_cases e : b = go
    · have k := q1 e ((s₁.setGen g gs').setGen g .running) (fun _ _ e => e) rfl (allBare_setGen (allBare_setGen I1.bare hb) rfl)
      cases n with
      | zero => exact k.elim
      | succ m =>
        rw [e]
        exact hG m _ rfl ⟨⟨σ1, H1, I2⟩, gs', setGen_at (Nat.lt_of_lt_of_le hlt hsz), k⟩
    · have e2 : b = !go := by cases b <;> cases go <;> simp_all
      rw [e2]
      exact hF σ1 H1 _ I2 (q0 e2)
  · obtain ⟨σ1, H1, I1, qt⟩ := hp
    exact hE σ1 H1 _ (inv_later (s := s₁) I1 hk rfl (allBare_setGen I1.bare rfl)) qt
theorem all_loop (hh : A.handled = none) (hroom : A.depth < recursionLimit) (hpn : ∀ s' : Shared, (∀ p ∈ X.pn, s'.heap.get? p.1 = some p.2) → s'.heap.IsGen a g)
    (hT : ∀ σc H s', Inv X [] σc H s' → QT H → R (.ok (.ret (.bool true))) s') (hF : ∀ σc H s', Inv X [] σc H s' → QF H → R (.ok (.ret (.bool false))) s') :
    ∀ (n : Nat) (s : Shared), GSt X A g true QT QF n s → codeAny (model X.prog X.w) A (.builtin "all.loop" ⟨[.ref a], []⟩) R s := by
  intro n
  induction n with
  | zero =>
    intro s st
    refine codeAny_builtin F.entry_all_loop ?_
    rw [Around.under_plainId F.plain_all_loop _]
    show wpAny _ A.in1 (pyNext (.ref a) >>= _) _ _ s
    refine wpAny_bind (gen_next hh hroom hpn st (fun σc H s' I q => ?_) (fun σc H s' I q => ?_) (fun m s' e => by cases e))
    · exact wpAny_bind (wpAny_rule (wpAny_pure (hT σc H s' I q)))
    · refine wpAny_bind (wpAny_holding (wpAny_truthy_bool ?_))
      refine wpAny_bind (wpAny_letGo ?_)
      simp only [Bool.not_true, Bool.false_eq_true, if_false]
      exact wpAny_bind (wpAny_rule (wpAny_pure (hF σc H s' I q)))
  | succ n ih =>
    intro s st
    refine codeAny_builtin F.entry_all_loop ?_
    rw [Around.under_plainId F.plain_all_loop _]
    show wpAny _ A.in1 (pyNext (.ref a) >>= _) _ _ s
    refine wpAny_bind (gen_next hh hroom hpn st (fun σc H s' I q => ?_) (fun σc H s' I q => ?_) (fun m s' e st' => ?_))
    · exact wpAny_bind (wpAny_rule (wpAny_pure (hT σc H s' I q)))
    · refine wpAny_bind (wpAny_holding (wpAny_truthy_bool ?_))
      refine wpAny_bind (wpAny_letGo ?_)
      simp only [Bool.not_true, Bool.false_eq_true, if_false]
      exact wpAny_bind (wpAny_rule (wpAny_pure (hF σc H s' I q)))
    · cases e
      refine wpAny_bind (wpAny_holding (wpAny_truthy_bool ?_))
      refine wpAny_bind (wpAny_letGo ?_)
      simp only [if_true]
      exact wpAny_pure ⟨plainId_quiet F.plain_all_loop _, ih s' st'⟩
theorem any_loop (hh : A.handled = none) (hroom : A.depth < recursionLimit) (hpn : ∀ s' : Shared, (∀ p ∈ X.pn, s'.heap.get? p.1 = some p.2) → s'.heap.IsGen a g)
    (hT : ∀ σc H s', Inv X [] σc H s' → QT H → R (.ok (.ret (.bool false))) s') (hF : ∀ σc H s', Inv X [] σc H s' → QF H → R (.ok (.ret (.bool true))) s') :
    ∀ (n : Nat) (s : Shared), GSt X A g false QT QF n s → codeAny (model X.prog X.w) A (.builtin "any.loop" ⟨[.ref a], []⟩) R s := by
  intro n
  induction n with
  | zero =>
    intro s st
    refine codeAny_builtin F.entry_any_loop ?_
    rw [Around.under_plainId F.plain_any_loop _]
    show wpAny _ A.in1 (pyNext (.ref a) >>= _) _ _ s
    refine wpAny_bind (gen_next hh hroom hpn st (fun σc H s' I q => ?_) (fun σc H s' I q => ?_) (fun m s' e => by cases e))
    · exact wpAny_bind (wpAny_rule (wpAny_pure (hT σc H s' I q)))
    · refine wpAny_bind (wpAny_holding (wpAny_truthy_bool ?_))
      refine wpAny_bind (wpAny_letGo ?_)
      simp only [Bool.not_false, if_true]
      exact wpAny_bind (wpAny_rule (wpAny_pure (hF σc H s' I q)))
  | succ n ih =>
    intro s st
    refine codeAny_builtin F.entry_any_loop ?_
    rw [Around.under_plainId F.plain_any_loop _]
    show wpAny _ A.in1 (pyNext (.ref a) >>= _) _ _ s
    refine wpAny_bind (gen_next hh hroom hpn st (fun σc H s' I q => ?_) (fun σc H s' I q => ?_) (fun m s' e st' => ?_))
    · exact wpAny_bind (wpAny_rule (wpAny_pure (hT σc H s' I q)))
    · refine wpAny_bind (wpAny_holding (wpAny_truthy_bool ?_))
      refine wpAny_bind (wpAny_letGo ?_)
      simp only [Bool.not_false, if_true]
      exact wpAny_bind (wpAny_rule (wpAny_pure (hF σc H s' I q)))
    · cases e
      refine wpAny_bind (wpAny_holding (wpAny_truthy_bool ?_))
      refine wpAny_bind (wpAny_letGo ?_)
      simp only [Bool.false_eq_true, if_false]
      exact wpAny_pure ⟨plainId_quiet F.plain_any_loop _, ih s' st'⟩
end
/-! ### the generator made -/
section
variable {X : Cx} {tg elt iter : Expr} {scope : Scope} {own : List (Str × Nat)} {c P : Addr} {k : Nat} {wi : TI} {g : TG} {te : TE} {go : Bool} {gpos : Pos}
def tGen (P : Addr) (wi : TI) (g : TG) (te : TE) (vs : List Nat) (go : Bool) : TE := fun σ H Q => wi σ H fun J H1 => H1 P = some (TabE P) ∧ ∃ W : Nat → Nat → Hp → Prop, (∃ m, W 0 m H1) ∧
  GWalk go J g te (wipe σ vs) vs (fun H => Q (.bl go) H) (fun H => Q (.bl (!go)) H) W
abbrev genAr (X : Cx) (G : Expr) (it : Addr) (env : Env) : Around := X.A.in1.in1.over (.compLoop G 0 (.ref it) .none env) []
theorem wipe2 (σ : L2.St) (vs : List Nat) : wipe (wipe σ vs) vs = wipe σ vs := by
  refine List.ext_getElem? fun i => ?_
  by_cases h : i ∈ vs
  · by_cases hi : i < σ.length
    · have q : ∀ τ : L2.St, i < τ.length → (wipe τ vs)[i]? = some none := fun τ ht => by
        cases e : (wipe τ vs)[i]? with
        | none => rw [List.getElem?_eq_none_iff, wipe_length] at e; omega
        | some o =>
          cases o with
          | none => rfl
          | some v => exact absurd h (wipe_some e).2
      rw [q _ (by rw [wipe_length]; exact hi), q _ hi]
    · rw [List.getElem?_eq_none (by rw [wipe_length, wipe_length]; omega), List.getElem?_eq_none (by rw [wipe_length]; omega)]
  · rw [wipe_out h]
theorem room_gen {e : Expr} {it : Addr} {env : Env} {A : Around} (hr : Room (k + 1) A) {sc : Scope} {gs : List Comprehension} {ps : Pos} : Room k (A.in1.in1.over (.compLoop (.GeneratorExp e gs sc ps) 0 (.ref it) .none env) []) := by
  refine ⟨hr.hd, ?_, ?_⟩
  · have := hr.dp
    show A.depth + 0 + (1 + 0 + 0 + 0) + 3 * k + 5 < _
    omega
  · have := hr.un
    show A.units + 1 + 1 + 0 + 3 * 1 + 16 * k + 200 < _
    omega
theorem gen_made {pins : List (Addr × Obj)} {s : Shared} {σ : L2.St} {H : Hp} {Q : VK} {Q' : Value → Shared → Prop} (hr : Room (k + 1) X.A) (hN : X.N.Nodup) (TB : GxR.TabB X.base X.mg c P) (hcode : X.env.code = .ref c) (ok : BlkOk X.N X.env.scope scope own) (G : GenSc scope) (hi : PI X tg iter wi)
    (hg : ∀ (s : Shared) (H : Hp) (C : Addr) (code : Value) (A' : Around) (fp : List Addr) (pn : List (Addr × Obj)), Room k A' → PG (X.gen s H scope C code A' fp pn) tg g)
    (he : ∀ (s : Shared) (H : Hp) (C : Addr) (code : Value) (A' : Around) (fp : List Addr) (pn : List (Addr × Obj)), Room k A' → PE (X.gen s H scope C code A' fp pn) elt te)
    (hs : ∀ v, genFold iter X.env v = pure v) (I : Inv X pins σ H s) (h : tGen P wi g te (own.map (·.2)) go σ H Q)
    (hQ : ∀ (X' : Cx) (a : Addr) (gn n : Nat) (s' : Shared), X'.prog = X.prog → X'.w = X.w → (∀ s' : Shared, (∀ p ∈ X'.pn, s'.heap.get? p.1 = some p.2) → s'.heap.IsGen a gn) → GSt X' X.A gn go (fun H => Q (.bl go) H) (fun H => Q (.bl (!go)) H) n s' →
      (∀ σc H s', Inv X' [] σc H s' → Inv X pins σ H s') → s'.heap.IsGen a gn → Q' (.ref a) s') :
    wpAny (model X.prog X.w) X.A (eval (.GeneratorExp elt [⟨tg, iter, [], 0⟩] scope gpos) X.env) Q' X.xe s := by
  have hCap : ∀ y ∈ scope.names, y.2 = .free → ∃ c, X.env.cells.lookup y.1 = some c := fun y hy e => by
    rcases ok.free y hy e with k | k
    · exact I.ok.has _ (.inl k)
    · exact I.ok.has _ (.inr k)
  refine wpAny_GeneratorExp_make G.co (closure_ok hCap) G.cell G.dot ok.kind (by have := hr.dp; omega) ?_ hs
  refine thn (hi.run pins s σ H _ I h) fun xv s1 hx => thn hx fun itv s2 h2 => ?_
  obtain ⟨it, fp, tn, J, H2, e, I2, T, st2, f2, hP, W, ⟨m0, w0⟩, turn⟩ := h2
  subst e
  refine ⟨I2.nolimit, gen_code I2 TB hcode hP fun code h3 tk3 I3 k3 hsz3 => ?_⟩
  obtain ⟨bm, ob, e1, e2, e3, e4, e5, e6, e7, e8⟩ := TB.bm
  refine wpAny_builtinsFor (m := X.mg) (by rw [I3.ok.glob]; exact I3.mod.glob.keeps I3.bk) e1 e2 (I3.bk _ _ e5) e6 e7 e8 ?_
  generalize hs3 : ({ s2 with heap := h3, toks := tk3 } : Shared) = s3 at I3
  have eh3 : h3 = s3.heap := by rw [← hs3]
  subst eh3
  intro h' hn' hsb
  have es3 : s2.gens = s3.gens := by rw [← hs3]
  have st3 : tn 0 s3.heap := T.keep _ _ _ st2 fun b hb o e => k3 b o (fun z => by
    have := (f2 b hb).1
    rw [z, hP] at this
    cases this) e
  have sz3 : ∀ b ∈ fp, b < s3.heap.objs.size := fun b hb => by
    obtain ⟨o, e, _⟩ := T.obj _ _ st3 b hb
    exact Heap.lt_size e
  have hsz : h'.objs.size = s3.heap.objs.size + 1 := by rw [hsb.1, Heap.size_push]
  have keep' : ∀ b o, s3.heap.get? b = some o → h'.get? b = some o := fun b o e => hsb.extBut b o (Nat.ne_of_lt (Heap.lt_size e)) (Heap.get?_push_of_some _ e)
  generalize hgo : ({ cls := .type "generator", data := .fields #[.int s3.gens.size 0, .str "<genexpr>" (s3.toks + 1), .str (X.env.qual ++ "<genexpr>") (s3.toks + 1 + 1)] } : Obj) = gobj
  have keep5 : ∀ b o, s3.heap.get? b = some o → (h'.push gobj).get? b = some o := fun b o e => Heap.get?_push_of_some _ (keep' b o e)
  generalize hGE : (Expr.GeneratorExp elt [⟨tg, iter, [], 0⟩] scope gpos) = GE
  have hX : ∃ X', X' = X.gen s3 H2 scope s3.heap.objs.size code (genAr X GE it (genv X scope s3.heap.objs.size code)) fp [(h'.objs.size, gobj)] := ⟨_, rfl⟩
  obtain ⟨X', eX⟩ := hX
  have isg : ∀ s' : Shared, (∀ p ∈ X'.pn, s'.heap.get? p.1 = some p.2) → s'.heap.IsGen h'.objs.size s3.gens.size := fun s' hp => by
    have q := hp (h'.objs.size, gobj) (by rw [eX]; exact List.mem_singleton.mpr rfl)
    exact ⟨_, _, _, q, by rw [← hgo], by rw [← hgo], by rw [← hgo]⟩
  have hroom : Room k X'.A := by
    rw [eX, ← hGE]
    exact room_gen hr
  have hgc : gobj.data = .fields #[.int s3.gens.size 0, .str "<genexpr>" (s3.toks + 1), .str (X.env.qual ++ "<genexpr>") (s3.toks + 1 + 1)] := by rw [← hgo]
  have start : ∀ s' : Shared, s'.os = s3.os → AllBare s'.gens → (∀ b o, (h'.push gobj).get? b = some o → s'.heap.get? b = some o) → Inv X' [] (wipe σ (own.map (·.2))) H2 s' := fun s' ho hb kk => by
    rw [eX]
    refine gen_start (m := _) I3 ok G hN (fun b hb => ⟨f2 b hb, sz3 b hb⟩) (Nat.le_refl _) hr.hd ?_ ho hb (fun b o e => kk b o (keep5 b o e)) (Heap.Ns.keeps (hn'.push _) kk) fun p hp => ?_
    · have hfr := I3.ok.frames
      rw [← hGE]
      have hfr2 : X.A.in1.in1.frames = some X.stack := hfr
      unfold genAr Around.over
      rw [hfr2]
      rfl
    · rw [List.mem_singleton.mp hp]
      refine ⟨kk _ _ (Heap.get?_push_size _ (by rw [← hgo]; rfl)), by show s3.heap.objs.size ≤ h'.objs.size; omega, by show h'.objs.size ≠ s3.heap.objs.size; omega, fun v z => ?_⟩
      rw [hgc] at z
      cases z
  have back : ∀ σc H s', Inv X' [] σc H s' → Inv X pins σ H s' := fun σc H s' I' => by
    rw [eX] at I'
    exact I3.call' (ch := fp) I'.os I'.base I'.hok I'.bare fun b hb => ⟨(f2 b hb).2.2.2.1, (f2 b hb).2.1, (f2 b hb).2.2.2.2.1, (f2 b hb).2.2.2.2.2⟩
  have hbare : ∀ {c : Code}, AllBare (s3.gens.push (.fresh c)) := fun {c} => I3.bare.push rfl
  refine hQ X' h'.objs.size s3.gens.size (m0 + 1) _ (by rw [eX]) (by rw [eX]) isg ⟨⟨_, _, start _ (by rw [← hs3]) ?_ fun _ _ e => e⟩, _, Array.getElem?_push_size .., rfl, ?_⟩ back ?_
  · exact hbare
  · have I0 := start (({ heap := h'.push gobj, gens := s3.gens.push (.fresh (.compStart GE 0 (.ref it) .none (genv X scope s3.heap.objs.size code))), drawn := s3.drawn, toks := s3.toks + 1 + 1 + 1, os := s3.os } : Shared).setGen s3.gens.size .running) rfl (allBare_setGen (g := s3.gens.size) (x := .running) (s := { heap := h'.push gobj, gens := s3.gens.push (.fresh (.compStart GE 0 (.ref it) .none (genv X scope s3.heap.objs.size code))), drawn := s3.drawn, toks := s3.toks + 1 + 1 + 1, os := s3.os }) hbare rfl) fun _ _ e => e
    have hf : ∀ b ∈ fp, H2 b = none := fun b hb => (f2 b hb).1
    have st5 : tn 0 (h'.push gobj) := T.keep _ _ _ st3 fun b hb o e => keep5 b o e
    have hA : X.A.in1.in1.over (genC tg elt iter scope gpos it X'.env) [] = X'.A := by rw [eX, ← hGE]
    have key := seg_begin (X := X') (scope := scope) (pos := gpos) (iter := iter) (tg := tg) (elt := elt) (it := it) (A := X.A.in1.in1) (fp := fp) (tn := tn) (J := J) (g := g) (te := te) (go := go) (σ0 := wipe σ (own.map (·.2))) (vs := own.map (·.2))
      (QT := fun H => Q (.bl go) H) (QF := fun H => Q (.bl (!go)) H) (W := W) hA (by rw [eX]) (by rw [eX]) (by rw [eX]; exact G.co) (fun b hb => ?_) (by rw [eX]; exact T) (by rw [eX]; exact hg _ _ _ _ _ _ _ (by rw [eX] at hroom; exact hroom)) (by rw [eX]; exact he _ _ _ _ _ _ _ (by rw [eX] at hroom; exact hroom))
      (fun σ => wipe2 σ _) turn (m0 + 1) m0 _ H2 (({ heap := h'.push gobj, gens := s3.gens.push (.fresh (.compStart GE 0 (.ref it) .none (genv X scope s3.heap.objs.size code))), drawn := s3.drawn, toks := s3.toks + 1 + 1 + 1, os := s3.os } : Shared).setGen s3.gens.size .running) (({ heap := h'.push gobj, gens := s3.gens.push (.fresh (.compStart GE 0 (.ref it) .none (genv X scope s3.heap.objs.size code))), drawn := s3.drawn, toks := s3.toks + 1 + 1 + 1, os := s3.os } : Shared).setGen s3.gens.size .running) (Nat.lt_succ_self _) w0 I0 (wipe2 σ _) st5 hf
    · have eC : (genS tg elt iter scope gpos it X'.env) = .compStart GE 0 (.ref it) .none (genv X scope s3.heap.objs.size code) := by rw [eX, ← hGE]
      rw [eC] at key
      exact key
    · rw [eX]
      refine ⟨hb, Nat.ne_of_lt (sz3 b hb), fun z => ?_, fun x c e z => ?_, fun p hp => ?_⟩
      · rcases List.mem_cons.mp (I3.stkSub b z) with z | z
        · exact (f2 b hb).2.1 z
        · exact (f2 b hb).2.2.1 z
      · exact (f2 b hb).2.2.2.2.1 x c (NdefX.clo_cm hCap e) z
      · rw [List.mem_singleton.mp hp]
        have q1 : b < s3.heap.objs.size := sz3 b hb
        show h'.objs.size ≠ b
        rw [hsz]
        exact Nat.ne_of_gt (Nat.lt_succ_of_lt q1)
  · exact ⟨_, _, _, Heap.get?_push_size _ (by rw [← hgo]; rfl), by rw [← hgo], by rw [← hgo], by rw [← hgo]⟩
theorem pe_allG {x : Str} {p pos : Pos} (hx : x = "all") (hr : Room (k + 1) X.A) (hgl : Gl X x) (hm : X.mg x = none) (hN : X.N.Nodup) (TB : GxR.TabB X.base X.mg c P) (hcode : X.env.code = .ref c) (ok : BlkOk X.N X.env.scope scope own) (G : GenSc scope) (hi : PI X tg iter wi)
    (hg : ∀ (s : Shared) (H : Hp) (C : Addr) (code : Value) (A' : Around) (fp : List Addr) (pn : List (Addr × Obj)), Room k A' → PG (X.gen s H scope C code A' fp pn) tg g)
    (he : ∀ (s : Shared) (H : Hp) (C : Addr) (code : Value) (A' : Around) (fp : List Addr) (pn : List (Addr × Obj)), Room k A' → PE (X.gen s H scope C code A' fp pn) elt te)
    (hs : ∀ v, genFold iter X.env v = pure v := by intro _; rfl)
    (hst : starEach [.GeneratorExp elt [⟨tg, iter, [], 0⟩] scope gpos] X.env = (false, eval (.GeneratorExp elt [⟨tg, iter, [], 0⟩] scope gpos) X.env) :: starEach [] X.env := by rfl) :
    PE X (.Call (.Name x p) [.GeneratorExp elt [⟨tg, iter, [], 0⟩] scope gpos] [] pos) (tGen P wi g te (own.map (·.2)) true) := by
  subst hx
  refine ⟨fun pins s σ H Q I h => ?_⟩
  refine wpAny_Call_Name_kw (ld_blt I hgl hm (show bootBuiltins "all" = some (.builtin "all") by decide +kernel) ?_)
  refine PyProof.Rows.callWith_builtin1 ?_ hst (by rfl)
  rw [hst]
  show wpAny _ _ (spliced ((false, eval (.GeneratorExp elt [⟨tg, iter, [], 0⟩] scope gpos) X.env) :: backTo pos (starEach [] X.env))) _ _ s
  refine Calls.spliced_cons (gen_made hr hN TB hcode ok G hi hg he hs I h fun X' a gn n s' ep ew isg st back hgen => ?_)
  refine Calls.spliced_nil ?_
  refine call_function_tree F.kind_all F.plain_all F.entry_all (F.args_all1 _) ?_
  unfold Builtin.«all»
  refine wpAny_bind (wpAny_of_eq (a := Value.ref a) (by rfl) ?_)
  refine wpAny_bind (wpAny_pyIter_gen hgen ?_)
  refine wpAny_pure ⟨plainId_quiet F.plain_all_loop _, ?_⟩
  rw [← ep, ← ew]
  refine all_loop hr.hd (by have := hr.dp; omega) isg (fun σc H' s'' I' q => ?_) (fun σc H' s'' I' q => ?_) n s' st
  · exact ⟨.bl true, H', back _ _ _ I', rfl, q⟩
  · exact ⟨.bl false, H', back _ _ _ I', rfl, q⟩
theorem pe_anyG {x : Str} {p pos : Pos} (hx : x = "any") (hr : Room (k + 1) X.A) (hgl : Gl X x) (hm : X.mg x = none) (hN : X.N.Nodup) (TB : GxR.TabB X.base X.mg c P) (hcode : X.env.code = .ref c) (ok : BlkOk X.N X.env.scope scope own) (G : GenSc scope) (hi : PI X tg iter wi)
    (hg : ∀ (s : Shared) (H : Hp) (C : Addr) (code : Value) (A' : Around) (fp : List Addr) (pn : List (Addr × Obj)), Room k A' → PG (X.gen s H scope C code A' fp pn) tg g)
    (he : ∀ (s : Shared) (H : Hp) (C : Addr) (code : Value) (A' : Around) (fp : List Addr) (pn : List (Addr × Obj)), Room k A' → PE (X.gen s H scope C code A' fp pn) elt te)
    (hs : ∀ v, genFold iter X.env v = pure v := by intro _; rfl)
    (hst : starEach [.GeneratorExp elt [⟨tg, iter, [], 0⟩] scope gpos] X.env = (false, eval (.GeneratorExp elt [⟨tg, iter, [], 0⟩] scope gpos) X.env) :: starEach [] X.env := by rfl) :
    PE X (.Call (.Name x p) [.GeneratorExp elt [⟨tg, iter, [], 0⟩] scope gpos] [] pos) (tGen P wi g te (own.map (·.2)) false) := by
  subst hx
  refine ⟨fun pins s σ H Q I h => ?_⟩
  refine wpAny_Call_Name_kw (ld_blt I hgl hm boot_any ?_)
  refine PyProof.Rows.callWith_builtin1 ?_ hst (by rfl)
  rw [hst]
  show wpAny _ _ (spliced ((false, eval (.GeneratorExp elt [⟨tg, iter, [], 0⟩] scope gpos) X.env) :: backTo pos (starEach [] X.env))) _ _ s
  refine Calls.spliced_cons (gen_made hr hN TB hcode ok G hi hg he hs I h fun X' a gn n s' ep ew isg st back hgen => ?_)
  refine Calls.spliced_nil ?_
  refine call_function_tree F.kind_any F.plain_any F.entry_any (F.args_any1 _) ?_
  unfold Builtin.«any»
  refine wpAny_bind (wpAny_of_eq (a := Value.ref a) (by rfl) ?_)
  refine wpAny_bind (wpAny_pyIter_gen hgen ?_)
  refine wpAny_pure ⟨plainId_quiet F.plain_any_loop _, ?_⟩
  rw [← ep, ← ew]
  refine any_loop hr.hd (by have := hr.dp; omega) isg (fun σc H' s'' I' q => ?_) (fun σc H' s'' I' q => ?_) n s' st
  · exact ⟨.bl false, H', back _ _ _ I', rfl, q⟩
  · exact ⟨.bl true, H', back _ _ _ I', rfl, q⟩
end
/-! ### what the walks ask, by lists -/
theorem gw_tup {K : PySem.W.Frag} {a : Addr} {xs : List V} {go : Bool} {g : TG} {te : TE} {σ0 : L2.St} {vs : List Nat} {QT QF : Hp → Prop} {H : Hp} (Pv : Nat → Hp → Prop) (h0 : Pv 0 H) (hl : ∀ i H, i ≤ xs.length → Pv i H → SqT K H a xs)
    (hs : ∀ i x H, xs[i]? = some x → Pv i H → g x σ0 H fun σ2 H2 => wipe σ2 vs = σ0 ∧ te σ2 H2 fun y H3 => ∃ b, y = .bl b ∧ if b = go then Pv (i + 1) H3 else QF H3) (hd : ∀ H, Pv xs.length H → QT H) :
    ∃ W : Nat → Nat → Hp → Prop, (∃ m, W 0 m H) ∧ GWalk go (Itt K a) g te σ0 vs QT QF W := by
  refine ⟨fun i m H => i ≤ xs.length ∧ m = xs.length - i ∧ Pv i H, ⟨xs.length, Nat.zero_le _, by simp, h0⟩, ?_⟩
  rintro i m H ⟨hi, rfl, hp⟩
  have hL := hl i H hi hp
  by_cases e : i = xs.length
  · exact .inl ⟨⟨xs, hL, by omega⟩, hd H (by rw [← e]; exact hp)⟩
  · have hlt : i < xs.length := by omega
    refine .inr ⟨⟨xs, xs[i], hL, List.getElem?_eq_getElem hlt⟩, Pv (i + 1), fun H' hq => ⟨_, by omega, hlt, rfl, hq⟩, fun x H' hy => ?_⟩
    obtain ⟨rfl, hx⟩ := hy
    exact hs i x _ (hx xs hL) hp
theorem gw_list {K : PySem.W.Frag} {a : Addr} {xs : List V} {go : Bool} {g : TG} {te : TE} {σ0 : L2.St} {vs : List Nat} {QT QF : Hp → Prop} {H : Hp} (Pv : Nat → Hp → Prop) (h0 : Pv 0 H) (hl : ∀ i H, i ≤ xs.length → Pv i H → SqL K H a xs)
    (hs : ∀ i x H, xs[i]? = some x → Pv i H → g x σ0 H fun σ2 H2 => wipe σ2 vs = σ0 ∧ te σ2 H2 fun y H3 => ∃ b, y = .bl b ∧ if b = go then Pv (i + 1) H3 else QF H3) (hd : ∀ H, Pv xs.length H → QT H) :
    ∃ W : Nat → Nat → Hp → Prop, (∃ m, W 0 m H) ∧ GWalk go (Itl K a) g te σ0 vs QT QF W := by
  refine ⟨fun i m H => i ≤ xs.length ∧ m = xs.length - i ∧ Pv i H, ⟨xs.length, Nat.zero_le _, by simp, h0⟩, ?_⟩
  rintro i m H ⟨hi, rfl, hp⟩
  have hL := hl i H hi hp
  by_cases e : i = xs.length
  · exact .inl ⟨⟨xs, hL, by omega⟩, hd H (by rw [← e]; exact hp)⟩
  · have hlt : i < xs.length := by omega
    refine .inr ⟨⟨xs, xs[i], hL, List.getElem?_eq_getElem hlt⟩, Pv (i + 1), fun H' hq => ⟨_, by omega, hlt, rfl, hq⟩, fun x H' hy => ?_⟩
    obtain ⟨rfl, hx⟩ := hy
    exact hs i x _ (hx xs hL) hp
end Sw
set_option Elab.async false
set_option maxRecDepth 100000
set_option maxHeartbeats 4000000
namespace Sw
open PySem L2 PySem.Spec PyProof.Rows GenW
/-! ### the end of a law over defs with generator expressions: their tables are tracked as things that may grow -/
abbrev Tabs (ts : List (Addr × Addr)) (H : Hp) : Prop := ∀ p ∈ ts, H p.2 = some (TabE p.2)
theorem Tabs.same {ts : List (Addr × Addr)} {H H' : Hp} (h : Tabs ts H) (s : Same H H') : Tabs ts H' := fun p hp => s _ _ (h p hp)
theorem law_callE {P : Program} {w : World} {K : PySem.W.Frag} {mg mb : Str → Option Value} {k : Nat} {fa a : Addr} {cs : List (Addr × Addr)} {fd : FuncData} {x : Str} {sp : Sp} {s₁ : Shared} {vs : List Value} {ns : List Int}
    (KX : K.In s₁.heap) (hns : s₁.heap.Ns mainGlobals mg) (hb : s₁.heap.Ns builtinsNs mb) (hbb : ∀ x : Str, x ≠ "__name__" → mb x = bootBuiltins x) (hlim : s₁.heap.NoLimit) (hg : s₁.gens = #[])
    (hT : ∀ p ∈ cs, s₁.heap.get? p.2 = some { cls := .none, data := .fields #[] }) (nT : ∀ p ∈ cs, K.lookup p.2 = none) (C : ∀ p ∈ cs, PySem.W.CodeHd s₁.heap p.1 p.2)
    (hbm : ∃ (bm : Addr) (ob : Obj), mg "__builtins__" = some (.ref bm) ∧ bm ≠ builtinsNs ∧ s₁.heap.get? bm = some ob ∧ ob.cls = .type "module" ∧ ob.dict = some builtinsNs ∧ ob.data = .plain)
    (ha : s₁.heap.get? a = some { cls := .type "list", data := .seq vs.toArray }) (hi : IntsAre vs ns) (hl : ns.length ≤ sizeLine) (hr : Room k callerA)
    (F : ∀ base : Heap, K.In base → base.Ns mainGlobals mg → (∀ p ∈ cs, GxR.TabB base mg p.1 p.2) → FnOk P w K mg base CX0 k fa fd [x] sp) (hbind : ∀ (s : Shared) (u : Value), BindsTo s fd ⟨[u], []⟩ [(x, u)])
    (hsp : ∀ H : Hp, Tabs cs H → SqL K H a (ns.map V.int) → sp [.ref a] H (fun v H' => v = .bl true ∧ Tabs cs H') fun _ _ _ => False) :
    codeAny (model P w) callerA (.call (.ref fa) ⟨[.ref a], []⟩) (fun r s' => r = .ok (.ret (.bool true)) ∧ OldK s₁.heap s'.heap ∧ s'.os = s₁.os ∧ AllBare s'.gens) s₁ := by
  have rv := vals_ints hi
  have lenV := hi.length
  have isT : ∀ b : Addr, b ∈ cs.map (·.2) → s₁.heap.get? b = some { cls := .none, data := .fields #[] } := fun b hb => by
    obtain ⟨p, hp, e⟩ := List.mem_map.mp hb
    rw [← e]
    exact hT p hp
  have aT : a ∉ cs.map (·.2) := fun z => by
    have q := isT a z
    rw [ha] at q
    have z' : Data.seq vs.toArray _ = Data.fields #[] := congrArg Obj.data (Option.some.inj q)
    cases z'
  have memT : ∀ p ∈ cs, p.2 ∈ cs.map (·.2) := fun p hp => List.mem_map.mpr ⟨p, hp, rfl⟩
  have core : ∀ H : Hp, Tabs cs H → (∀ b, H b = none ∨ b ∈ cs.map (·.2) ∨ ∃ o xs, H b = some (.frz o (.lst xs))) → SqL K H a (ns.map V.int) → HOk P w H s₁.heap → (∀ b, H b ≠ none → b = a ∨ b ∈ cs.map (·.2)) → (H a ≠ none → K.lookup a = none) →
      codeAny (model P w) callerA (.call (.ref fa) ⟨[.ref a], []⟩) (fun r s' => r = .ok (.ret (.bool true)) ∧ OldK s₁.heap s'.heap ∧ s'.os = s₁.os ∧ AllBare s'.gens) s₁ := by
    intro H hH hO hS hok hA hK
    have base_of : ∀ {b : Addr} {o : Obj}, s₁.heap.get? b = some o → H b = none → (hidT s₁.heap H).get? b = some o := fun e n => hidT_get e n
    have noD : ∀ {b : Addr} {o : Obj}, s₁.heap.get? b = some o → (∀ vs n, o.data ≠ .seq vs n) → o.data ≠ .fields #[] → H b = none := fun {b o} e h1 h2 => by
      cases q : H b with
      | none => rfl
      | some u =>
        rcases hA b (by rw [q]; simp) with e' | e'
        · rw [e', ha] at e
          cases e
          exact (h1 _ _ rfl).elim
        · rw [isT b e'] at e
          cases e
          exact (h2 rfl).elim
    have noA : ∀ {b : Addr} {o : Obj} {es : Array DictEntry} {ep : Nat}, s₁.heap.get? b = some o → o.data = .dict es ep → H b = none := fun {b o es ep} e d => by
      refine noD e (fun vs n z => ?_) fun z => ?_
      · rw [d] at z
        cases z
      · rw [d] at z
        cases z
    have nsK : ∀ {b : Addr} {m : Str → Option Value}, s₁.heap.Ns b m → (hidT s₁.heap H).Ns b m := fun {b m} ⟨o, es, ep, e, d, r⟩ => ⟨o, es, ep, base_of e (noA e d), d, r⟩
    have hKb : K.In (hidT s₁.heap H) := fun b o e => base_of (KX b o e) (by
      cases q : H b with
      | none => rfl
      | some u =>
        rcases hA b (by rw [q]; simp) with e' | e'
        · rw [e'] at e q
          rw [hK (by rw [q]; simp)] at e
          cases e
        · obtain ⟨p, hp, ep⟩ := List.mem_map.mp e'
          rw [← ep, nT p hp] at e
          cases e)
    have hM : L2.Mod K mg (hidT s₁.heap H) := ⟨hKb, nsK hns, ⟨mb, nsK hb, hbb⟩, let ⟨mc, h1, h2⟩ := hlim; ⟨mc, nsK h1, h2⟩⟩
    have TB : ∀ p ∈ cs, GxR.TabB (hidT s₁.heap H) mg p.1 p.2 := fun p hp => by
      have hTp := hT p hp
      refine ⟨?_, ?_, fun z => ?_⟩
      · obtain ⟨o, us, file, tf, flags, tg, inF, text, tt, e1, r1, r2, r3, r4, r5, r6, r7, r8, hne⟩ := C p hp
        refine ⟨o, us, file, tf, flags, tg, inF, text, tt, base_of e1 (noD e1 (fun vs n z => ?_) fun z => ?_), r1, r2, r3, r4, r5, r6, r7, r8, hne⟩
        · rw [r2] at z
          cases z
        · rw [r2] at z
          cases z
          simp at r3
      · obtain ⟨bm, ob, b1, b2, b3, b4, b5, b6⟩ := hbm
        have nG : bm ≠ mainGlobals := fun q => by
          obtain ⟨o, es, ep, e, hd, _⟩ := hns
          rw [q, e] at b3
          cases b3
          rw [hd] at b6
          cases b6
        have nP : bm ≠ p.2 := fun q => by
          rw [q, hTp] at b3
          cases b3
          cases b6
        refine ⟨bm, ob, b1, b2, nG, nP, base_of b3 (noD b3 (fun vs n z => ?_) fun z => ?_), b4, b5, b6⟩
        · rw [b6] at z
          cases z
        · rw [b6] at z
          cases z
      · obtain ⟨o, es, ep, e, hd, _⟩ := hns
        rw [z, hTp] at e
        cases e
        cases hd
    have e0 : Env0 P w K mg (hidT s₁.heap H) callerA [] s₁ H := ⟨rfl, hM, fun b o e => of_hidT e, Nat.le_of_eq (hidT_size _ _), trivial, fun b hb => absurd (show b ∈ ([] : List Addr) from hb) (by simp), hok, .of_eq hg⟩
    refine codeAny_mono ((F _ hKb (nsK hns) TB).run callerA [] s₁ H ⟨[.ref a], []⟩ [.ref a] [.ref a] _ _ hr e0 (hbind s₁ (.ref a)) (.cons rfl .nil) (hsp H hH hS)) fun r s' h => ?_
    cases r with
    | error e => exact False.elim h
    | ok fl =>
      cases fl with
      | next => exact False.elim h
      | brk => exact False.elim h
      | cont => exact False.elim h
      | ret u =>
        obtain ⟨v, H', os, bare, un, hok', r', q⟩ := h
        obtain ⟨qv, qT⟩ := q
        subst qv
        obtain rfl : u = Value.bool true := r'
        have stays : ∀ b o, b ∉ cs.map (·.2) → s₁.heap.get? b = some o → s'.heap.get? b = some o := fun b o nb e => by
          cases q : H b with
          | none => exact un.keep b o e q (by intro z; exact absurd (show b ∈ ([] : List Addr) from z) (by simp)) (by simp)
          | some u =>
            rcases hO b with z | z | ⟨ob, xs, z⟩
            · rw [q] at z; cases z
            · exact absurd z nb
            · obtain ⟨e1, _⟩ := hok b _ z
              obtain ⟨e2, _⟩ := hok' b _ (un.frzs b ob _ z)
              rw [e] at e1; cases e1
              exact e2
        have grew : ∀ p ∈ cs, ∃ more : Array Value, s'.heap.get? p.2 = some { cls := .none, data := .fields more } := fun p hp => by
          obtain ⟨⟨ps, z, _⟩, _⟩ := hok' p.2 _ (qT p hp)
          exact ⟨ps, z⟩
        refine ⟨rfl, ⟨fun b o e => ?_, fun b o e => ?_⟩, os, bare⟩
        · by_cases hb : b ∈ cs.map (·.2)
          · obtain ⟨p, hp, ep⟩ := List.mem_map.mp hb
            obtain ⟨more, hm⟩ := grew p hp
            rw [← ep] at e ⊢
            rw [hT p hp] at e
            cases e
            exact .inr (.inl ⟨((C p hp).tab (hT p hp)).isCodeTable, rfl, #[], more, rfl, by rw [Array.empty_append]; exact hm⟩)
          · exact .inl (stays b o hb e)
        · by_cases hb : b ∈ cs.map (·.2)
          · obtain ⟨p, hp, ep⟩ := List.mem_map.mp hb
            obtain ⟨more, hm⟩ := grew p hp
            rw [← ep]
            exact ⟨_, hm⟩
          · exact ⟨o, stays b o hb e⟩
  have tOk : ∀ {H : Hp} {b : Addr}, b ∈ cs.map (·.2) → ObjOk P w H s₁.heap b (TabE b) := fun hb => tabE_ok (isT _ hb) (by trivial)
  cases hk : K.lookup a with
  | some o =>
    have e := KX a o hk
    rw [ha] at e
    cases e
    refine core (fun b => if b ∈ cs.map (·.2) then some (TabE b) else none) (fun p hp => if_pos (memT p hp)) (fun b => ?_) (.inr ⟨_, vs.toArray, _, hk, rfl, rfl, rfl, by rw [List.size_toArray, lenV]; exact hl, by simpa using rv⟩) (fun b u z => ?_) (fun b z => ?_) fun z => absurd (show (if a ∈ cs.map (·.2) then some (TabE a) else none) = none from if_neg aT) z
    · by_cases hb : b ∈ cs.map (·.2)
      · exact .inr (.inl hb)
      · exact .inl (if_neg hb)
    · by_cases hb : b ∈ cs.map (·.2)
      · have z' := (if_pos hb).symm.trans z
        cases z'
        exact tOk hb
      · have z' := (if_neg hb).symm.trans z
        cases z'
    · by_cases hb : b ∈ cs.map (·.2)
      · exact .inr hb
      · exact absurd (if_neg hb) z
  | none =>
    refine core (fun b => if b = a then some (.frz { cls := .type "list", data := .seq vs.toArray } (.lst (ns.map V.int))) else if b ∈ cs.map (·.2) then some (TabE b) else none) (fun p hp => (if_neg (show ¬ p.2 = a from fun z => aT (by rw [← z]; exact memT p hp))).trans (if_pos (memT p hp))) (fun b => ?_)
      (.inl (.inr ⟨{ cls := .type "list", data := .seq vs.toArray }, if_pos rfl⟩)) (fun b u z => ?_) (fun b z => ?_) fun _ => hk
    · by_cases hb : b = a
      · exact .inr (.inr ⟨_, _, if_pos hb⟩)
      · by_cases hb2 : b ∈ cs.map (·.2)
        · exact .inr (.inl hb2)
        · exact .inl ((if_neg hb).trans (if_neg hb2))
    · by_cases hb : b = a
      · have z' := (if_pos hb).symm.trans z
        cases z'
        rw [hb]
        exact ⟨ha, by rw [List.length_map]; exact hl, vs, _, rv, ha⟩
      · have z1 := (if_neg hb).symm.trans z
        by_cases hb2 : b ∈ cs.map (·.2)
        · have z' := (if_pos hb2).symm.trans z1
          cases z'
          exact tOk hb2
        · have z' := (if_neg hb2).symm.trans z1
          cases z'
    · by_cases hb : b = a
      · exact .inl hb
      · by_cases hb2 : b ∈ cs.map (·.2)
        · exact .inr hb2
        · exact absurd ((if_neg hb).trans (if_neg hb2)) z
/-- the tables of the defs that stand under these names: empty at the law's entry -/
def OwnT (K : PySem.W.Frag) (h : Heap) (x : Str) (c P : Addr) : Prop := ∀ (f : Addr) (o : Obj) (fd : FuncData) (e : Value) (dd : Option Addr) (vs : Array Value) (sl : Array (Option Value)), PySem.W.nsIn K mainGlobals x = some (some (.ref f)) → K.lookup f = some o → o.data = .func fd → fd.code = .ref c → K.lookup c = some ⟨e, dd, .fields vs, sl⟩ → vs[11]? = some (.ref P) →
  h.get? P = some { cls := .none, data := .fields #[] } ∧ PySem.W.CodeHd h c P
theorem walk_ofE {l : PySem.W.OpenLaw} {n k : Nat} {q : Program} {loose : List Str} {XP : (Str → Option Value) → Heap → Prop} {YP : World → Heap → Prop} {d : DefRec} {K : Params → PySem.W.Frag} {x : Str}
    (hn : l.most = some n) (hn2 : n ≤ sizeLine) (hdf : d.params.defaults = []) (hr : Room k callerA) (hY : ∀ (w : World) (h : Heap), YP w h → (K w.params).In h)
    (F : ∀ (w : World) (mg : Str → Option Value) (fa : Addr) (h : Heap), (K w.params).In h → h.Ns mainGlobals mg → mg d.name = some (.ref fa) → (∀ x c P, ((recsOf q).any fun e => e.name == x) = true → OwnT (K w.params) h x c P) →
      ∃ (fd : FuncData) (cs : List (Addr × Addr)) (sp : Sp), (∀ p ∈ cs, h.get? p.2 = some { cls := .none, data := .fields #[] }) ∧ (∀ p ∈ cs, (K w.params).lookup p.2 = none) ∧ (∀ p ∈ cs, PySem.W.CodeHd h p.1 p.2) ∧ (∀ (s : Shared) (u : Value), BindsTo s fd ⟨[u], []⟩ [(x, u)]) ∧
        (∀ (H : Hp) (a : Addr) (ns : List Int), ns.length ≤ n → (∀ z ∈ ns, Builtin.Int.intBits z ≤ 1048576) → Tabs cs H → SqL (K w.params) H a (ns.map V.int) → sp [.ref a] H (fun v H' => v = .bl true ∧ Tabs cs H') fun _ _ _ => False) ∧
        ∀ base : Heap, (K w.params).In base → base.Ns mainGlobals mg → (∀ p ∈ cs, GxR.TabB base mg p.1 p.2) → FnOk l.prog w (K w.params) mg base CX0 k fa fd [x] sp) :
    PySem.W.WalkO q loose XP YP l.row.toRowW d [] (fun f vs => PySem.call f vs) := by
  refine Att.attach_callB hn hdf fun w s₀ s₁ mg mb fa o pm cd doc a vs ns G Y ho hd hcd hmg hobj hints hlen hbits hg => ?_
  have KX := hY w _ Y
  obtain ⟨fd, cs, sp, hT, nT, C, hb, hsp, hF⟩ := F w mg fa _ KX G.T.g hmg fun x c P hrec f o1 fd1 e dd vs1 sl k0 k1 k2 k3 k4 k5 => by
    obtain ⟨dL, hm, hn1⟩ := List.any_eq_true.mp hrec
    have hn2 : dL.name = x := beq_iff_eq.mp hn1
    obtain ⟨a', o', fd', c', P', h1, h2, h3, h4, h5, h6⟩ := G.T.tab dL hm
    have q0 := PySem.W.mg_of KX G.T.g k0
    rw [hn2, q0] at h1
    cases h1
    have g1 := KX _ _ k1
    rw [g1] at h2
    cases h2
    rw [k2] at h3
    cases h3
    rw [k3] at h4
    cases h4
    have h6' := h6
    obtain ⟨⟨oc, vc, e1, _, e3, e4⟩, hP⟩ := h6
    have g2 := KX _ _ k4
    rw [g2] at e1
    cases e1
    cases e3
    rw [k5] at e4
    cases e4
    exact ⟨hP, PySem.W.CodeHd.of h5 h6'⟩
  exact law_callE KX G.T.g G.T.b G.T.builtins G.T.nolimit hg hT nT C G.T.bmain hobj hints (Nat.le_trans hlen hn2) hr hF hb (fun H hH hS => hsp H a ns hlen hbits hH hS)
end Sw
set_option Elab.async false
set_option maxRecDepth 100000
set_option maxHeartbeats 2000000
/-! `TooMany(n)`: an own exception whose `__init__` calls `super().__init__` with an f-string and then keeps n. -/
namespace SwX
open PySem PySem.W PySem.Calls PyProof.Rows PySem.HandSPX
def mArgs (p1 p2 : Pos) : Arguments :=
  { posonlyargs := [], args := [⟨"self", none, p1⟩, ⟨"most", none, p2⟩], vararg := none, kwonlyargs := [], kw_defaults := [],
    kwarg := none, defaults := [] }
def mVals (v1 v2 v3 : Pos) : List Expr := [.Constant (.str "there are more than ") 0 v1, .FormattedValue (.Name "most" v2) (-1) none v3]
def mSt1 (v1 v2 v3 a1 a2 a3 a4 a5 a6 : Pos) : Stmt :=
  .Expr (.Call (.Attribute (.Call (.Name "super" a1) [] [] a2) "__init__" a3) [.JoinedStr (mVals v1 v2 v3) a4] [] a5) a6
def mSt2 (b1 b2 b3 b4 : Pos) : Stmt := .Assign [.Attribute (.Name "self" b1) "most" b2] (.Name "most" b3) b4
def mScope : Scope :=
  { kind := .function, names := [("self", .local), ("most", .local), ("__class__", .free), ("super", .globalImplicit)],
    isGenerator := false, isCoroutine := false, more := [] }
def codeF (K : Frag) (cd : Value) (q file : Str) : Bool :=
  match cd with
  | .ref c =>
    match List.lookup c K with
    | some o =>
      match o.data with
      | .fields vs => match vs.toList with
        | _ :: .str n _ :: .str g _ :: _ => n == q && g == file
        | _ => false
      | _ => false
    | none => false
  | _ => false
def cellF (K : Frag) (cc C : Addr) : Bool :=
  match List.lookup cc K with
  | some o => match o.data with
    | .cell (some (.ref c)) => c == C
    | _ => false
  | none => false
theorem codeF_ok {K : Frag} {cd : Value} {q file : Str} (h : codeF K cd q file = true) :
    ∃ c o vs t t2, cd = .ref c ∧ List.lookup c K = some o ∧ o.data = .fields vs ∧ vs[1]? = some (.str q t) ∧ vs[2]? = some (.str file t2) := by
  unfold codeF at h
  split at h
  case h_2 => cases h
  rename_i c
  split at h
  case h_2 => cases h
  rename_i o ho
  split at h
  case h_2 => cases h
  rename_i vs hd
  split at h
  case h_2 => cases h
  rename_i e0 n t1 g t2 rest hv
  have hh := Bool.and_eq_true_iff.mp h
  have e1 : n = q := by simpa using hh.1
  have e2 : g = file := by simpa using hh.2
  subst e1; subst e2
  refine ⟨c, o, vs, t1, t2, rfl, ho, hd, ?_, ?_⟩
  · rw [← Array.getElem?_toList, hv]; rfl
  · rw [← Array.getElem?_toList, hv]; rfl
theorem cellF_ok {K : Frag} {cc C : Addr} (h : cellF K cc C = true) : ∃ o, List.lookup cc K = some o ∧ o.data = .cell (some (.ref C)) := by
  unfold cellF at h
  split at h
  case h_2 => cases h
  rename_i o ho
  split at h
  case h_2 => cases h
  rename_i c hd
  have e1 : c = C := by simpa using h
  subst e1
  exact ⟨o, ho, hd⟩
abbrev veMro : List Value := [.type "ValueError", .type "Exception", .type "BaseException", .type "object"]
/-- what the top has written of TooMany (at C) and of its __init__ (at fI) -/
structure ManyAt (K : Frag) (mg : Str → Option Value) (P : Program) (C fI : Addr) : Prop where
  gC : mg "TooMany" = some (.ref C)
  kl : ∃ n1 q1 ns1 b1 m1 s1 u1 ab1 c1 d1 z0 z1 z2 z3 z5,
    K.lookup C = some (excClassObj n1 q1 C ns1 b1 m1 true s1 u1 ab1 c1 d1 z0 z1 z2 z3 z5 "ValueError.__new__") ∧ refsVE m1 = true
  st : findIn K (.ref C) "__setattr__" = some (some (.builtin "object.__setattr__"))
  gt : findIn K (.ref C) "__getattribute__" = some (some (.builtin "BaseException.__getattribute__"))
  gn : findIn K (.ref C) "__getattr__" = some none
  nm : findIn K (.ref C) "most" = some none
  ini : findIn K (.ref C) "__init__" = some (some (.ref fI))
  tf : typeIn K (.ref fI) = some (.type "function")
  kp : keepIn K (.ref C) = true
  sB : subIn K (.ref C) (.type "BaseException") = some true
  sV : subIn K (.ref C) (.type "ValueError") = some true
  sC : subIn K (.ref C) (.ref C) = some true
  ty : typeIn K (.ref C) = some (.type "type")
  hd : hasDictIn K C = true
  sup : ks_superIn K C C "__init__" = some (some (.builtin "ValueError.__init__"))
  op : nsIn K cStatics "thirdparty.any" = some none
  xi : excInitIn K C veMro "ValueError.__new__" = true
  noS : mg "super" = none
  ms : (List.lookup (PySem.Str.ofString "super") P.main.scope.names).isSome = false
  fn : ∃ (oc : Value) (od : Option Addr) (doc pm : Value) (an : Option Addr) (cdv ct : Value) (cc : Addr) (osl : Array (Option Value)) (p1 p2 v1 v2 v3 a1 a2 a3 a4 a5 a6 b1 b2 b3 b4 : Pos),
    K.lookup fI = some ⟨oc, od, .func (ksFn "__init__" "TooMany.__init__" (mArgs p1 p2) [mSt1 v1 v2 v3 a1 a2 a3 a4 a5 a6, mSt2 b1 b2 b3 b4] mScope .none .none doc pm an cdv ct cc), osl⟩ ∧
    (a3.endLine == a5.line) = true ∧ codeF K cdv "TooMany.__init__" P.main.file = true ∧ cellF K cc C = true
/-- a made exception -/
structure Made (h h' : Heap) (e C d : Addr) (v : Value) : Prop where
  old : ∀ b o, h.get? b = some o → h'.get? b = some o
  fresh : h.objs.size ≤ e
  at_ : ∃ oe vs, h'.get? e = some oe ∧ oe.cls = .ref C ∧ oe.dict = some d ∧ oe.data = .fields vs ∧ vs[1]? = some .none
  fd : h.objs.size ≤ d
  ne : d ≠ e
  ns1 : h'.Ns1 d (fun y => if y = "most" then some v else none)
section
variable {prog : Program} {w : World} {A : Around} {E : Value → Shared → Prop} {R : Result → Shared → Prop} {s : Shared} {K : Frag} {mg mb : Str → Option Value} {C fI : Addr}
theorem len_app {y : Str} (hl : y.length ≤ 100000) : ((Str.empty ++ (PySem.Str.ofString "there are more than ")) ++ y).length ≤ sizeLine := by
  rw [sizeLine_eq, Str.length_append]
  have h : (Str.empty ++ (PySem.Str.ofString "there are more than ")).length = 20 := by decide +kernel
  rw [h]
  omega
theorem joinM {env : Env} {m : Str → Option Value} {v1 v2 v3 : Pos} {n : Int} {t : Tok} {Q : Str → Shared → Prop}
    (hk : env.scope.kind = .function) (hf : env.kindOf "most" = some .local) (hn : s.heap.Ns env.locals m) (hm : m "most" = some (.int n t))
    (hlog : n.natAbs.log2 < 1920) (hl : (PySem.Str.ofString (toString n)).length ≤ 100000)
    (hQ : ∀ out tk, out.length ≤ sizeLine → Q out { s with toks := tk }) :
    Joins (model prog w) A E (evalEach (mVals v1 v2 v3) env) Str.empty Q s := by
  refine Joins_cons (wpAny_Constant_str ⟨_, _, rfl, ?_, ?_⟩)
  · rw [sizeLine_eq]; decide +kernel
  refine Joins_cons (wpAny_FormattedValue_plain (wpAny_Name (wpAny_loadName_local hk hf hn hm (wpAny_formatField_int hlog ⟨_, _, rfl, ?_, ?_⟩)) (by decide)))
  · exact len_app hl
  · exact hQ _ _ (len_app hl)
theorem mc_he {env : Env} {o : Expr} {nm : Str} {v : Expr} {a3 a5 : Pos} (hp : (a3.endLine == a5.line) = true) (hs : starEach [v] env = [(false, eval v env)])
    (ho : eval (.Call (.Attribute o nm a3) [v] [] a5) env = (do
      let ov ← attributeBase o nm env (eval o env)
      standAt a3.atName
      methodCall o nm a3 a5 env ov 1 (backTo a5 (starEach [v] env)) [])) :
    ∃ pl, eval (.Call (.Attribute o nm a3) [v] [] a5) env = (do
      let ov ← attributeBase o nm env (eval o env)
      standAt a3.atName
      let x ← holding [ov] (getMethod ov nm pl)
      match x with
        | (f, first) => callWith a5 f first (backTo a5 (starEach [v] env)) []) := by
  refine ⟨do return (← importBound o env).getD true, ?_⟩
  rw [ho]
  have hf : methodCallForm 1 (backTo a5 (starEach [v] env)) [] = true := by
    rw [hs]; rfl
  unfold methodCall methodCallPos
  rw [hf, hp]
  rfl
theorem nolim_push {h : Heap} (H : h.NoLimit) {o : Obj} : (h.push o).NoLimit := H.keeps fun b o e => Heap.get?_push_of_some _ e
/-- `__init__` run on a fresh exception at x; hp: the heap before it was made -/
theorem many_init (T : ManyAt K mg prog C fI) {hp : Heap} {x t0 : Addr} {n : Int} {t : Tok} (Xp : K.In hp) (hlim : s.heap.NoLimit)
    (kp : ∀ b o, hp.get? b = some o → s.heap.get? b = some o) (hx : s.heap.get? x = some (excO C t0)) (hnx : hp.get? x = none) (hsz : hp.objs.size ≤ s.heap.objs.size)
    (hG : hp.Ns mainGlobals mg) (hB : hp.Ns builtinsNs mb) (hmb : mb "super" = some (.type "super")) (hroom : A.depth < recursionLimit)
    (hlog : n.natAbs.log2 < 1920) (hl : (PySem.Str.ofString (toString n)).length ≤ 100000)
    (hq : ∀ h' tk dx t1, (∀ b o, hp.get? b = some o → h'.get? b = some o) → h'.get? x = some { cls := .ref C, dict := some dx, data := .fields #[.ref t1, .none, .none, .none, .bool false, .none] } →
      hp.objs.size ≤ dx → dx ≠ x → (h'.Ns1 dx fun y => if y = "most" then some (.int n t) else none) → R (.ok (.ret .none)) { s with heap := h', toks := tk }) :
    codeAny (model prog w) A (.call (.ref fI) ⟨[.ref x, .int n t], []⟩) R s := by
  obtain ⟨oc, od, doc, pm, an, cdv, ct, cc, osl, p1, p2, v1, v2, v3, a1, a2, a3, a4, a5, a6, b1, b2, b3, b4, ho, hpos, hcd, hcc⟩ := T.fn
  obtain ⟨n1, q1, ns1, bb1, m1, s1, u1, ab1, c1, d1, z0, z1, z2, z3, z5, hC, hm1⟩ := T.kl
  obtain ⟨c, oc', vs, t1, t2, rfl, hc, hcdat, hvs1, hvs2⟩ := codeF_ok hcd
  obtain ⟨occ, hocc, hoccd⟩ := cellF_ok hcc
  have X : K.In s.heap := Xp.keeps kp
  refine ks_codeAny_call_defAt (binds := [("self", .ref x), ("most", .int n t)]) hroom (X _ _ ho) rfl hlim ⟨c, oc', vs, t1, rfl, X _ _ hc, hcdat, hvs1⟩ rfl
    (BindsTo.of_eq (by first | rfl | with_unfolding_all rfl))
    (by show ∀ y, y ∈ mScope.names → _; decide) (fun y hy => ?_) (fun h₀ hn k => ?_)
  · rcases List.mem_cons.mp hy with rfl | hy
    · rfl
    · rcases List.mem_cons.mp hy with rfl | hy
      · rfl
      · cases hy
  have X₀ : K.In h₀ := X.keeps k
  have kp₀ : ∀ b o, hp.get? b = some o → h₀.get? b = some o := fun b o e => k b o (kp b o e)
  refine ks_wpAt_execs_cons ?_
  with_unfolding_all refine ks_wpAt_Expr_any ?_
  obtain ⟨pl, he⟩ := mc_he (env := callEnv (ksFn "__init__" "TooMany.__init__" (mArgs p1 p2) [mSt1 v1 v2 v3 a1 a2 a3 a4 a5 a6, mSt2 b1 b2 b3 b4] mScope .none .none doc pm an (.ref c) ct cc) s.heap.objs.size fI)
    (o := .Call (.Name "super" a1) [] [] a2) (nm := "__init__") (v := .JoinedStr (mVals v1 v2 v3) a4) hpos rfl (by with_unfolding_all rfl)
  refine ks_wpAt_MethodCall (pl := pl) ?_ he
  refine ks_wpAt_super_base (f := fI) (cc := c) rfl rfl (by decide) rfl (X₀ _ _ ho) rfl rfl rfl (X₀ _ _ hc) hcdat hvs2 (by simp) T.ms ?_
  refine ks_loadName_global rfl rfl (loadGlobal_builtin (hG.keeps kp₀) T.noS (hB.keeps kp₀) hmb ⟨rfl, ?_⟩)
  refine wpAny_loadName_free rfl rfl (by first | rfl | with_unfolding_all rfl) ⟨occ, X₀ _ _ hocc, hoccd⟩ ?_
  refine wpAny_loadName_local rfl rfl hn rfl ?_
  refine ks_wpAny_isType_cls (X₀ _ _ hC) rfl ⟨rfl, ?_⟩
  have hx₀ := k _ _ hx
  refine ks_wpAny_call_super (X₀ _ _ hC) rfl hx₀ rfl (fun c e => by cases e) (looks_subIn X₀ T.sC) (fun h₁ hso k₁ => ?_)
  have X₁ : K.In h₁ := X₀.keeps k₁
  have hLx : s.heap.objs.size ≠ x := Nat.ne_of_gt (Heap.lt_size hx)
  have inp : ∀ b o, hp.get? b = some o → b < h₀.objs.size := fun b o e => Heap.lt_size (kp₀ b o e)
  have F₁ : Fr hp s.heap.objs.size h₁ (fun y => List.lookup y [(PySem.Str.ofString "self", Value.ref x), ("most", Value.int n t)].reverse) :=
    ⟨hn.keeps k₁, fun b o e => k₁ b o (kp₀ b o e), hsz⟩
  have N₁ : News hp s.heap.objs.size h₁ [(h₀.objs.size, ks_superObj C x C), (x, excObj C t0 none .none)] := by
    intro p hp'
    rcases List.mem_cons.mp hp' with rfl | hp'
    · refine ⟨hso, Nat.ne_of_gt hn.lt, ?_⟩
      cases e : hp.get? h₀.objs.size with
      | none => rfl
      | some o => exact absurd (inp _ _ e) (Nat.lt_irrefl _)
    rcases List.mem_cons.mp hp' with rfl | hp'
    · exact ⟨k₁ _ _ hx₀, Ne.symm hLx, hnx⟩
    · cases hp'
  refine kxs_method kxs_ValueError F₁ Xp N₁ (.head _) (InstAt.of_exc0 N₁ (.tail _ (.head _))) T.op T.sup T.sV (by decide) (fun q h₂ F₂ N₂ lt₂ => ?_)
  refine kxs_callWith1 (i := "ValueError.__init__") (x := x) N₂ (.head _) ?_
  refine spliced_cons ?_
  refine wpAny_JoinedStr (pos := a4) ?_
  refine joinM (v1 := v1) (v2 := v2) (v3 := v3) rfl rfl F₂.ns rfl hlog hl fun out tk hout => ⟨hout, ?_⟩
  refine spliced_nil ⟨kxs_at N₂ (.head _), ?_⟩
  refine kxs_call F₂ Xp N₂ F.excBase_ValueError T.xi (.head _) (t := t0) (dv := none) (c2 := .none) (UpdF.tail ?_ (UpdF.tail ?_ (UpdF.head ?_))) (by show 1 ≤ sizeLine; decide) (fun t' h₃ F₃ N₃ _ => ?_)
  · exact Nat.ne_of_gt (lt₂ (x, excObj C t0 none .none) (.tail _ (.head _)))
  · exact Nat.ne_of_gt (Heap.lt_size hx₀)
  · intro p hp'
    cases hp'
  have X₃ : K.In h₃ := Xp.keeps F₃.keep
  have hx₃ : h₃.get? x = some (excO C t') := (N₃ (x, excObj C t' none .none) (by simp)).1
  have hcl : clsIn K C = some { name := n1, bases := bb1, mro := .ref C :: m1, ns := ns1, qualname := q1, hasDict := true, slotNames := s1, subclasses := u1, abstract := ab1, collection := c1, hasDel := false } := by
    unfold clsIn
    rw [hC] <;> rfl
  refine wpAt_of_wpAny ?_
  show wpAny _ _ (execs _ _) _ _ _
  refine wpAny_execs_cons (plainObj_wpAny_Assign_Attribute ?_)
  refine wpAny_Name (wpAny_loadName_local rfl rfl F₃.ns rfl ?_) (by decide)
  refine wpAny_Name (wpAny_loadName_local rfl rfl F₃.ns rfl ?_) (by decide)
  refine set_plain X₃ (ox := excO C t') (od := none) ⟨hx₃, rfl, rfl, trivial⟩ T.st ?_
  refine exc_osa X₃ hx₃ hcl (show refsVE (.ref C :: m1) = true from hm1) rfl T.nm (fun h₄ tk₄ dx k₄ dn dne hx₄ hn₄ => ?_)
  show wpAny _ _ (execs _ _) _ _ _
  refine wpAny_execs_nil (hq h₄ tk₄ dx t' (fun b o e => k₄ b o (fun z => by rw [z, hnx] at e; cases e) (F₃.keep b o e)) hx₄ ?_ dne hn₄)
  have z : s.heap.objs.size < h₃.objs.size := F₃.ns.lt
  exact Nat.le_trans hsz (Nat.le_trans (Nat.le_of_lt z) dn)
theorem one_len (v : Value) : [v].length ≤ sizeLine := by
  rw [sizeLine_eq]; simp
/-- `TooMany(n)` -/
theorem many_made (T : ManyAt K mg prog C fI) {n : Int} {t : Tok} (X : K.In s.heap) (hlim : s.heap.NoLimit) (hG : s.heap.Ns mainGlobals mg) (hB : s.heap.Ns builtinsNs mb)
    (hmb : mb "super" = some (.type "super")) (hroom : A.depth + 1 < recursionLimit) (hlog : n.natAbs.log2 < 1920) (hl : (PySem.Str.ofString (toString n)).length ≤ 100000)
    (hq : ∀ h' tk e d, Made s.heap h' e C d (.int n t) → R (.ok (.ret (.ref e))) { s with heap := h', toks := tk }) :
    codeAny (model prog w) A (.call (.ref C) ⟨[.int n t], []⟩) R s := by
  obtain ⟨n1, q1, ns1, bb1, m1, s1, u1, ab1, c1, d1, z0, z1, z2, z3, z5, hC, hm1⟩ := T.kl
  obtain ⟨hp, g, dr, tk, os⟩ := s
  have k : ∀ b o, hp.get? b = some o → ((hp.push (kdv_tup [.int n t])).push (excO C hp.objs.size)).get? b = some o :=
    fun b o e => Heap.get?_push_of_some _ (Heap.get?_push_of_some _ e)
  have at_e : ((hp.push (kdv_tup [.int n t])).push (excO C hp.objs.size)).get? (hp.objs.size + 1) = some (excO C hp.objs.size) := by heap_get
  have out : hp.get? (hp.objs.size + 1) = none := by
    cases e : hp.get? (hp.objs.size + 1) with
    | none => rfl
    | some o => exact absurd (Nat.lt_of_succ_lt (Heap.lt_size e)) (Nat.lt_irrefl _)
  refine call_own F.excBase_ValueError (fun Y => refsVE_contains Y m1 hm1) (X _ _ hC) (looks_findIn X T.ini) (fun self => bind_fn X self T.tf) (one_len _) ?_
  refine many_init (s := ⟨(hp.push (kdv_tup [.int n t])).push (excO C hp.objs.size), g, dr, tk, os⟩) (hp := hp) T X (hlim.keeps k) k at_e out ?_ hG hB hmb ?_ hlog hl
    (fun h' tk' dx t1 keep hx dge dne hns => ?_)
  · rw [Heap.size_push, Heap.size_push]; omega
  · show A.depth + 1 < recursionLimit
    exact hroom
  · exact ⟨rfl, hq h' tk' (hp.objs.size + 1) dx ⟨keep, Nat.le_succ _, ⟨_, _, hx, rfl, rfl, rfl, rfl⟩, dge, dne, hns⟩⟩
end
end SwX
namespace L2
open PySem PySem.Spec PyProof.Rows SwX
theorem relO_most {v : V} {v' : Value} (r : RelV v v') (f : Str) : RelO (List.lookup f [(("most" : Str), v)]) (if f = "most" then some v' else none) := by
  by_cases h : f = "most"
  · rw [if_pos h, h]
    exact r
  · rw [if_neg h]
    have q : List.lookup f [(("most" : Str), v)] = none := by
      simp [List.lookup, show (f == ("most" : Str)) = false by simpa using h]
    rw [q]
    trivial
/-- reading of `TooMany(e)`, e a number -/
def tMany (C : Addr) (ta : TA) : St → Hp → XK → Prop := fun σ H Q => ta σ H fun vs H1 => ∃ n : Int, vs = [.int n] ∧ n.natAbs.log2 < 1920 ∧ (PySem.Str.ofString (toString n)).length ≤ 100000 ∧
  ∀ d, H1 d = none → Q (.ref C) (some d) (upd H1 d (.xd [(("most" : Str), .int n)]))
section
variable {X : Cx} {C fI : Addr}
theorem pmk_many {a : Expr} {ta : TA} {p pos : Pos} {k : Nat} (T : ManyAt X.K X.mg X.prog C fI) (hr : Room k X.A) (ha : PA X [a] ta) (hg : Gl X "TooMany" := by rfl)
    (he : starEach (a :: []) X.env = (false, eval a X.env) :: starEach [] X.env := by rfl) (hpl : (backTo pos (starEach [] X.env)).any (·.1) = false := by rfl) :
    PMk X (.Call (.Name "TooMany" p) [a] [] pos) (tMany C ta) := by
  intro pins s σ H Q I h
  refine wpAny_Call_Name_kw (ld_glob I hg T.gC ?_)
  refine PySem.W.callWith_K (h₀ := X.base) I.ok.mod.kin T.kp (thn (ha.run pos pins s σ H _ I h) fun us s1 hh => ?_) he hpl
  obtain ⟨vs, H1, I1, r1, n, rfl, hlog, hl, q1⟩ := hh
  refine ⟨I1.kIn, ?_⟩
  cases r1 with
  | cons rv rn =>
  rename_i v' us'
  cases rn
  obtain ⟨t, rfl⟩ : ∃ t, v' = Value.int n t := rv
  show wpAny _ _ (call (.ref C) [.int n t]) _ _ _
  have hlim := I1.nolimit
  obtain ⟨mb, hb1, hb2⟩ := I1.mod.blt
  have hG := I1.mod.glob.keeps I1.bk
  have hB := hb1.keeps I1.bk
  have hs : mb "super" = some (.type "super") := (hb2 _ (by decide)).trans (by first | rfl | boot_by_name | kernel_rfl)
  obtain ⟨hp, g, dr, tk, os⟩ := s1
  refine wpAny_call (many_made T I1.kIn hlim hG hB hs (by have := hr.dp; omega) hlog hl fun h' tk' e d M => ?_)
  show MkP X pins σ Q (.ref e) ⟨h', g, dr, tk', os⟩
  obtain ⟨oe, fv, hoe, hc, hd, hdat, hnone⟩ := M.at_
  obtain ⟨G', in1, in2⟩ := restrict h' fun b => decide (b ≠ e)
  have gk : ∀ b, b ≠ e → G'.get? b = h'.get? b := fun b hb => in1 b (decide_eq_true hb)
  have ge : G'.get? e = none := in2 e (by simp)
  have old : ∀ b o, hp.get? b = some o → G'.get? b = some o := fun b o q => (gk b (Nat.ne_of_lt (Nat.lt_of_lt_of_le (Heap.lt_size q) M.fresh))).trans (M.old b o q)
  have ob : ObjOk X.prog X.w (upd H1 d (.xd [(("most" : Str), .int n)])) G' d (.xd [(("most" : Str), .int n)]) :=
    ⟨_, M.ns1.at (fun o q => (gk d M.ne).trans q), fun f => relO_most (v := .int n) (v' := .int n t) ⟨t, rfl⟩ f⟩
  have J : Inv X pins σ (upd H1 d (.xd [(("most" : Str), .int n)])) ⟨G', g, dr, tk', os⟩ := I1.laid (t' := tk') old M.fd ob
  refine ⟨e, oe, fv, ⟨G', g, dr, tk', os⟩, _, .ref C, some d, rfl, J, fun b o q => ?_, ge, hoe, ⟨hc, hd⟩, hdat, hnone, ?_, rfl, I1.bare, raises_own T.sB T.ty, q1 d (I1.hok.fresh M.fd)⟩
  · have q' : G'.get? b = some o := q
    by_cases hb : b = e
    · rw [hb, ge] at q'; cases q'
    · exact (gk b hb).symm.trans q'
  · rw [upd_ne (Ne.symm M.ne)]
    exact I1.hok.fresh M.fresh
/-- `raise TooMany(e)` -/
def tRaiseMany (C : Addr) (W : WX) (ta : TA) : TS := fun _ σ H => tMany C ta σ H fun cls d H' => W cls d σ H'
theorem ps_raiseMany {a : Expr} {ta : TA} {W : WX} {p pos pos2 : Pos} {k : Nat} (hc : X.calm = true) (T : ManyAt X.K X.mg X.prog C fI) (hr : Room k X.A) (tk : Takes X W) (ha : PA X [a] ta)
    (hg : Gl X "TooMany" := by rfl) (he : starEach (a :: []) X.env = (false, eval a X.env) :: starEach [] X.env := by rfl)
    (hpl : (backTo pos (starEach [] X.env)).any (·.1) = false := by rfl) :
    PS X (.Raise (some (.Call (.Name "TooMany" p) [a] [] pos)) none pos2) (tRaiseMany C W ta) := ps_raise hc tk (pmk_many T hr ha hg he hpl)
end
end L2
set_option Elab.async false
set_option maxRecDepth 100000
set_option maxHeartbeats 2000000
/-! isinstance of a caught exception that has fields of its own; its fields -/
namespace L2
open PySem PySem.Spec PyProof.Rows
structure XcK (K : PySem.W.Frag) (C : Addr) : Prop where
  cl : (PySem.W.clsIn K C).isSome = true
  gt : PySem.W.findIn K (.ref C) "__getattribute__" = some (some (.builtin "BaseException.__getattribute__"))
  gn : PySem.W.findIn K (.ref C) "__getattr__" = some none
  sB : PySem.W.subIn K (.ref C) (.type "BaseException") = some true
  ac : PySem.W.findIn K (.ref C) "__class__" = some (some (.builtin "object.__class__"))
  ag : PySem.W.specialIn K (.builtin "object.__class__") "__get__" = some (some (.builtin "getset_descriptor.__get__"))
  at_ : PySem.W.takesIn K (.builtin "object.__class__") = some true
  ob : PySem.W.mroIn K C (.type "object") = some true
/-- isinstance(e, c), e the exception that the suite holds at a; c one class -/
def rIsX (K : PySem.W.Frag) (a : Addr) (cls : Value) (d : Option Addr) (C : Addr) : List V → Hp → VK → Prop := fun xs H Q =>
  cls = .ref C ∧ ∃ (dd : Addr) (fs : List (Str × V)) (c : V) (u : Value) (b : Bool), d = some dd ∧ H dd = some (.xd fs) ∧ xs = [.ref a, c] ∧ ClsV c u ∧ PySem.W.kitOne K (.ref C) u = some b ∧ Q (.bl b) H
/-- the same with a tuple of classes that was just laid -/
def rIsXT (K : PySem.W.Frag) (a : Addr) (cls : Value) (d : Option Addr) (C : Addr) : List V → Hp → VK → Prop := fun xs H Q =>
  cls = .ref C ∧ ∃ (dd : Addr) (fs : List (Str × V)) (tp : Addr) (cs : List V) (us : List Value) (b : Bool), d = some dd ∧ H dd = some (.xd fs) ∧ xs = [.ref a, .ref tp] ∧ H tp = some (.tup cs) ∧
    Paired ClsV cs us ∧ PySem.W.kitAny K (.ref C) us = some b ∧ Q (.bl b) H
section
variable {X : Cx} {a C : Addr} {oe : Obj} {cls : Value} {d : Option Addr} {pn : List (Addr × Obj)}
theorem inst_of {pins : List (Addr × Obj)} {σ : St} {H : Hp} {s : Shared} (I : Inv (X.suite a ((a, oe) :: pn)) pins σ H s) (hz : Zc (.ref C) d oe) (hf : ∃ vs, oe.data = .fields vs) {dd : Addr} {fs : List (Str × V)}
    (hd : d = some dd) (hH : H dd = some (.xd fs)) : ∃ od, PySem.W.InstAt s.heap a oe C (some od) := by
  subst hd
  obtain ⟨ha, _⟩ := I.pin (a, oe) (List.mem_append_left _ List.mem_cons_self)
  obtain ⟨vs, hv⟩ := hf
  obtain ⟨mA, hns, _⟩ := (show ObjOk X.prog X.w H s.heap dd (.xd fs) from I.hok dd _ hH)
  obtain ⟨od, ho, _⟩ := lookIn_ns hns
  exact ⟨od, ha, hz.1, by unfold PySem.W.notCls; rw [hv] <;> rfl, by rw [hz.2]; exact ho⟩
theorem call_isX (T : XcK X.K C) (hz : Zc cls d oe) (hf : ∃ vs, oe.data = .fields vs) : CallR (X.suite a ((a, oe) :: pn)) (.builtin "isinstance") (rIsX X.K a cls d C) := by
  intro pins s σ H xs us Q I r h
  obtain ⟨rfl, dd, fs, c, u, b, hd, hH, rfl, k, e, q⟩ := h
  obtain ⟨u1, u2, rfl, r1, r2⟩ := vals2 r
  cases (show u1 = Value.ref a from r1)
  have e2 := k.eq r2
  subst e2
  obtain ⟨od, J⟩ := inst_of I hz hf hd hH
  exact PySem.W.kia_one (PySem.W.kitx_exc T.cl T.gt T.gn T.sB T.ac T.ag T.at_ T.ob) I.kIn J e (fun z => nomatch z) fun tk => ⟨.bl b, H, I.tok tk, rfl, q⟩
theorem call_isXT (T : XcK X.K C) (hz : Zc cls d oe) (hf : ∃ vs, oe.data = .fields vs) : CallR (X.suite a ((a, oe) :: pn)) (.builtin "isinstance") (rIsXT X.K a cls d C) := by
  intro pins s σ H xs us Q I r h
  obtain ⟨rfl, dd, fs, tp, cs, ws, b, hd, hH, rfl, hT, k, e, q⟩ := h
  obtain ⟨u1, u2, rfl, r1, r2⟩ := vals2 r
  cases (show u1 = Value.ref a from r1)
  cases (show u2 = Value.ref tp from r2)
  obtain ⟨od, J⟩ := inst_of I hz hf hd hH
  obtain ⟨_, its, rv, o, h1, h2, n, h3⟩ := (show ObjOk X.prog X.w H s.heap tp (.tup cs) from I.hok tp _ hT)
  cases ClsV.all k rv
  obtain ⟨oc, od', dt, sl⟩ := o
  simp only at h2 h3
  subst h2 h3
  exact PySem.W.kia_tup (PySem.W.kitx_exc T.cl T.gt T.gn T.sB T.ac T.ag T.at_ T.ob) I.kIn J h1 e (fun z => nomatch z) fun tk => ⟨.bl b, H, I.tok tk, rfl, q⟩
end
end L2
set_option Elab.async false
set_option maxRecDepth 100000
set_option maxHeartbeats 2000000
/-! a caught exception that is kept beyond its suite: tracked by its own object -/
namespace L2
open PySem PySem.Spec PyProof.Rows
def xoP (a : Addr) (cls : Value) (d : Option Addr) (h : Heap) : Prop := ∃ ob, h.get? a = some ob ∧ Zc cls d ob ∧ ∃ fv, ob.data = .fields fv
/-- at a stands an exception: its class, its dict -/
def xo (a : Addr) (cls : Value) (d : Option Addr) : HO := .ext (xoP a cls d)
theorem xo_mk {P : Program} {w : World} {H : Hp} {h : Heap} {a : Addr} {cls : Value} {d : Option Addr} (k : xoP a cls d h) : ObjOk P w H h a (xo a cls d) := by
  obtain ⟨ob, e, r⟩ := id k
  exact ⟨k, ⟨ob, e⟩, fun h1 h2 ⟨ob1, e1, r1⟩ st => ⟨ob1, st _ e1, r1⟩⟩
theorem xo_get {P : Program} {w : World} {H : Hp} {h : Heap} {a : Addr} {cls : Value} {d : Option Addr} (ok : HOk P w H h) (e : H a = some (xo a cls d)) : xoP a cls d h := by
  have q : ObjOk P w H h a (.ext (xoP a cls d)) := ok a _ e
  exact q.1
theorem xo_ne {a : Addr} {cls : Value} {d : Option Addr} : (∀ y, xo a cls d ≠ .own y) ∧ (∀ xs, xo a cls d ≠ .tup xs) ∧ (∀ o u, xo a cls d ≠ .frz o u) ∧ (∀ ps, xo a cls d ≠ .tbl ps) := by
  refine ⟨fun y z => ?_, fun y z => ?_, fun y u z => ?_, fun y z => ?_⟩ <;> (unfold xo at z; cases z)
section
variable {X : Cx} {pins : List (Addr × Obj)} {σ : St} {H : Hp} {s : Shared} {a : Addr} {cls : Value} {d : Option Addr}
/-- an exception that the state does not speak of is spoken of -/
theorem Inv.track (I : Inv X pins σ H s) (new : X.s_0.heap.get? a = none) (k : xoP a cls d s.heap) (na : H a = none) (nL : a ≠ X.env.locals) (np : ∀ p ∈ X.pn ++ pins, p.1 ≠ a) : Inv X pins σ (upd H a (xo a cls d)) s := by
  have far : ∀ {b : Addr} {o : HO}, H b = some o → b ≠ a := fun e z => by rw [z, na] at e; cases e
  have old : ∀ {b : Addr} {o : Obj}, X.s_0.heap.get? b = some o → b ≠ a := fun e z => by rw [z, new] at e; cases e
  obtain ⟨ob, eo, hz, fv, hfv⟩ := id k
  exact {
    ok := I.ok
    os := I.os
    bare := I.bare
    base := {
      keep := I.base.keep
      slot := I.base.slot
      free := fun b o e1 e2 e3 => by rw [upd_ne (old e1)]; exact I.base.free b o e1 e2 e3
      there := I.base.there
      tups := fun b xs e => by have q := I.base.tups b xs e; rw [upd_ne (far q)]; exact q
      frzs := fun b o u e => by have q := I.base.frzs b o u e; rw [upd_ne (far q)]; exact q
      tbls := fun b ps e => by
        obtain ⟨more, q⟩ := I.base.tbls b ps e
        exact ⟨more, by rw [upd_ne (far q)]; exact q⟩ }
    loc := I.loc
    cell := I.cell
    free := by rw [upd_ne (Ne.symm nL)]; exact I.free
    freeC := fun x c e => by
      rw [upd_ne fun z => ?_]
      · exact I.freeC x c e
      · obtain ⟨v, oc, hc1, hc2⟩ := I.cell x c e
        rw [z, eo] at hc1
        cases hc1
        rw [hfv] at hc2
        cases hc2
    pin := fun p hp => by
      obtain ⟨q1, q2, q3⟩ := I.pin p hp
      exact ⟨q1, by rw [upd_ne (np p hp)]; exact q2, q3⟩
    hok := fun b o e => by
      by_cases hb : b = a
      · subst hb
        rw [upd_same] at e
        cases e
        exact xo_mk k
      · rw [upd_ne hb] at e
        exact (I.hok b o e).stay (fun _ _ _ q => q) (fun c q => by rw [upd_ne (far q)]; exact q) (fun c xs q => by rw [upd_ne (far q)]; exact q)
    len := I.len }
/-- into a suite without a pin, and out of it -/
theorem Inv.hold (I : Inv X pins σ H s) (a : Addr) : Inv (X.suite a (X.pn ++ pins)) [] σ H s where
  ok := I.ok.suite a _
  os := I.os
  bare := I.bare
  base := I.base
  loc := I.loc
  cell := I.cell
  free := I.free
  freeC := I.freeC
  pin := fun p hp => I.pin p (by rw [List.append_nil] at hp; exact hp)
  hok := I.hok
  len := I.len
theorem Inv.unhold {a : Addr} (ok : X.Ok) (I : Inv (X.suite a (X.pn ++ pins)) [] σ H s) : Inv X pins σ H s where
  ok := ok
  os := I.os
  bare := I.bare
  base := I.base
  loc := I.loc
  cell := I.cell
  free := I.free
  freeC := I.freeC
  pin := fun p hp => I.pin p (by rw [List.append_nil]; exact hp)
  hok := I.hok
  len := I.len
end
/-- what the clause wants, whose class the exception is surely of -/
def wKept (K : PySem.W.Frag) (c : Value) (i : Nat) (ts : Addr → TS) (D : Ends) : WX := fun cls d σ H => PySem.W.exmOne K cls c = some true ∧ ∀ a, H a = none →
  ts a { nx := fun τ G => D.nx (τ.set i none) G, rt := D.rt, bk := fun τ G => D.bk (τ.set i none) G, ct := fun τ G => D.ct (τ.set i none) G } (σ.set i (some (.ref a))) (upd H a (xo a cls d))
section
variable {X : Cx} {x nm : Str} {c : Value} {i : Nat} {bd rest : List Stmt} {st1 : Stmt} {p1 p2 p3 : Pos} {tb : WX → TS} {ts : Addr → TS}
theorem ps_try_kept (hst : X.stack = X.env :: X.outer) (hfr : X.env.frame = some X.env.locals) (hex : X.ex = []) (hN : X.N.Nodup) (hi : X.N[i]? = some nm) (hloc : X.env.kindOf nm = some .local) (hcl : Names X x c)
    (hbd : ∀ (W : WX) (pn : List (Addr × Obj)) (xe : Value → Shared → Prop), Takes (X.tr pn xe) W → PassesOwn (model X.prog X.w) X.A X.env xe → PSs (X.tr pn xe) bd (tb W))
    (hsu : ∀ (a : Addr) (pn : List (Addr × Obj)), PSs (X.suite a pn) (st1 :: rest) (ts a)) :
    PS X (.Try bd [.ExceptHandler (some (.Name x p1)) (some nm) (st1 :: rest) p2] [] [] p3) (fun D σ H => tb (wKept X.K c i ts D) D σ H) := by
  refine ⟨fun pins s σ H D I hyp => ?_⟩
  have okX := I.ok
  have hframes : X.A.frames = some (X.env :: X.outer) := okX.frames.trans (by rw [hst])
  refine wpAny_Try_except (wpAny_mono ((hbd (wKept X.K c i ts D) (X.pn ++ pins) (fun v sa => wpAny (model X.prog X.w) X.A (noteFrame v X.env) (fun _ sb => wpAny (model X.prog X.w) X.A (setFlight v none) (fun _ sc =>
    wpAny (model X.prog X.w) X.A (handleBy v X.env [.ExceptHandler (some (.Name x p1)) (some nm) (st1 :: rest) p2]) (SP X pins D) X.xe sc) X.xe sb) X.xe sa) (fun v sx hx => ?_) PassesOwn.looking).run [] s σ H D (I.toTry _) hyp) (fun fl sx hx => ?_) (fun _ _ hx => hx))
  · obtain ⟨a, Gr, sJ, pins1, τ, G, cls, d, rfl, J0, grd, upS, sky0, naG, osE, bareE, hmatch, hgo⟩ := hx
    have J := J0.ofTry okX
    rw [hst] at sky0
    refine Sky.land Zc.steady hframes hfr sky0 fun hA flA upA => ?_
    have JA := J.landed (s' := { sx with heap := hA }) grd flA.1 (upS.trans upA) osE bareE
    obtain ⟨obA, fvA, eA, zA, dA⟩ := flA.there
    have offF : a ∉ frs (X.env :: X.outer) := fun hm => by
      obtain ⟨_, ob', e', noF⟩ := flA.2.2.1.mem hm
      rw [eA] at e'
      cases e'
      exact noF fvA dA
    have neL : a ≠ X.env.locals := fun z => offF (List.mem_filterMap.mpr ⟨_, List.mem_cons_self, by rw [hfr, z]⟩)
    have noI : sJ.heap.get? a = none := by
      cases q : sJ.heap.get? a with
      | none => rfl
      | some ob =>
        have z := grd a ob q (by rw [hst]; exact offF)
        rw [flA.2.1] at z
        cases z
    have no0 : X.s_0.heap.get? a = none := by
      cases q : X.s_0.heap.get? a with
      | none => rfl
      | some ob =>
        obtain ⟨ob', z⟩ := J.base.there a ob q (by rw [hex]; intro z; cases z)
        rw [noI] at z
        cases z
    have noPin : ∀ p ∈ X.pn ++ pins, p.1 ≠ a := fun p hp z => by
      have q := (J.pin p hp).1
      rw [z, noI] at q
      cases q
    refine wpAny_handleBy_cons (codeAny_handlers_test ?_) (fun z => by cases z)
    have TY : PySem.W.Looks (model X.prog X.w) hA (typeOf (.ref a)) cls := fun _ _ _ _ kk qq => wpAny_typeOf_ref (kk _ _ eA) (by rw [zA.1]; exact qq)
    have MT := PySem.W.exm_one (M := model X.prog X.w) JA.kIn TY hmatch
    have HA := JA.hold a
    have asks : ∀ {Q E : Value → Shared → Prop}, Q c { sx with heap := hA } → wpAny (model X.prog X.w) (X.A.mark (some (.ref a))) (eval (.Name x p1) X.env) Q E { sx with heap := hA } := fun {Q E} qq => by
      obtain ⟨hg, hdbg, m1 | ⟨m1, m2, m3⟩⟩ := hcl
      · exact ld_glob (X := X.suite a (X.pn ++ pins)) HA hg m1 qq hdbg
      · exact ld_blt (X := X.suite a (X.pn ++ pins)) HA hg m1 m2 qq m3 hdbg
    refine asks (MT.here (codeAny_handlers_suite_as ?_))
    refine HandSPX.lands_againZ flA fun hB flB upB => ?_
    have JB := J.landed (s' := { sx with heap := hB }) grd flB.1 ((upS.trans upA).trans upB) osE bareE
    obtain ⟨obB, fvB, eB, zB, dB⟩ := flB.there
    have KB := (JB.track no0 ⟨obB, eB, zB, fvB, dB⟩ naG neL noPin).hold a
    refine store_ok (X := X.suite a (X.pn ++ pins)) (v := .ref a) KB hN hi (.inl hloc) rfl (fun sS KS => ?_) (.inr hloc)
    have gone : ∀ {τ6 : St} {G6 : Hp} {s6 : Shared} {Q : Shared → Prop}, Inv (X.suite a (X.pn ++ pins)) [] τ6 G6 s6 → (∀ s7, Inv X pins (τ6.set i none) G6 s7 → Q s7) →
        wpAny (model X.prog X.w) X.A (do bindName X.env nm .none; unbindBehindTheSuite X.env nm p2) (fun _ s7 => Q s7) X.xe s6 := fun K6 qq => gone_ok (K6.unhold okX) hN hi hloc qq
    refine wpAny_mono ((hsu a (X.pn ++ pins)).run [] sS _ _ _ KS (hgo a naG)) (fun fl6 s6 hs6 => ?_) (fun _ _ z => z.elim)
    cases fl6 with
    | next => obtain ⟨τ6, G6, K6, q6⟩ := hs6; exact gone K6 fun _ J7 => ⟨_, _, J7, q6⟩
    | brk => obtain ⟨τ6, G6, K6, q6⟩ := hs6; exact gone K6 fun _ J7 => ⟨_, _, J7, q6⟩
    | cont => obtain ⟨τ6, G6, K6, q6⟩ := hs6; exact gone K6 fun _ J7 => ⟨_, _, J7, q6⟩
    | ret u => obtain ⟨v6, τ6, G6, K6, r6, q6⟩ := hs6; exact gone K6 fun _ J7 => ⟨_, _, _, J7, r6, q6⟩
  · cases fl with
    | next => obtain ⟨τ, G, K, q⟩ := hx; exact wpAny_execs_nil ⟨τ, G, K.ofTry okX, q⟩
    | brk => obtain ⟨τ, G, K, q⟩ := hx; exact ⟨τ, G, K.ofTry okX, q⟩
    | cont => obtain ⟨τ, G, K, q⟩ := hx; exact ⟨τ, G, K.ofTry okX, q⟩
    | ret u => obtain ⟨v, τ, G, K, r, q⟩ := hx; exact ⟨v, τ, G, K.ofTry okX, r, q⟩
end
section
variable {X : Cx} {a C : Addr}
theorem xo_inst {P : Program} {w : World} {H : Hp} {h : Heap} (ok : HOk P w H h) {d : Addr} {fs : List (Str × V)} (e : H a = some (xo a (.ref C) (some d))) (ed : H d = some (.xd fs)) :
    ∃ (ob od : Obj) (mA : Str → Option Value), PySem.W.InstAt h a ob C (some od) ∧ (∀ n, PySem.W.lookIn n od = some (mA n)) ∧ ∀ n, RelO (fs.lookup n) (mA n) := by
  obtain ⟨ob, e1, z, fv, hfv⟩ := xo_get ok e
  have hx : ObjOk P w H h d (.xd fs) := ok d _ ed
  obtain ⟨mA, hns, hr⟩ := hx
  obtain ⟨od, ho, hl⟩ := lookIn_ns hns
  exact ⟨ob, od, mA, ⟨e1, z.1, by unfold PySem.W.notCls; rw [hfv] <;> rfl, by rw [z.2]; exact ho⟩, hl, hr⟩
/-- an exception of C stands at a -/
def IsXo (H : Hp) (a C d : Addr) (fs : List (Str × V)) : Prop := H a = some (xo a (.ref C) (some d)) ∧ H d = some (.xd fs)
/-- isinstance(e, c), e a kept exception, c one class -/
def rXo (K : PySem.W.Frag) : List V → Hp → VK → Prop := fun xs H Q => ∃ (a C d : Addr) (fs : List (Str × V)) (c : V) (u : Value) (b : Bool), IsXo H a C d fs ∧ XcK K C ∧ xs = [.ref a, c] ∧ ClsV c u ∧ PySem.W.kitOne K (.ref C) u = some b ∧ Q (.bl b) H
/-- .. a tuple of classes -/
def rXoT (K : PySem.W.Frag) : List V → Hp → VK → Prop := fun xs H Q => ∃ (a C d : Addr) (fs : List (Str × V)) (tp : Addr) (cs : List V) (us : List Value) (b : Bool), IsXo H a C d fs ∧ XcK K C ∧ xs = [.ref a, .ref tp] ∧ H tp = some (.tup cs) ∧ Paired ClsV cs us ∧
  PySem.W.kitAny K (.ref C) us = some b ∧ Q (.bl b) H
theorem call_xo : CallR X (.builtin "isinstance") (rXo X.K) := by
  intro pins s σ H xs us Q I r hyp
  obtain ⟨a, C, d, fs, c, u, b, ⟨e1, e2⟩, T, rfl, k, m, q⟩ := hyp
  obtain ⟨w1, w2, rfl, r1, r2⟩ := vals2 r
  obtain rfl : w1 = Value.ref a := r1
  obtain rfl := k.eq r2
  obtain ⟨ob, od, mA, J, _⟩ := xo_inst I.hok e1 e2
  exact PySem.W.kia_one (PySem.W.kitx_exc T.cl T.gt T.gn T.sB T.ac T.ag T.at_ T.ob) I.kIn J m (fun z => nomatch z) fun tk => ⟨.bl b, H, I.tok tk, rfl, q⟩
theorem call_xoT : CallR X (.builtin "isinstance") (rXoT X.K) := by
  intro pins s σ H xs us Q I r hyp
  obtain ⟨a, C, d, fs, tp, cs, ws, b, ⟨e1, e2⟩, T, rfl, hT, k, m, q⟩ := hyp
  obtain ⟨w1, w2, rfl, r1, r2⟩ := vals2 r
  obtain rfl : w1 = Value.ref a := r1
  obtain rfl : w2 = Value.ref tp := r2
  obtain ⟨ob, od, mA, J, _⟩ := xo_inst I.hok e1 e2
  have ht : ObjOk X.prog X.w H s.heap tp (.tup cs) := I.hok tp _ hT
  obtain ⟨_, its, rv, oT, g1, g2, n, g3⟩ := ht
  cases ClsV.all k rv
  obtain ⟨f1, f2, f3, f4⟩ := oT
  simp only at g2 g3
  subst g2 g3
  exact PySem.W.kia_tup (PySem.W.kitx_exc T.cl T.gt T.gn T.sB T.ac T.ag T.at_ T.ob) I.kIn J g1 m (fun z => nomatch z) fun tk => ⟨.bl b, H, I.tok tk, rfl, q⟩
/-- a kept exception's field -/
def tXo (K : PySem.W.Frag) (n : Str) (te : TE) : TE := fun σ H Q => te σ H fun x G => ∃ (a C d : Addr) (fs : List (Str × V)) (v : V), IsXo G a C d fs ∧ XfC K C ∧ PySem.W.findIn K (.ref C) n = some none ∧ x = .ref a ∧ fs.lookup n = some v ∧ Q v G
theorem pe_xo {e : Expr} {te : TE} {pos : Pos} {n : Str} (he : PE X e te) (hb : attributeBase e n X.env (eval e X.env) = eval e X.env := by rfl) : PE X (.Attribute e n pos) (tXo X.K n te) := by
  refine ⟨fun pins s σ H Q I hyp => attr_of hb (thn (he.run pins s σ H _ I hyp) fun u s1 hh => ?_)⟩
  obtain ⟨x, G, J, rx, a, C, d, fs, v, ⟨e1, e2⟩, T, hno, rfl, l, q⟩ := hh
  obtain rfl : u = Value.ref a := rx
  obtain ⟨ob, od, mA, I2, hl, hr⟩ := xo_inst J.hok e1 e2
  obtain ⟨y, hy, ry⟩ := RelO.some_of (v := v) (o := mA n) (by rw [← l]; exact hr n)
  exact HandSPX.exc_get J.kIn I2 T.ga T.gg T.exC (PySem.W.findObj_own T.hdC hno rfl (by rw [hl, hy])) (handed_of ry) ⟨v, G, J.tok _, ry, q⟩
end
end L2
set_option Elab.async false
set_option maxRecDepth 100000
set_option maxHeartbeats 2000000
/-! an exception class with an own `__init__`, called by keywords too -/
namespace SwX
open PySem PySem.W PySem.Calls PyProof.Rows PySem.HandSPX
section
variable {M : Model} {A : Around} {E : Value → Shared → Prop} {hp : Heap} {gs : Array GenState} {dr : Drawn} {tk : Nat} {os : OsState}
variable {n1 q1 : Str} {C s0 : Addr} {b1 m1 mB : List Value} {hz : Bool} {s1 : List Str} {u1 : List Value} {a1 : Bool} {c1 : Option Bool} {d1 : Option Addr} {y0 y1 y2 y3 y5 : Option Value} {B nw ini : String}
theorem newK_check (F : ExcBaseFacts B nw ini mB) (same : ∀ Y : String, m1.contains (.type Y) = mB.contains (.type Y)) {ps : List Value} {kws : List (Str × Value)} {Q : Unit → Shared → Prop}
    (here : hp.get? C = some (excClassObj n1 q1 C s0 b1 m1 hz s1 u1 a1 c1 d1 y0 y1 y2 y3 y5 nw)) (fin : Q () ⟨hp, gs, dr, tk, os⟩) : wpAny M A (checkBuiltinCall nw ⟨.ref C :: ps, kws⟩) Q E ⟨hp, gs, dr, tk, os⟩ := by
  have inB : (Value.ref C :: m1).contains (.type B) = true := by rw [List.contains_cons, same, F.hasB, Bool.or_true]
  have ns := F.noStar
  simp only [checkBuiltinCall, F.newSplit, F.newRow, F.newKind]
  repeat (first
    | refine wpAny_loadPart_at here ?_
    | refine wpAny_madeBy_exc here ?_
    | refine wpAny_staticBase_exc here ?_
    | (refine wpAny_isSubtype_exc here ?_; rw [inB])
    | simp only [Bool.false_eq_true, if_false, bne_self_eq_false]
    | wp_step)
  exact fin
end
section
variable {prog : Program} {w : World} {A : Around} {E : Value → Shared → Prop} {R : Result → Shared → Prop} {hp : Heap} {gs : Array GenState} {dr : Drawn} {tk : Nat} {os : OsState}
variable {n1 q1 : Str} {C s0 : Addr} {b1 m1 mB : List Value} {hz : Bool} {s1 : List Str} {u1 : List Value} {a1 : Bool} {c1 : Option Bool} {d1 : Option Addr} {y0 y1 y2 y3 y5 : Option Value} {B nw ini : String}
theorem newK (F : ExcBaseFacts B nw ini mB) (same : ∀ Y : String, m1.contains (.type Y) = mB.contains (.type Y)) {ps : List Value} {kws : List (Str × Value)}
    (here : hp.get? C = some (excClassObj n1 q1 C s0 b1 m1 hz s1 u1 a1 c1 d1 y0 y1 y2 y3 y5 nw)) (short : ps.length ≤ sizeLine)
    (fin : R (.ok (.ret (.ref (hp.objs.size + 1)))) ⟨(hp.push { cls := .type "tuple", data := .seq ps.toArray }).push (excO C hp.objs.size), gs, dr, tk, os⟩) :
    codeAny (model prog w) A (.builtin nw ⟨.ref C :: ps, kws⟩) R ⟨hp, gs, dr, tk, os⟩ := by
  have ends := F.ends
  have inB : (Value.ref C :: m1).contains (.type B) = true := by rw [List.contains_cons, same, F.hasB, Bool.or_true]
  have notA : (Value.ref C :: m1).contains (.type "AttributeError") = false := by rw [List.contains_cons, same, F.noAttr]; rfl
  have notN : (Value.ref C :: m1).contains (.type "NameError") = false := by rw [List.contains_cons, same, F.noName]; rfl
  refine codeAny_builtinAt F.entry ?_
  unfold Builtin.«BaseException.__new__»
  refine PySem.wpAt_bind ?_
  show PySem.wpAt _ _ _ (stack >>= _) _ _ _
  refine PySem.wpAt_bind (PySem.wpAt_stack fun _ _ => PySem.wpAt_of_wpAny ?_)
  wp_walk
  refine PySem.wpAt_of_wpAny ?_
  rw [F.owner]
  repeat (first
    | with_reducible refine wpAny_loadPart_at here ?_
    | with_reducible refine wpAny_madeHere_exc F.canon here ?_
    | (with_reducible refine wpAny_isSubtype_exc here ?_; first | rw [inB] | rw [notA] | rw [notN])
    | wp_step)
  show R _ _
  rw [Heap.size_push]
  exact fin
theorem typeK (F : ExcBaseFacts B nw ini mB) (same : ∀ Y : String, m1.contains (.type Y) = mB.contains (.type Y)) {ps : List Value} {kws : List (Str × Value)} {fI : Addr} {Q : Fin → Shared → Prop}
    (here : hp.get? C = some (excClassObj n1 q1 C s0 b1 m1 hz s1 u1 a1 c1 d1 y0 y1 y2 y3 y5 nw)) (short : ps.length ≤ sizeLine)
    (li : W.Looks (model prog w) hp (typeLookup (.ref C) "__init__") (some (.ref fI))) (lb : ∀ me, W.Looks (model prog w) hp (bindSpecial (.ref fI) me) (.ref fI, [me]))
    (fin : codeAny (model prog w) A (.call (.ref fI) ⟨.ref (hp.objs.size + 1) :: ps, kws⟩)
      (fun r s' => match r with | .ok (.ret v) => v = .none ∧ Q (.done (.ret (.ref (hp.objs.size + 1)))) s' | .ok _ => False | .error e => E e s')
      ⟨(hp.push (W.kdv_tup ps)).push (excO C hp.objs.size), gs, dr, tk, os⟩) :
    wpAny (model prog w) A (Builtin.«type.__call__» ⟨.ref C :: ps, kws⟩) Q E ⟨hp, gs, dr, tk, os⟩ := by
  repeat (first
    | with_reducible refine wpAny_madeBy_exc here ?_
    | with_reducible refine wpAny_loadPart_at here ?_
    | wp_step)
  refine codeAny_call_builtin_code (Code.quiet_builtin _ F.quiet) (newK_check F same here ?_)
  refine newK F same here short ?_
  show wpAny _ _ _ _ _ _
  have keep : ∀ b o, hp.get? b = some o → ((hp.push (W.kdv_tup ps)).push (excO C hp.objs.size)).get? b = some o := fun b o z => Heap.get?_push_of_some _ (Heap.get?_push_of_some _ z)
  have here2 := keep _ _ here
  have new2 : ((hp.push (W.kdv_tup ps)).push (excO C hp.objs.size)).get? (hp.objs.size + 1) = some (excO C hp.objs.size) := by heap_get
  have inC : (Value.ref C :: m1).contains (.ref C) = true := by simp
  have li2 := li.keeps keep
  have lb2 := (lb (.ref (hp.objs.size + 1))).keeps keep
  unfold isInstance
  repeat (first
    | with_reducible refine wpAny_loadPart_at new2 ?_
    | (with_reducible refine wpAny_isSubtype_exc here2 ?_; rw [inC])
    | wp_step)
  show wpAny _ _ (typeLookup (.ref C) _) _ _ _
  refine li2.at ?_
  refine wpAny_holding (wpAny_bind (lb2.at ?_))
  refine wpAny_bind (wpAny_call (codeAny_mono fin fun r s' z => ?_))
  rcases r with e | (v | _ | _ | _)
  · exact z
  · exact z.elim
  all_goals first | exact z.elim | skip
  all_goals (obtain ⟨rfl, z⟩ := z; first | exact wpAny_pure (wpAny_pure z) | (wp_walk; exact z))
theorem typeK_check {M : Model} {ps : List Value} {kws : List (Str × Value)} {Q : Unit → Shared → Prop} (here : hp.get? C = some (excClassObj n1 q1 C s0 b1 m1 hz s1 u1 a1 c1 d1 y0 y1 y2 y3 y5 nw))
    (fin : Q () ⟨hp, gs, dr, tk, os⟩) : wpAny M A (checkBuiltinCall "type.__call__" ⟨.ref C :: ps, kws⟩) Q E ⟨hp, gs, dr, tk, os⟩ := by
  have f3 := tc_sub
  have ty : (⟨hp, gs, dr, tk, os⟩ : Shared).TypeIs (.ref C) "type" := ⟨_, here, rfl⟩
  simp only [checkBuiltinCall, tc_split, tc_kind]
  repeat (any_goals (first
    | assumption
    | with_reducible refine wpAny_loadPart_at here ?_
    | with_reducible refine wpAny_map ?_
    | with_reducible refine wpAny_onRaise ?_
    | wp_step))
theorem callK (F : ExcBaseFacts B nw ini mB) (same : ∀ Y : String, m1.contains (.type Y) = mB.contains (.type Y)) {ps : List Value} {kws : List (Str × Value)} {fI : Addr}
    (here : hp.get? C = some (excClassObj n1 q1 C s0 b1 m1 hz s1 u1 a1 c1 d1 y0 y1 y2 y3 y5 nw)) (short : ps.length ≤ sizeLine)
    (li : W.Looks (model prog w) hp (typeLookup (.ref C) "__init__") (some (.ref fI))) (lb : ∀ me, W.Looks (model prog w) hp (bindSpecial (.ref fI) me) (.ref fI, [me]))
    (fin : codeAny (model prog w) (A.under (.builtin "type.__call__" ⟨.ref C :: ps, kws⟩)) (.call (.ref fI) ⟨.ref (hp.objs.size + 1) :: ps, kws⟩) (W.InitBack (hp.objs.size + 1) R)
      ⟨(hp.push (W.kdv_tup ps)).push (excO C hp.objs.size), gs, dr, tk, os⟩) :
    codeAny (model prog w) A (.call (.ref C) ⟨ps, kws⟩) R ⟨hp, gs, dr, tk, os⟩ := by
  have f1 := tc_lookup
  have f2 := tc_bind (.ref C)
  have ty : (⟨hp, gs, dr, tk, os⟩ : Shared).TypeIs (.ref C) "type" := ⟨_, here, rfl⟩
  refine codeAny_of_tree ?_
  show wpAny _ _ (callAny (.ref C) _) _ _ _
  repeat (any_goals (first
    | assumption
    | with_reducible refine wpAny_loadPart_at here ?_
    | wp_step))
  refine ⟨rfl, ?_⟩
  refine codeAny_call_builtin_at (Code.quiet_builtin _ (by decide +kernel)) entry_typeCall (typeK_check here (typeK F same here short li lb ?_))
  refine codeAny_mono fin fun r s' z => ?_
  rcases r with e | (v | _ | _ | _) <;> exact z
end
end SwX
set_option Elab.async false
set_option maxRecDepth 100000
set_option maxHeartbeats 2000000
/-! `NoText(n)`, `NoText(at=n)`, `TooMany(n)`, `TooMany(most=n)`: own exceptions whose `__init__` calls `super().__init__` with an f-string and then keeps n. -/
namespace SwX
open PySem PySem.W PySem.Calls PyProof.Rows PySem.HandSPX
/-- a made exception with one field -/
structure MadeF (fld : Str) (h h' : Heap) (e C d : Addr) (v : Value) : Prop where
  old : ∀ b o, h.get? b = some o → h'.get? b = some o
  fresh : h.objs.size ≤ e
  at_ : ∃ oe vs, h'.get? e = some oe ∧ oe.cls = .ref C ∧ oe.dict = some d ∧ oe.data = .fields vs
  fd : h.objs.size ≤ d
  ne : d ≠ e
  ns1 : h'.Ns1 d (fun y => if y = fld then some v else none)
end SwX
namespace SwZ
open PySem PySem.W PySem.Calls PyProof.Rows PySem.HandSPX SwX
def mArgs (p1 p2 : Pos) : Arguments :=
  { posonlyargs := [], args := [⟨"self", none, p1⟩, ⟨"most", none, p2⟩], vararg := none, kwonlyargs := [], kw_defaults := [],
    kwarg := none, defaults := [] }
def mVals (v1 v2 v3 : Pos) : List Expr := [.Constant (.str "there are more than ") 0 v1, .FormattedValue (.Name "most" v2) (-1) none v3]
def mSt1 (v1 v2 v3 a1 a2 a3 a4 a5 a6 : Pos) : Stmt :=
  .Expr (.Call (.Attribute (.Call (.Name "super" a1) [] [] a2) "__init__" a3) [.JoinedStr (mVals v1 v2 v3) a4] [] a5) a6
def mSt2 (b1 b2 b3 b4 : Pos) : Stmt := .Assign [.Attribute (.Name "self" b1) "most" b2] (.Name "most" b3) b4
def mScope : Scope :=
  { kind := .function, names := [("self", .local), ("most", .local), ("__class__", .free), ("super", .globalImplicit)],
    isGenerator := false, isCoroutine := false, more := [] }
/-- what the top has written of TooMany (at C) and of its __init__ (at fI) -/
structure ManyAt (K : Frag) (mg : Str → Option Value) (P : Program) (C fI : Addr) : Prop where
  gC : mg "TooMany" = some (.ref C)
  kl : ∃ n1 q1 ns1 b1 m1 s1 u1 ab1 c1 d1 z0 z1 z2 z3 z5,
    K.lookup C = some (excClassObj n1 q1 C ns1 b1 m1 true s1 u1 ab1 c1 d1 z0 z1 z2 z3 z5 "ValueError.__new__") ∧ refsVE m1 = true
  st : findIn K (.ref C) "__setattr__" = some (some (.builtin "object.__setattr__"))
  gt : findIn K (.ref C) "__getattribute__" = some (some (.builtin "BaseException.__getattribute__"))
  gn : findIn K (.ref C) "__getattr__" = some none
  nm : findIn K (.ref C) "most" = some none
  ini : findIn K (.ref C) "__init__" = some (some (.ref fI))
  tf : typeIn K (.ref fI) = some (.type "function")
  kp : keepIn K (.ref C) = true
  sB : subIn K (.ref C) (.type "BaseException") = some true
  sV : subIn K (.ref C) (.type "ValueError") = some true
  sC : subIn K (.ref C) (.ref C) = some true
  ty : typeIn K (.ref C) = some (.type "type")
  hd : hasDictIn K C = true
  sup : ks_superIn K C C "__init__" = some (some (.builtin "ValueError.__init__"))
  op : nsIn K cStatics "thirdparty.any" = some none
  xi : excInitIn K C veMro "ValueError.__new__" = true
  noS : mg "super" = none
  ms : (List.lookup (PySem.Str.ofString "super") P.main.scope.names).isSome = false
  fn : ∃ (oc : Value) (od : Option Addr) (doc pm : Value) (an : Option Addr) (cdv ct : Value) (cc : Addr) (osl : Array (Option Value)) (p1 p2 v1 v2 v3 a1 a2 a3 a4 a5 a6 b1 b2 b3 b4 : Pos),
    K.lookup fI = some ⟨oc, od, .func (ksFn "__init__" "TooMany.__init__" (mArgs p1 p2) [mSt1 v1 v2 v3 a1 a2 a3 a4 a5 a6, mSt2 b1 b2 b3 b4] mScope .none .none doc pm an cdv ct cc), osl⟩ ∧
    (a3.endLine == a5.line) = true ∧ codeF K cdv "TooMany.__init__" P.main.file = true ∧ cellF K cc C = true
section
variable {prog : Program} {w : World} {A : Around} {E : Value → Shared → Prop} {R : Result → Shared → Prop} {s : Shared} {K : Frag} {mg mb : Str → Option Value} {C fI : Addr}
theorem len_app {y : Str} (hl : y.length ≤ 100000) : ((Str.empty ++ (PySem.Str.ofString "there are more than ")) ++ y).length ≤ sizeLine := by
  rw [sizeLine_eq, Str.length_append]
  have h : (Str.empty ++ (PySem.Str.ofString "there are more than ")).length = 20 := by decide +kernel
  rw [h]
  omega
theorem joinM {env : Env} {m : Str → Option Value} {v1 v2 v3 : Pos} {n : Int} {t : Tok} {Q : Str → Shared → Prop}
    (hk : env.scope.kind = .function) (hf : env.kindOf "most" = some .local) (hn : s.heap.Ns env.locals m) (hm : m "most" = some (.int n t))
    (hlog : n.natAbs.log2 < 1920) (hl : (PySem.Str.ofString (toString n)).length ≤ 100000)
    (hQ : ∀ out tk, out.length ≤ sizeLine → Q out { s with toks := tk }) :
    Joins (model prog w) A E (evalEach (mVals v1 v2 v3) env) Str.empty Q s := by
  refine Joins_cons (wpAny_Constant_str ⟨_, _, rfl, ?_, ?_⟩)
  · rw [sizeLine_eq]; decide +kernel
  refine Joins_cons (wpAny_FormattedValue_plain (wpAny_Name (wpAny_loadName_local hk hf hn hm (wpAny_formatField_int hlog ⟨_, _, rfl, ?_, ?_⟩)) (by decide)))
  · exact len_app hl
  · exact hQ _ _ (len_app hl)
/-- `__init__` run on a fresh exception at x; hp: the heap before it was made -/
theorem many_init (T : ManyAt K mg prog C fI) {hp : Heap} {x t0 : Addr} {n : Int} {t : Tok} {args : Args} (ha : args = ⟨[.ref x, .int n t], []⟩ ∨ args = ⟨[.ref x], [("most", .int n t)]⟩) (Xp : K.In hp) (hlim : s.heap.NoLimit)
    (kp : ∀ b o, hp.get? b = some o → s.heap.get? b = some o) (hx : s.heap.get? x = some (excO C t0)) (hnx : hp.get? x = none) (hsz : hp.objs.size ≤ s.heap.objs.size)
    (hG : hp.Ns mainGlobals mg) (hB : hp.Ns builtinsNs mb) (hmb : mb "super" = some (.type "super")) (hroom : A.depth < recursionLimit)
    (hlog : n.natAbs.log2 < 1920) (hl : (PySem.Str.ofString (toString n)).length ≤ 100000)
    (hq : ∀ h' tk dx t1, (∀ b o, hp.get? b = some o → h'.get? b = some o) → h'.get? x = some { cls := .ref C, dict := some dx, data := .fields #[.ref t1, .none, .none, .none, .bool false, .none] } →
      hp.objs.size ≤ dx → dx ≠ x → (h'.Ns1 dx fun y => if y = "most" then some (.int n t) else none) → R (.ok (.ret .none)) { s with heap := h', toks := tk }) :
    codeAny (model prog w) A (.call (.ref fI) args) R s := by
  obtain ⟨oc, od, doc, pm, an, cdv, ct, cc, osl, p1, p2, v1, v2, v3, a1, a2, a3, a4, a5, a6, b1, b2, b3, b4, ho, hpos, hcd, hcc⟩ := T.fn
  obtain ⟨n1, q1, ns1, bb1, m1, s1, u1, ab1, c1, d1, z0, z1, z2, z3, z5, hC, hm1⟩ := T.kl
  obtain ⟨c, oc', vs, t1, t2, rfl, hc, hcdat, hvs1, hvs2⟩ := codeF_ok hcd
  obtain ⟨occ, hocc, hoccd⟩ := cellF_ok hcc
  have X : K.In s.heap := Xp.keeps kp
  refine ks_codeAny_call_defAt (binds := [("self", .ref x), ("most", .int n t)]) hroom (X _ _ ho) rfl hlim ⟨c, oc', vs, t1, rfl, X _ _ hc, hcdat, hvs1⟩ rfl
    (by rcases ha with rfl | rfl <;> exact BindsTo.of_eq (by first | rfl | with_unfolding_all rfl))
    (by show ∀ y, y ∈ mScope.names → _; decide) (fun y hy => ?_) (fun h₀ hn k => ?_)
  · rcases List.mem_cons.mp hy with rfl | hy
    · rfl
    · rcases List.mem_cons.mp hy with rfl | hy
      · rfl
      · cases hy
  have X₀ : K.In h₀ := X.keeps k
  have kp₀ : ∀ b o, hp.get? b = some o → h₀.get? b = some o := fun b o e => k b o (kp b o e)
  refine ks_wpAt_execs_cons ?_
  with_unfolding_all refine ks_wpAt_Expr_any ?_
  obtain ⟨pl, he⟩ := mc_he (env := callEnv (ksFn "__init__" "TooMany.__init__" (mArgs p1 p2) [mSt1 v1 v2 v3 a1 a2 a3 a4 a5 a6, mSt2 b1 b2 b3 b4] mScope .none .none doc pm an (.ref c) ct cc) s.heap.objs.size fI)
    (o := .Call (.Name "super" a1) [] [] a2) (nm := "__init__") (v := .JoinedStr (mVals v1 v2 v3) a4) hpos rfl (by with_unfolding_all rfl)
  refine ks_wpAt_MethodCall (pl := pl) ?_ he
  refine ks_wpAt_super_base (f := fI) (cc := c) rfl rfl (by decide) rfl (X₀ _ _ ho) rfl rfl rfl (X₀ _ _ hc) hcdat hvs2 (by simp) T.ms ?_
  refine ks_loadName_global rfl rfl (loadGlobal_builtin (hG.keeps kp₀) T.noS (hB.keeps kp₀) hmb ⟨rfl, ?_⟩)
  refine wpAny_loadName_free rfl rfl (by first | rfl | with_unfolding_all rfl) ⟨occ, X₀ _ _ hocc, hoccd⟩ ?_
  refine wpAny_loadName_local rfl rfl hn rfl ?_
  refine ks_wpAny_isType_cls (X₀ _ _ hC) rfl ⟨rfl, ?_⟩
  have hx₀ := k _ _ hx
  refine ks_wpAny_call_super (X₀ _ _ hC) rfl hx₀ rfl (fun c e => by cases e) (looks_subIn X₀ T.sC) (fun h₁ hso k₁ => ?_)
  have X₁ : K.In h₁ := X₀.keeps k₁
  have hLx : s.heap.objs.size ≠ x := Nat.ne_of_gt (Heap.lt_size hx)
  have inp : ∀ b o, hp.get? b = some o → b < h₀.objs.size := fun b o e => Heap.lt_size (kp₀ b o e)
  have F₁ : Fr hp s.heap.objs.size h₁ (fun y => List.lookup y [(PySem.Str.ofString "self", Value.ref x), ("most", Value.int n t)].reverse) :=
    ⟨hn.keeps k₁, fun b o e => k₁ b o (kp₀ b o e), hsz⟩
  have N₁ : News hp s.heap.objs.size h₁ [(h₀.objs.size, ks_superObj C x C), (x, excObj C t0 none .none)] := by
    intro p hp'
    rcases List.mem_cons.mp hp' with rfl | hp'
    · refine ⟨hso, Nat.ne_of_gt hn.lt, ?_⟩
      cases e : hp.get? h₀.objs.size with
      | none => rfl
      | some o => exact absurd (inp _ _ e) (Nat.lt_irrefl _)
    rcases List.mem_cons.mp hp' with rfl | hp'
    · exact ⟨k₁ _ _ hx₀, Ne.symm hLx, hnx⟩
    · cases hp'
  refine kxs_method kxs_ValueError F₁ Xp N₁ (.head _) (InstAt.of_exc0 N₁ (.tail _ (.head _))) T.op T.sup T.sV (by decide) (fun q h₂ F₂ N₂ lt₂ => ?_)
  refine kxs_callWith1 (i := "ValueError.__init__") (x := x) N₂ (.head _) ?_
  refine spliced_cons ?_
  refine wpAny_JoinedStr (pos := a4) ?_
  refine joinM (v1 := v1) (v2 := v2) (v3 := v3) rfl rfl F₂.ns rfl hlog hl fun out tk hout => ⟨hout, ?_⟩
  refine spliced_nil ⟨kxs_at N₂ (.head _), ?_⟩
  refine kxs_call F₂ Xp N₂ F.excBase_ValueError T.xi (.head _) (t := t0) (dv := none) (c2 := .none) (UpdF.tail ?_ (UpdF.tail ?_ (UpdF.head ?_))) (by show 1 ≤ sizeLine; decide) (fun t' h₃ F₃ N₃ _ => ?_)
  · exact Nat.ne_of_gt (lt₂ (x, excObj C t0 none .none) (.tail _ (.head _)))
  · exact Nat.ne_of_gt (Heap.lt_size hx₀)
  · intro p hp'
    cases hp'
  have X₃ : K.In h₃ := Xp.keeps F₃.keep
  have hx₃ : h₃.get? x = some (excO C t') := (N₃ (x, excObj C t' none .none) (by simp)).1
  have hcl : clsIn K C = some { name := n1, bases := bb1, mro := .ref C :: m1, ns := ns1, qualname := q1, hasDict := true, slotNames := s1, subclasses := u1, abstract := ab1, collection := c1, hasDel := false } := by
    unfold clsIn
    rw [hC] <;> rfl
  refine wpAt_of_wpAny ?_
  show wpAny _ _ (execs _ _) _ _ _
  refine wpAny_execs_cons (plainObj_wpAny_Assign_Attribute ?_)
  refine wpAny_Name (wpAny_loadName_local rfl rfl F₃.ns rfl ?_) (by decide)
  refine wpAny_Name (wpAny_loadName_local rfl rfl F₃.ns rfl ?_) (by decide)
  refine set_plain X₃ (ox := excO C t') (od := none) ⟨hx₃, rfl, rfl, trivial⟩ T.st ?_
  refine exc_osa X₃ hx₃ hcl (show refsVE (.ref C :: m1) = true from hm1) rfl T.nm (fun h₄ tk₄ dx k₄ dn dne hx₄ hn₄ => ?_)
  show wpAny _ _ (execs _ _) _ _ _
  refine wpAny_execs_nil (hq h₄ tk₄ dx t' (fun b o e => k₄ b o (fun z => by rw [z, hnx] at e; cases e) (F₃.keep b o e)) hx₄ ?_ dne hn₄)
  have z : s.heap.objs.size < h₃.objs.size := F₃.ns.lt
  exact Nat.le_trans hsz (Nat.le_trans (Nat.le_of_lt z) dn)
/-- `TooMany(n)`, `TooMany(most=n)` -/
theorem many_made (T : ManyAt K mg prog C fI) {n : Int} {t : Tok} {us : List Value} {kws : List (Str × Value)} (hu : us = [.int n t] ∧ kws = [] ∨ us = [] ∧ kws = [(("most" : Str), .int n t)]) (X : K.In s.heap) (hlim : s.heap.NoLimit) (hG : s.heap.Ns mainGlobals mg)
    (hB : s.heap.Ns builtinsNs mb) (hmb : mb "super" = some (.type "super")) (hroom : A.depth + 1 < recursionLimit) (hlog : n.natAbs.log2 < 1920) (hl : (PySem.Str.ofString (toString n)).length ≤ 100000)
    (hq : ∀ h' tk e d, MadeF "most" s.heap h' e C d (.int n t) → R (.ok (.ret (.ref e))) { s with heap := h', toks := tk }) :
    codeAny (model prog w) A (.call (.ref C) ⟨us, kws⟩) R s := by
  obtain ⟨n1, q1, ns1, bb1, m1, s1, u1, ab1, c1, d1, z0, z1, z2, z3, z5, hC, hm1⟩ := T.kl
  have small : us.length ≤ sizeLine := by
    rw [sizeLine_eq]
    rcases hu with ⟨rfl, _⟩ | ⟨rfl, _⟩ <;> simp
  obtain ⟨hp, g, dr, tk, os⟩ := s
  have k : ∀ b o, hp.get? b = some o → ((hp.push (kdv_tup us)).push (excO C hp.objs.size)).get? b = some o :=
    fun b o e => Heap.get?_push_of_some _ (Heap.get?_push_of_some _ e)
  have at_e : ((hp.push (kdv_tup us)).push (excO C hp.objs.size)).get? (hp.objs.size + 1) = some (excO C hp.objs.size) := by heap_get
  have out : hp.get? (hp.objs.size + 1) = none := by
    cases e : hp.get? (hp.objs.size + 1) with
    | none => rfl
    | some o => exact absurd (Nat.lt_of_succ_lt (Heap.lt_size e)) (Nat.lt_irrefl _)
  refine callK F.excBase_ValueError (fun Y => refsVE_contains Y m1 hm1) (X _ _ hC) small (looks_findIn X T.ini) (fun self => bind_fn X self T.tf) ?_
  refine many_init (s := ⟨(hp.push (kdv_tup us)).push (excO C hp.objs.size), g, dr, tk, os⟩) (hp := hp) (n := n) (t := t) (x := hp.objs.size + 1) T ?_ X (hlim.keeps k) k at_e out ?_ hG hB hmb ?_ hlog hl
    (fun h' tk' dx t1 keep hx dge dne hns => ?_)
  · rcases hu with ⟨rfl, rfl⟩ | ⟨rfl, rfl⟩
    · exact .inl rfl
    · exact .inr rfl
  · rw [Heap.size_push, Heap.size_push]; omega
  · show A.depth + 1 < recursionLimit
    exact hroom
  · exact ⟨rfl, hq h' tk' (hp.objs.size + 1) dx ⟨keep, Nat.le_succ _, ⟨_, _, hx, rfl, rfl, rfl⟩, dge, dne, hns⟩⟩
end
end SwZ
namespace SwY
open PySem PySem.W PySem.Calls PyProof.Rows PySem.HandSPX SwX
def mArgs (p1 p2 : Pos) : Arguments :=
  { posonlyargs := [], args := [⟨"self", none, p1⟩, ⟨"at", none, p2⟩], vararg := none, kwonlyargs := [], kw_defaults := [],
    kwarg := none, defaults := [] }
def mVals (v1 v2 v3 v4 : Pos) : List Expr := [.Constant (.str "no form's text: wrong from word ") 0 v1, .FormattedValue (.Name "at" v2) (-1) none v3, .Constant (.str " on") 0 v4]
def mSt1 (v1 v2 v3 v4 a1 a2 a3 a4 a5 a6 : Pos) : Stmt :=
  .Expr (.Call (.Attribute (.Call (.Name "super" a1) [] [] a2) "__init__" a3) [.JoinedStr (mVals v1 v2 v3 v4) a4] [] a5) a6
def mSt2 (b1 b2 b3 b4 : Pos) : Stmt := .Assign [.Attribute (.Name "self" b1) "at" b2] (.Name "at" b3) b4
def mScope : Scope :=
  { kind := .function, names := [("self", .local), ("at", .local), ("__class__", .free), ("super", .globalImplicit)],
    isGenerator := false, isCoroutine := false, more := [] }
/-- what the top has written of NoText (at C) and of its __init__ (at fI) -/
structure ManyAt (K : Frag) (mg : Str → Option Value) (P : Program) (C fI : Addr) : Prop where
  gC : mg "NoText" = some (.ref C)
  kl : ∃ n1 q1 ns1 b1 m1 s1 u1 ab1 c1 d1 z0 z1 z2 z3 z5,
    K.lookup C = some (excClassObj n1 q1 C ns1 b1 m1 true s1 u1 ab1 c1 d1 z0 z1 z2 z3 z5 "ValueError.__new__") ∧ refsVE m1 = true
  st : findIn K (.ref C) "__setattr__" = some (some (.builtin "object.__setattr__"))
  gt : findIn K (.ref C) "__getattribute__" = some (some (.builtin "BaseException.__getattribute__"))
  gn : findIn K (.ref C) "__getattr__" = some none
  nm : findIn K (.ref C) "at" = some none
  ini : findIn K (.ref C) "__init__" = some (some (.ref fI))
  tf : typeIn K (.ref fI) = some (.type "function")
  kp : keepIn K (.ref C) = true
  sB : subIn K (.ref C) (.type "BaseException") = some true
  sV : subIn K (.ref C) (.type "ValueError") = some true
  sC : subIn K (.ref C) (.ref C) = some true
  ty : typeIn K (.ref C) = some (.type "type")
  hd : hasDictIn K C = true
  sup : ks_superIn K C C "__init__" = some (some (.builtin "ValueError.__init__"))
  op : nsIn K cStatics "thirdparty.any" = some none
  xi : excInitIn K C veMro "ValueError.__new__" = true
  noS : mg "super" = none
  ms : (List.lookup (PySem.Str.ofString "super") P.main.scope.names).isSome = false
  fn : ∃ (oc : Value) (od : Option Addr) (doc pm : Value) (an : Option Addr) (cdv ct : Value) (cc : Addr) (osl : Array (Option Value)) (p1 p2 v1 v2 v3 v4 a1 a2 a3 a4 a5 a6 b1 b2 b3 b4 : Pos),
    K.lookup fI = some ⟨oc, od, .func (ksFn "__init__" "NoText.__init__" (mArgs p1 p2) [mSt1 v1 v2 v3 v4 a1 a2 a3 a4 a5 a6, mSt2 b1 b2 b3 b4] mScope .none .none doc pm an cdv ct cc), osl⟩ ∧
    (a3.endLine == a5.line) = true ∧ codeF K cdv "NoText.__init__" P.main.file = true ∧ cellF K cc C = true
section
variable {prog : Program} {w : World} {A : Around} {E : Value → Shared → Prop} {R : Result → Shared → Prop} {s : Shared} {K : Frag} {mg mb : Str → Option Value} {C fI : Addr}
theorem len_app {y : Str} (hl : y.length ≤ 100000) : ((Str.empty ++ (PySem.Str.ofString "no form's text: wrong from word ")) ++ y).length ≤ sizeLine := by
  rw [sizeLine_eq, Str.length_append]
  have h : (Str.empty ++ (PySem.Str.ofString "no form's text: wrong from word ")).length = 32 := by decide +kernel
  rw [h]
  omega
theorem len_on {y : Str} (hl : y.length ≤ 100000) : ((Str.empty ++ (PySem.Str.ofString "no form's text: wrong from word ")) ++ y ++ (PySem.Str.ofString " on")).length ≤ sizeLine := by
  rw [sizeLine_eq, Str.length_append, Str.length_append]
  have h : (Str.empty ++ (PySem.Str.ofString "no form's text: wrong from word ")).length = 32 := by decide +kernel
  have h2 : (PySem.Str.ofString " on").length = 3 := by decide +kernel
  rw [h, h2]
  omega
theorem joinM {env : Env} {m : Str → Option Value} {v1 v2 v3 v4 : Pos} {n : Int} {t : Tok} {Q : Str → Shared → Prop}
    (hk : env.scope.kind = .function) (hf : env.kindOf "at" = some .local) (hn : s.heap.Ns env.locals m) (hm : m "at" = some (.int n t))
    (hlog : n.natAbs.log2 < 1920) (hl : (PySem.Str.ofString (toString n)).length ≤ 100000)
    (hQ : ∀ out tk, out.length ≤ sizeLine → Q out { s with toks := tk }) :
    Joins (model prog w) A E (evalEach (mVals v1 v2 v3 v4) env) Str.empty Q s := by
  refine Joins_cons (wpAny_Constant_str ⟨_, _, rfl, ?_, ?_⟩)
  · rw [sizeLine_eq]; decide +kernel
  refine Joins_cons (wpAny_FormattedValue_plain (wpAny_Name (wpAny_loadName_local hk hf hn hm (wpAny_formatField_int hlog ⟨_, _, rfl, ?_, ?_⟩)) (by decide)))
  · exact len_app hl
  refine Joins_cons (wpAny_Constant_str ⟨_, _, rfl, ?_, ?_⟩)
  · exact len_on hl
  · exact hQ _ _ (len_on hl)
/-- `__init__` run on a fresh exception at x; hp: the heap before it was made -/
theorem many_init (T : ManyAt K mg prog C fI) {hp : Heap} {x t0 : Addr} {n : Int} {t : Tok} {args : Args} (ha : args = ⟨[.ref x, .int n t], []⟩ ∨ args = ⟨[.ref x], [("at", .int n t)]⟩) (Xp : K.In hp) (hlim : s.heap.NoLimit)
    (kp : ∀ b o, hp.get? b = some o → s.heap.get? b = some o) (hx : s.heap.get? x = some (excO C t0)) (hnx : hp.get? x = none) (hsz : hp.objs.size ≤ s.heap.objs.size)
    (hG : hp.Ns mainGlobals mg) (hB : hp.Ns builtinsNs mb) (hmb : mb "super" = some (.type "super")) (hroom : A.depth < recursionLimit)
    (hlog : n.natAbs.log2 < 1920) (hl : (PySem.Str.ofString (toString n)).length ≤ 100000)
    (hq : ∀ h' tk dx t1, (∀ b o, hp.get? b = some o → h'.get? b = some o) → h'.get? x = some { cls := .ref C, dict := some dx, data := .fields #[.ref t1, .none, .none, .none, .bool false, .none] } →
      hp.objs.size ≤ dx → dx ≠ x → (h'.Ns1 dx fun y => if y = "at" then some (.int n t) else none) → R (.ok (.ret .none)) { s with heap := h', toks := tk }) :
    codeAny (model prog w) A (.call (.ref fI) args) R s := by
  obtain ⟨oc, od, doc, pm, an, cdv, ct, cc, osl, p1, p2, v1, v2, v3, v4, a1, a2, a3, a4, a5, a6, b1, b2, b3, b4, ho, hpos, hcd, hcc⟩ := T.fn
  obtain ⟨n1, q1, ns1, bb1, m1, s1, u1, ab1, c1, d1, z0, z1, z2, z3, z5, hC, hm1⟩ := T.kl
  obtain ⟨c, oc', vs, t1, t2, rfl, hc, hcdat, hvs1, hvs2⟩ := codeF_ok hcd
  obtain ⟨occ, hocc, hoccd⟩ := cellF_ok hcc
  have X : K.In s.heap := Xp.keeps kp
  refine ks_codeAny_call_defAt (binds := [("self", .ref x), ("at", .int n t)]) hroom (X _ _ ho) rfl hlim ⟨c, oc', vs, t1, rfl, X _ _ hc, hcdat, hvs1⟩ rfl
    (by rcases ha with rfl | rfl <;> exact BindsTo.of_eq (by first | rfl | with_unfolding_all rfl))
    (by show ∀ y, y ∈ mScope.names → _; decide) (fun y hy => ?_) (fun h₀ hn k => ?_)
  · rcases List.mem_cons.mp hy with rfl | hy
    · rfl
    · rcases List.mem_cons.mp hy with rfl | hy
      · rfl
      · cases hy
  have X₀ : K.In h₀ := X.keeps k
  have kp₀ : ∀ b o, hp.get? b = some o → h₀.get? b = some o := fun b o e => k b o (kp b o e)
  refine ks_wpAt_execs_cons ?_
  with_unfolding_all refine ks_wpAt_Expr_any ?_
  obtain ⟨pl, he⟩ := mc_he (env := callEnv (ksFn "__init__" "NoText.__init__" (mArgs p1 p2) [mSt1 v1 v2 v3 v4 a1 a2 a3 a4 a5 a6, mSt2 b1 b2 b3 b4] mScope .none .none doc pm an (.ref c) ct cc) s.heap.objs.size fI)
    (o := .Call (.Name "super" a1) [] [] a2) (nm := "__init__") (v := .JoinedStr (mVals v1 v2 v3 v4) a4) hpos rfl (by with_unfolding_all rfl)
  refine ks_wpAt_MethodCall (pl := pl) ?_ he
  refine ks_wpAt_super_base (f := fI) (cc := c) rfl rfl (by decide) rfl (X₀ _ _ ho) rfl rfl rfl (X₀ _ _ hc) hcdat hvs2 (by simp) T.ms ?_
  refine ks_loadName_global rfl rfl (loadGlobal_builtin (hG.keeps kp₀) T.noS (hB.keeps kp₀) hmb ⟨rfl, ?_⟩)
  refine wpAny_loadName_free rfl rfl (by first | rfl | with_unfolding_all rfl) ⟨occ, X₀ _ _ hocc, hoccd⟩ ?_
  refine wpAny_loadName_local rfl rfl hn rfl ?_
  refine ks_wpAny_isType_cls (X₀ _ _ hC) rfl ⟨rfl, ?_⟩
  have hx₀ := k _ _ hx
  refine ks_wpAny_call_super (X₀ _ _ hC) rfl hx₀ rfl (fun c e => by cases e) (looks_subIn X₀ T.sC) (fun h₁ hso k₁ => ?_)
  have X₁ : K.In h₁ := X₀.keeps k₁
  have hLx : s.heap.objs.size ≠ x := Nat.ne_of_gt (Heap.lt_size hx)
  have inp : ∀ b o, hp.get? b = some o → b < h₀.objs.size := fun b o e => Heap.lt_size (kp₀ b o e)
  have F₁ : Fr hp s.heap.objs.size h₁ (fun y => List.lookup y [(PySem.Str.ofString "self", Value.ref x), ("at", Value.int n t)].reverse) :=
    ⟨hn.keeps k₁, fun b o e => k₁ b o (kp₀ b o e), hsz⟩
  have N₁ : News hp s.heap.objs.size h₁ [(h₀.objs.size, ks_superObj C x C), (x, excObj C t0 none .none)] := by
    intro p hp'
    rcases List.mem_cons.mp hp' with rfl | hp'
    · refine ⟨hso, Nat.ne_of_gt hn.lt, ?_⟩
      cases e : hp.get? h₀.objs.size with
      | none => rfl
      | some o => exact absurd (inp _ _ e) (Nat.lt_irrefl _)
    rcases List.mem_cons.mp hp' with rfl | hp'
    · exact ⟨k₁ _ _ hx₀, Ne.symm hLx, hnx⟩
    · cases hp'
  refine kxs_method kxs_ValueError F₁ Xp N₁ (.head _) (InstAt.of_exc0 N₁ (.tail _ (.head _))) T.op T.sup T.sV (by decide) (fun q h₂ F₂ N₂ lt₂ => ?_)
  refine kxs_callWith1 (i := "ValueError.__init__") (x := x) N₂ (.head _) ?_
  refine spliced_cons ?_
  refine wpAny_JoinedStr (pos := a4) ?_
  refine joinM (v1 := v1) (v2 := v2) (v3 := v3) (v4 := v4) rfl rfl F₂.ns rfl hlog hl fun out tk hout => ⟨hout, ?_⟩
  refine spliced_nil ⟨kxs_at N₂ (.head _), ?_⟩
  refine kxs_call F₂ Xp N₂ F.excBase_ValueError T.xi (.head _) (t := t0) (dv := none) (c2 := .none) (UpdF.tail ?_ (UpdF.tail ?_ (UpdF.head ?_))) (by show 1 ≤ sizeLine; decide) (fun t' h₃ F₃ N₃ _ => ?_)
  · exact Nat.ne_of_gt (lt₂ (x, excObj C t0 none .none) (.tail _ (.head _)))
  · exact Nat.ne_of_gt (Heap.lt_size hx₀)
  · intro p hp'
    cases hp'
  have X₃ : K.In h₃ := Xp.keeps F₃.keep
  have hx₃ : h₃.get? x = some (excO C t') := (N₃ (x, excObj C t' none .none) (by simp)).1
  have hcl : clsIn K C = some { name := n1, bases := bb1, mro := .ref C :: m1, ns := ns1, qualname := q1, hasDict := true, slotNames := s1, subclasses := u1, abstract := ab1, collection := c1, hasDel := false } := by
    unfold clsIn
    rw [hC] <;> rfl
  refine wpAt_of_wpAny ?_
  show wpAny _ _ (execs _ _) _ _ _
  refine wpAny_execs_cons (plainObj_wpAny_Assign_Attribute ?_)
  refine wpAny_Name (wpAny_loadName_local rfl rfl F₃.ns rfl ?_) (by decide)
  refine wpAny_Name (wpAny_loadName_local rfl rfl F₃.ns rfl ?_) (by decide)
  refine set_plain X₃ (ox := excO C t') (od := none) ⟨hx₃, rfl, rfl, trivial⟩ T.st ?_
  refine exc_osa X₃ hx₃ hcl (show refsVE (.ref C :: m1) = true from hm1) rfl T.nm (fun h₄ tk₄ dx k₄ dn dne hx₄ hn₄ => ?_)
  show wpAny _ _ (execs _ _) _ _ _
  refine wpAny_execs_nil (hq h₄ tk₄ dx t' (fun b o e => k₄ b o (fun z => by rw [z, hnx] at e; cases e) (F₃.keep b o e)) hx₄ ?_ dne hn₄)
  have z : s.heap.objs.size < h₃.objs.size := F₃.ns.lt
  exact Nat.le_trans hsz (Nat.le_trans (Nat.le_of_lt z) dn)
/-- `NoText(n)`, `NoText(most=n)` -/
theorem many_made (T : ManyAt K mg prog C fI) {n : Int} {t : Tok} {us : List Value} {kws : List (Str × Value)} (hu : us = [.int n t] ∧ kws = [] ∨ us = [] ∧ kws = [(("at" : Str), .int n t)]) (X : K.In s.heap) (hlim : s.heap.NoLimit) (hG : s.heap.Ns mainGlobals mg)
    (hB : s.heap.Ns builtinsNs mb) (hmb : mb "super" = some (.type "super")) (hroom : A.depth + 1 < recursionLimit) (hlog : n.natAbs.log2 < 1920) (hl : (PySem.Str.ofString (toString n)).length ≤ 100000)
    (hq : ∀ h' tk e d, MadeF "at" s.heap h' e C d (.int n t) → R (.ok (.ret (.ref e))) { s with heap := h', toks := tk }) :
    codeAny (model prog w) A (.call (.ref C) ⟨us, kws⟩) R s := by
  obtain ⟨n1, q1, ns1, bb1, m1, s1, u1, ab1, c1, d1, z0, z1, z2, z3, z5, hC, hm1⟩ := T.kl
  have small : us.length ≤ sizeLine := by
    rw [sizeLine_eq]
    rcases hu with ⟨rfl, _⟩ | ⟨rfl, _⟩ <;> simp
  obtain ⟨hp, g, dr, tk, os⟩ := s
  have k : ∀ b o, hp.get? b = some o → ((hp.push (kdv_tup us)).push (excO C hp.objs.size)).get? b = some o :=
    fun b o e => Heap.get?_push_of_some _ (Heap.get?_push_of_some _ e)
  have at_e : ((hp.push (kdv_tup us)).push (excO C hp.objs.size)).get? (hp.objs.size + 1) = some (excO C hp.objs.size) := by heap_get
  have out : hp.get? (hp.objs.size + 1) = none := by
    cases e : hp.get? (hp.objs.size + 1) with
    | none => rfl
    | some o => exact absurd (Nat.lt_of_succ_lt (Heap.lt_size e)) (Nat.lt_irrefl _)
  refine callK F.excBase_ValueError (fun Y => refsVE_contains Y m1 hm1) (X _ _ hC) small (looks_findIn X T.ini) (fun self => bind_fn X self T.tf) ?_
  refine many_init (s := ⟨(hp.push (kdv_tup us)).push (excO C hp.objs.size), g, dr, tk, os⟩) (hp := hp) (n := n) (t := t) (x := hp.objs.size + 1) T ?_ X (hlim.keeps k) k at_e out ?_ hG hB hmb ?_ hlog hl
    (fun h' tk' dx t1 keep hx dge dne hns => ?_)
  · rcases hu with ⟨rfl, rfl⟩ | ⟨rfl, rfl⟩
    · exact .inl rfl
    · exact .inr rfl
  · rw [Heap.size_push, Heap.size_push]; omega
  · show A.depth + 1 < recursionLimit
    exact hroom
  · exact ⟨rfl, hq h' tk' (hp.objs.size + 1) dx ⟨keep, Nat.le_succ _, ⟨_, _, hx, rfl, rfl, rfl⟩, dge, dne, hns⟩⟩
end
end SwY
set_option Elab.async false
set_option maxRecDepth 100000
set_option maxHeartbeats 2000000
/-! exceptions as values: made by a place or by a name, asked for their class, their fields read -/
namespace L2
open PySem PySem.Spec PyProof.Rows SwX
/-- a class with one field, called with it -/
structure MkF (X : Cx) (cn fld : Str) (C : Addr) : Prop where
  gC : X.mg cn = some (.ref C)
  kp : PySem.W.keepIn X.K (.ref C) = true
  run : ∀ {A : Around} {R : Result → Shared → Prop} {s : Shared} {mb : Str → Option Value} {n : Int} {t : Tok} {us : List Value} {kws : List (Str × Value)}, us = [.int n t] ∧ kws = [] ∨ us = [] ∧ kws = [(fld, .int n t)] → X.K.In s.heap → s.heap.NoLimit →
    s.heap.Ns mainGlobals X.mg → s.heap.Ns builtinsNs mb → mb "super" = some (.type "super") → A.depth + 1 < recursionLimit → n.natAbs.log2 < 1920 → (PySem.Str.ofString (toString n)).length ≤ 100000 →
    (∀ h' tk e d, MadeF fld s.heap h' e C d (.int n t) → R (.ok (.ret (.ref e))) { s with heap := h', toks := tk }) → codeAny (model X.prog X.w) A (.call (.ref C) ⟨us, kws⟩) R s
theorem mkF_many {X : Cx} {C fI : Addr} (T : SwZ.ManyAt X.K X.mg X.prog C fI) : MkF X "TooMany" "most" C :=
  ⟨T.gC, T.kp, fun a b c d e f g h i j => SwZ.many_made T a b c d e f g h i j⟩
theorem mkF_text {X : Cx} {C fI : Addr} (T : SwY.ManyAt X.K X.mg X.prog C fI) : MkF X "NoText" "at" C :=
  ⟨T.gC, T.kp, fun a b c d e f g h i j => SwY.many_made T a b c d e f g h i j⟩
theorem relO_fld {v : V} {v' : Value} (r : RelV v v') (fld f : Str) : RelO (List.lookup f [(fld, v)]) (if f = fld then some v' else none) := by
  by_cases h : f = fld
  · rw [if_pos h, h]
    have q : List.lookup fld [(fld, v)] = some v := by simp [List.lookup]
    rw [q]
    exact r
  · rw [if_neg h]
    have q : List.lookup f [(fld, v)] = none := by simp [List.lookup, show (f == fld) = false by simpa using h]
    rw [q]
    trivial
/-- the reading of C(n), C(fld=n) -/
def tMkF (C : Addr) (fld : Str) (ta : TA) : TE := fun σ H Q => ta σ H fun vs H1 => ∃ n : Int, vs = [.int n] ∧ n.natAbs.log2 < 1920 ∧ (PySem.Str.ofString (toString n)).length ≤ 100000 ∧
  ∀ e d, H1 d = none → H1 e = none → d ≠ e → Q (.ref e) (upd (upd H1 d (.xd [(fld, .int n)])) e (xo e (.ref C) (some d)))
section
variable {X : Cx} {cn fld : Str} {C : Addr}
theorem run_mkF {pins : List (Addr × Obj)} {σ : St} {H1 : Hp} {s1 : Shared} {Q : VK} {n : Int} {t : Tok} {us : List Value} {kws : List (Str × Value)} {k : Nat} (T : MkF X cn fld C) (hr : Room k X.A) (hu : us = [.int n t] ∧ kws = [] ∨ us = [] ∧ kws = [(fld, .int n t)])
    (I1 : Inv X pins σ H1 s1) (hlog : n.natAbs.log2 < 1920) (hl : (PySem.Str.ofString (toString n)).length ≤ 100000)
    (q1 : ∀ e d, H1 d = none → H1 e = none → d ≠ e → Q (.ref e) (upd (upd H1 d (.xd [(fld, .int n)])) e (xo e (.ref C) (some d)))) :
    wpAny (model X.prog X.w) X.A (call (.ref C) us kws) (EP X pins σ Q) X.xe s1 := by
  have hlim := I1.nolimit
  obtain ⟨mb, hb1, hb2⟩ := I1.mod.blt
  have hG := I1.mod.glob.keeps I1.bk
  have hB := hb1.keeps I1.bk
  have hs : mb "super" = some (.type "super") := (hb2 _ (by decide)).trans (by first | rfl | boot_by_name | kernel_rfl)
  obtain ⟨hp, g, dr, tk, os⟩ := s1
  refine wpAny_call (T.run hu I1.kIn hlim hG hB hs (by have := hr.dp; omega) hlog hl fun h' tk' e d M => ?_)
  obtain ⟨oe, fv, hoe, hc, hd, hdat⟩ := M.at_
  obtain ⟨G', in1, in2⟩ := restrict h' fun b => decide (b ≠ e)
  have gk : ∀ b, b ≠ e → G'.get? b = h'.get? b := fun b hb => in1 b (decide_eq_true hb)
  have ge : G'.get? e = none := in2 e (by simp)
  have old : ∀ b o, hp.get? b = some o → G'.get? b = some o := fun b o q => (gk b (Nat.ne_of_lt (Nat.lt_of_lt_of_le (Heap.lt_size q) M.fresh))).trans (M.old b o q)
  have ob : ObjOk X.prog X.w (upd H1 d (.xd [(fld, .int n)])) G' d (.xd [(fld, .int n)]) :=
    ⟨_, M.ns1.at (fun o q => (gk d M.ne).trans q), fun f => relO_fld (v := .int n) (v' := .int n t) ⟨t, rfl⟩ fld f⟩
  have J : Inv X pins σ (upd H1 d (.xd [(fld, .int n)])) ⟨G', g, dr, tk', os⟩ := I1.laid (t' := tk') old M.fd ob
  have nd : H1 d = none := I1.hok.fresh M.fd
  have ne : H1 e = none := I1.hok.fresh M.fresh
  have J2 := J.laidN (h' := h') (a := e) (o := xo e (.ref C) (some d)) (t' := tk') (fun b o q => by
    by_cases hb : b = e
    · rw [hb] at q
      have z : G'.get? e = some o := q
      rw [ge] at z; cases z
    · exact (gk b hb).symm.trans q) ge (by rw [upd_ne (Ne.symm M.ne)]; exact ne) (xo_mk ⟨oe, hoe, ⟨hc, hd⟩, fv, hdat⟩)
  exact ⟨.ref e, _, J2, rfl, q1 e d nd ne M.ne⟩
theorem pe_mkF {a : Expr} {ta : TA} {p pos : Pos} {k : Nat} (T : MkF X cn fld C) (hr : Room k X.A) (ha : PA X [a] ta) (hg : Gl X cn := by rfl)
    (he : starEach (a :: []) X.env = (false, eval a X.env) :: starEach [] X.env := by rfl) (hpl : (backTo pos (starEach [] X.env)).any (·.1) = false := by rfl) (hdb : (cn == ("__debug__" : Str)) = false := by decide) :
    PE X (.Call (.Name cn p) [a] [] pos) (tMkF C fld ta) := by
  refine ⟨fun pins s σ H Q I h => ?_⟩
  refine wpAny_Call_Name_kw (ld_glob I hg T.gC ?_ hdb)
  refine PySem.W.callWith_K (h₀ := X.base) I.ok.mod.kin T.kp (thn (ha.run pos pins s σ H _ I h) fun us s1 hh => ?_) he hpl
  obtain ⟨vs, H1, I1, r1, n, rfl, hlog, hl, q1⟩ := hh
  refine ⟨I1.kIn, ?_⟩
  cases r1 with
  | cons rv rn =>
  rename_i v' us'
  cases rn
  obtain ⟨t, rfl⟩ : ∃ t, v' = Value.int n t := rv
  exact run_mkF T hr (.inl ⟨rfl, rfl⟩) I1 hlog hl q1
theorem pe_mkFK {kw : List Keyword} {ta : TA} {p pos : Pos} {k : Nat} (T : MkF X cn fld C) (hr : Room k X.A) (hkw : PK X kw ta) (hg : Gl X cn := by rfl)
    (hall : (backToKw pos (keywordEach kw X.env)).all (·.1.isSome) = true := by rfl) (hks : (backToKw pos (keywordEach kw X.env)).filterMap (·.1) = [fld] := by rfl) (hdb : (cn == ("__debug__" : Str)) = false := by decide)
    (hpl : ((backTo pos (starEach [] X.env)).any (·.1) || (backToKw pos (keywordEach kw X.env)).any (·.1.isNone)) = false := by rfl) :
    PE X (.Call (.Name cn p) [] kw pos) (tMkF C fld ta) := by
  refine ⟨fun pins s σ H Q I h => ?_⟩
  refine wpAny_Call_Name_kw (ld_glob I hg T.gC ?_ hdb)
  refine PySem.W.callWith_KW0 (h₀ := X.base) I.ok.mod.kin T.kp hall ?_ hpl
  refine thn (hkw.run pos pins s σ H _ I h) fun ws s2 hh => ?_
  obtain ⟨vs, H1, I1, r1, n, rfl, hlog, hl, q1⟩ := hh
  refine ⟨I1.kIn, ?_⟩
  rw [hks]
  cases r1 with
  | cons rv rn =>
  rename_i v' us'
  cases rn
  obtain ⟨t, rfl⟩ : ∃ t, v' = Value.int n t := rv
  exact run_mkF T hr (.inr ⟨rfl, rfl⟩) I1 hlog hl q1
end
/-- an exception of D stands at a: with fields, or without -/
def IsEx (H : Hp) (a D : Addr) : Prop := (∃ d fs, IsXo H a D d fs) ∨ H a = some (ExO (.ref D) a)
/-- isinstance(e, c), e such an exception -/
def rEx (K : PySem.W.Frag) : List V → Hp → VK → Prop := fun xs H Q => ∃ (a D : Addr) (c : V) (u : Value) (b : Bool), IsEx H a D ∧ XcK K D ∧ PySem.W.hasDictIn K D = true ∧ xs = [.ref a, c] ∧ ClsV c u ∧ PySem.W.kitOne K (.ref D) u = some b ∧ Q (.bl b) H
theorem call_ex {X : Cx} : CallR X (.builtin "isinstance") (rEx X.K) := by
  intro pins s σ H xs us Q I r hyp
  obtain ⟨a, D, c, u, b, w, T, hd, rfl, k, m, q⟩ := hyp
  obtain ⟨w1, w2, rfl, r1, r2⟩ := vals2 r
  obtain rfl : w1 = Value.ref a := r1
  obtain rfl := k.eq r2
  rcases w with ⟨d, fs, e1, e2⟩ | e1
  · obtain ⟨ob, od, mA, J, _⟩ := xo_inst I.hok e1 e2
    exact PySem.W.kia_one (PySem.W.kitx_exc T.cl T.gt T.gn T.sB T.ac T.ag T.at_ T.ob) I.kIn J m (fun z => nomatch z) fun tk => ⟨.bl b, H, I.tok tk, rfl, q⟩
  · obtain ⟨⟨ob, fv, ho, ⟨h1, h2⟩, h3, _⟩, _, _⟩ := I.hok a _ e1
    obtain ⟨oc, od, dt, sl⟩ := ob
    dsimp only at h1 h2 h3
    subst h1 h2 h3
    have J : PySem.W.InstAt s.heap a ⟨.ref D, none, .fields fv, sl⟩ D none := ⟨ho, rfl, rfl, trivial⟩
    exact PySem.W.kia_one (PySem.W.handS_kitx_exc T.gt T.gn T.sB hd T.ac T.ag T.at_ T.ob) I.kIn J m (fun z => nomatch z) fun tk => ⟨.bl b, H, I.tok tk, rfl, q⟩
end L2
set_option Elab.async false
set_option maxRecDepth 100000
set_option maxHeartbeats 4000000
namespace Sw
open PySem L2 PySem.Spec PyProof.Rows
def top (i : Nat) : Stmt := PySem.Challenge.pw_soleway_k07_refusals_apart.main.body.getD i (.Pass ⟨0, 0, 0, 0⟩)
abbrev s_law_sorts : Stmt := top 10
abbrev s_law : Stmt := top 11
end Sw
set_option Elab.async false
set_option maxRecDepth 100000
set_option maxHeartbeats 4000000
namespace Sw
open PySem L2 PySem.Spec PyProof.Rows
abbrev n_law_sorts : List Str := ["one", "found"]
theorem sc_law_sorts : FnScope n_law_sorts ["one"] (defScope s_law_sorts) := ⟨rfl, rfl, rfl, by decide +kernel, rfl, by decide +kernel, by decide +kernel⟩
abbrev n_law : List Str := ["script", "number", "text", "cell", "made", "k", "j"]
theorem sc_law : FnScope n_law ["script"] (defScope s_law) := ⟨rfl, rfl, rfl, by decide +kernel, rfl, by decide +kernel, by decide +kernel⟩
/-- what a class must say of itself -/
def clsB (K : PySem.W.Frag) (D : Addr) : Bool :=
  (PySem.W.clsIn K D).isSome && (decide (PySem.W.findIn K (.ref D) "__getattribute__" = some (some (.builtin "BaseException.__getattribute__"))) && (decide (PySem.W.findIn K (.ref D) "__getattr__" = some none) &&
  (decide (PySem.W.subIn K (.ref D) (.type "BaseException") = some true) && (decide (PySem.W.findIn K (.ref D) "__class__" = some (some (.builtin "object.__class__"))) && (decide (PySem.W.specialIn K (.builtin "object.__class__") "__get__" = some (some (.builtin "getset_descriptor.__get__"))) &&
  (decide (PySem.W.takesIn K (.builtin "object.__class__") = some true) && (decide (PySem.W.mroIn K D (.type "object") = some true) && PySem.W.hasDictIn K D)))))))
theorem clsB_ok {K : PySem.W.Frag} {D : Addr} (h : clsB K D = true) : XcK K D ∧ PySem.W.hasDictIn K D = true := by
  unfold clsB at h
  simp only [Bool.and_eq_true, decide_eq_true_eq] at h
  obtain ⟨a, b, c, d, e, f, g, i, j⟩ := h
  exact ⟨⟨a, b, c, d, e, f, g, i⟩, j⟩
/-- .. and of the others, of the base, of ValueError -/
def kit7 (K : PySem.W.Frag) (cs : List Addr) (W : Addr) : Bool :=
  cs.zipIdx.all fun p => clsB K p.1 && (decide (PySem.W.kitOne K (.ref p.1) (.ref W) = some true) && (decide (PySem.W.kitOne K (.ref p.1) (.type "ValueError") = some true) &&
    cs.zipIdx.all fun q => decide (PySem.W.kitOne K (.ref p.1) (.ref q.1) = some (decide (q.2 = p.2)))))
structure Seven (K : PySem.W.Frag) (mg : Str → Option Value) (c0 c1 c2 c3 c4 c5 c6 W : Addr) : Prop where
  g0 : mg "NoText" = some (.ref c0)
  g1 : mg "TooMany" = some (.ref c1)
  g2 : mg "TooWide" = some (.ref c2)
  g3 : mg "NotOnce" = some (.ref c3)
  g4 : mg "NoSign" = some (.ref c4)
  g5 : mg "NoRow" = some (.ref c5)
  g6 : mg "NoName" = some (.ref c6)
  gW : mg "WayError" = some (.ref W)
  gV : mg "ValueError" = none
  kit : kit7 K [c0, c1, c2, c3, c4, c5, c6] W = true
section
variable {K : PySem.W.Frag} {cs : List Addr} {W : Addr}
theorem kit7_ok (h : kit7 K cs W = true) {i : Nat} {D : Addr} (hi : cs[i]? = some D) : XcK K D ∧ PySem.W.hasDictIn K D = true ∧ PySem.W.kitOne K (.ref D) (.ref W) = some true ∧ PySem.W.kitOne K (.ref D) (.type "ValueError") = some true ∧
    ∀ j E, cs[j]? = some E → PySem.W.kitOne K (.ref D) (.ref E) = some (decide (j = i)) := by
  have m : ∀ {j : Nat} {E : Addr}, cs[j]? = some E → (E, j) ∈ cs.zipIdx := fun e => List.mem_zipIdx_iff_getElem?.mpr e
  have q := List.all_eq_true.mp h _ (m hi)
  simp only [Bool.and_eq_true, decide_eq_true_eq] at q
  obtain ⟨q1, q2, q3, q4⟩ := q
  obtain ⟨r1, r2⟩ := clsB_ok q1
  refine ⟨r1, r2, q2, q3, fun j E e => ?_⟩
  have z := List.all_eq_true.mp q4 _ (m e)
  simpa using z
theorem exSame {H H' : Hp} {a D : Addr} (h : IsEx H a D) (s : Same H H') : IsEx H' a D := by
  rcases h with ⟨d, fs, e1, e2⟩ | e
  · exact .inl ⟨d, fs, s _ _ e1, s _ _ e2⟩
  · exact .inr (s _ _ e)
end
def sortsV (i : Nat) : List V := (List.range 7).map fun j => .bl (decide (j = i))
/-- `_law_sorts(e)`: e of the i-th class -/
def spSorts (cs : List Addr) : Sp := fun vs H Q _ => ∃ (a D : Addr) (i : Nat), vs = [.ref a] ∧ IsEx H a D ∧ cs[i]? = some D ∧ ∀ H' p, Same H H' → H' p = some (.lst (sortsV i)) → Q (.ref p) H'
section
variable {P : Program} {w : World} {K : PySem.W.Frag} {mg : Str → Option Value} {base : Heap} {c0 c1 c2 c3 c4 c5 c6 W : Addr}
theorem ok_law_sorts (F : DefAt K mg "_law_sorts" s_law_sorts ["one"]) (Y : Seven K mg c0 c1 c2 c3 c4 c5 c6 W) (b_isinstance : mg "isinstance" = none) : DefOk P w K mg base "_law_sorts" 1 ["one"] (spSorts [c0, c1, c2, c3, c4, c5, c6]) := by
  refine F.ok sc_law_sorts (fun vs H Q E h => ?_) (fun fA cdv A outer s H vs Q E hr h => ?_)
  · obtain ⟨_, _, _, rfl, _⟩ := h
    rfl
  obtain ⟨a, D, i, rfl, he, hi, k⟩ := h
  obtain ⟨q1, q2, _, _, q5⟩ := kit7_ok Y.kit hi
  refine ⟨_, (pss_cons (ps_set (i := 1) sc_law_sorts.nd rfl (Or.inl rfl) (pe_lst (pa_cons (pe_callB call_ex (by rfl) b_isinstance (by decide +kernel) (pa_cons (pv 0) (pa_cons (pe_glob (v := .ref c0) rfl Y.g0 rfl) pa_nil))) (pa_cons (pe_callB call_ex (by rfl) b_isinstance (by decide +kernel) (pa_cons (pv 0) (pa_cons (pe_glob (v := .ref c1) rfl Y.g1 rfl) pa_nil))) (pa_cons (pe_callB call_ex (by rfl) b_isinstance (by decide +kernel) (pa_cons (pv 0) (pa_cons (pe_glob (v := .ref c2) rfl Y.g2 rfl) pa_nil))) (pa_cons (pe_callB call_ex (by rfl) b_isinstance (by decide +kernel) (pa_cons (pv 0) (pa_cons (pe_glob (v := .ref c3) rfl Y.g3 rfl) pa_nil))) pa_nil))))))
    (pss_one (ps_ret (pe_op op_cat (pv 1) (pe_lst (pa_cons (pe_callB call_ex (by rfl) b_isinstance (by decide +kernel) (pa_cons (pv 0) (pa_cons (pe_glob (v := .ref c4) rfl Y.g4 rfl) pa_nil))) (pa_cons (pe_callB call_ex (by rfl) b_isinstance (by decide +kernel) (pa_cons (pv 0) (pa_cons (pe_glob (v := .ref c5) rfl Y.g5 rfl) pa_nil))) (pa_cons (pe_callB call_ex (by rfl) b_isinstance (by decide +kernel) (pa_cons (pv 0) (pa_cons (pe_glob (v := .ref c6) rfl Y.g6 rfl) pa_nil))) pa_nil)))))))), ?_⟩
  have z4 : (4 : Nat) ≤ sizeLine := by decide
  have z3 : (3 : Nat) ≤ sizeLine := by decide
  refine ⟨_, rfl, a, D, _, _, _, he, q1, q2, rfl, .own _, q5 0 _ rfl, ?_⟩
  refine ⟨_, rfl, a, D, _, _, _, he, q1, q2, rfl, .own _, q5 1 _ rfl, ?_⟩
  refine ⟨_, rfl, a, D, _, _, _, he, q1, q2, rfl, .own _, q5 2 _ rfl, ?_⟩
  refine ⟨_, rfl, a, D, _, _, _, he, q1, q2, rfl, .own _, q5 3 _ rfl, z4, fun p n1 => ?_⟩
  have s1 := Same.new n1 (o := .lst [.bl (decide (0 = i)), .bl (decide (1 = i)), .bl (decide (2 = i)), .bl (decide (3 = i))])
  refine ⟨_, rfl, ?_⟩
  refine ⟨_, rfl, a, D, _, _, _, exSame he s1, q1, q2, rfl, .own _, q5 4 _ rfl, ?_⟩
  refine ⟨_, rfl, a, D, _, _, _, exSame he s1, q1, q2, rfl, .own _, q5 5 _ rfl, ?_⟩
  refine ⟨_, rfl, a, D, _, _, _, exSame he s1, q1, q2, rfl, .own _, q5 6 _ rfl, z3, fun p2 n2 => ?_⟩
  have s2 := Same.new n2 (o := .lst [.bl (decide (4 = i)), .bl (decide (5 = i)), .bl (decide (6 = i))])
  refine ⟨_, _, _, _, rfl, rfl, s2 _ _ upd_same, upd_same, by show 4 + 3 ≤ sizeLine; decide, fun p3 n3 => ?_⟩
  exact k _ _ (s1.trans (s2.trans (Same.new n3))) upd_same
/-- the five that hold nothing of their own -/
def ex5 (K : PySem.W.Frag) (cs : List Addr) : Bool := cs.all fun c => PySem.W.excIn K c SwX.veMro "ValueError.__new__" && PySem.W.keepIn K (.ref c)
theorem ex5_ok {K : PySem.W.Frag} {cs : List Addr} (h : ex5 K cs = true) {c : Addr} (m : c ∈ cs) : PySem.W.excIn K c SwX.veMro "ValueError.__new__" = true ∧ PySem.W.keepIn K (.ref c) = true := by
  have q := List.all_eq_true.mp h _ m
  exact Bool.and_eq_true_iff.mp q
theorem int_len : ∀ n : Fin 1001, (PySem.Str.ofString (toString ((n.val : Nat) : Int))).length ≤ 100000 := by decide +kernel
theorem int_log : ∀ n : Fin 1001, ((n.val : Nat) : Int).natAbs.log2 < 1920 := by decide +kernel
theorem of_six (i : Int) (h0 : 0 ≤ i) (h6 : i < 6) : ∃ c, atI (PySem.Str.ofString "abcxyz").cps.toList i = some c := by
  obtain ⟨n, rfl⟩ := Int.eq_ofNat_of_zero_le h0
  have hn : n < 6 := by omega
  have : ∀ m : Fin 6, (atI (PySem.Str.ofString "abcxyz").cps.toList ((m.val : Nat) : Int)).isSome = true := by decide +kernel
  exact Option.isSome_iff_exists.mp (this ⟨n, hn⟩)
theorem iteT' {c A B : Prop} [Decidable c] (hc : c) (h : A) : if c then A else B := by rw [if_pos hc]; exact h
theorem iteF' {c A B : Prop} [Decidable c] (hc : ¬ c) (h : B) : if c then A else B := by rw [if_neg hc]; exact h
theorem xo_new {G : Hp} {e d C : Addr} {fld : Str} {v : V} (nd : G d = none) (ne : G e = none) (de : d ≠ e) : ∃ G', upd (upd G d (.xd [(fld, v)])) e (xo e (.ref C) (some d)) = G' ∧ Same G G' ∧ IsXo G' e C d [(fld, v)] :=
  ⟨_, rfl, (Same.new nd).trans (Same.new (by rw [upd_ne (Ne.symm de)]; exact ne)), upd_same, by rw [upd_ne de]; exact upd_same⟩
theorem eo_new {G : Hp} {a C : Addr} (n : G a = none) : ∃ G', upd G a (ExO (.ref C) a) = G' ∧ Same G G' ∧ G' a = some (ExO (.ref C) a) := ⟨_, rfl, Same.new n, upd_same⟩
theorem xoS {G G' : Hp} {e C d : Addr} {fs : List (Str × V)} (h : IsXo G e C d fs) (s : Same G G') : IsXo G' e C d fs := ⟨s _ _ h.1, s _ _ h.2⟩
def sortsD (i : Nat) : List PyData := (List.range 7).map fun j => .bool (decide (j = i))
theorem sortsDp {K : PySem.W.Frag} {H : Hp} (f : Nat → Bool) : ∀ l : List Nat, DpAll K H (l.map fun j => V.bl (f j)) (l.map fun j => PyData.bool (f j))
  | [] => .nil
  | j :: l => .cons (.bl _) (sortsDp f l)
theorem sorts_ok : ∀ i : Fin 7, SeqAt.shaped (.list (sortsD i.val)) = true ∧ PyData.eqv (.list (sortsD i.val)) (.list (sortsD i.val)) = true := by decide +kernel
theorem two_ok : ∀ n : Fin 1001, SeqAt.shaped (.list [.int ((n.val : Nat) : Int), .int ((n.val : Nat) : Int)]) = true ∧ PyData.eqv (.list [.int ((n.val : Nat) : Int), .int ((n.val : Nat) : Int)]) (.list [.int ((n.val : Nat) : Int), .int ((n.val : Nat) : Int)]) = true := by decide +kernel
theorem pe_imp {X : Cx} {e : Expr} {te te' : TE} (h : PE X e te) (i : ∀ σ H Q, te' σ H Q → te σ H Q) : PE X e te' := ⟨fun pins s σ H Q I q => h.run pins s σ H Q I (i _ _ _ q)⟩
/-- the number of the law -/
def tNum (K : PySem.W.Frag) (sa : Addr) (ns : List Int) : TE := fun σ H Q => σ[0]? = some (some (.ref sa)) ∧ SqL K H sa (ns.map V.int) ∧ ns.length ≤ 63 ∧ ∀ m : Nat, m < 1001 → Q (.int (m : Int)) H
/-- the text of the law -/
def tTxt (K : PySem.W.Frag) (sa : Addr) (ns : List Int) : TE := fun σ H Q => (∃ v : V, σ = [some (.ref sa), some v, none, none, none, none, none]) ∧ SqL K H sa (ns.map V.int) ∧ ns.length ≤ 63 ∧ ∀ H' z, Same H H' → Q (.str z) H'
def spLaw (K : PySem.W.Frag) : Sp := fun vs H Q _ => ∃ (a : Addr) (ns : List Int), vs = [.ref a] ∧ SqL K H a (ns.map V.int) ∧ ns.length ≤ 63 ∧ ∀ H', Same H H' → Q (.bl true) H'
theorem ok_law {f f0 f1 : Addr} {fd : FuncData} (F : Fun K "law" "law" s_law f fd) (Y : Seven K mg c0 c1 c2 c3 c4 c5 c6 W) (T0 : SwY.ManyAt K mg P c0 f0) (T1 : SwZ.ManyAt K mg P c1 f1) (h5 : ex5 K [c2, c3, c4, c5, c6] = true)
    (d__law_sorts : DefOk P w K mg base "_law_sorts" 1 ["one"] (spSorts [c0, c1, c2, c3, c4, c5, c6])) (b_len : mg "len" = none) (b_range : mg "range" = none) (b_isinstance : mg "isinstance" = none) : FnOk P w K mg base CX0 3 f fd ["script"] (spLaw K) := by
  refine F.ok sc_law (fun vs H Q E h => ?_) (fun cdv A outer s H vs Q E hr h => ?_)
  · obtain ⟨_, _, rfl, _⟩ := h
    rfl
  obtain ⟨sa, ns, rfl, hs, hl, k⟩ := h
  obtain ⟨x2, y2⟩ := ex5_ok h5 (c := c2) (by simp)
  obtain ⟨x3, y3⟩ := ex5_ok h5 (c := c3) (by simp)
  obtain ⟨x4, y4⟩ := ex5_ok h5 (c := c4) (by simp)
  obtain ⟨x5, y5⟩ := ex5_ok h5 (c := c5) (by simp)
  obtain ⟨x6, y6⟩ := ex5_ok h5 (c := c6) (by simp)
  have EV := PySem.F.excBase_ValueError
  refine ⟨_, (pss_cons (ps_set (i := 1) sc_law.nd rfl (Or.inl rfl) (pe_imp (te' := tNum K sa ns) (pe_ifExp (pt_cmpR op_gt (pe_callB call_len_seq (by rfl) b_len PySem.boot_len (pa_cons (pv 0) pa_nil)) pe_int (nomark _)) (pe_op op_mod (pe_ix (r := rIxL K) ix_list (pv 0) pe_int (fun _ _ => rfl)) pe_int) pe_int) (fun σ H Q q => by
      obtain ⟨q0, q1, q2, q3⟩ := q
      refine ⟨_, q0, sa, _, rfl, .inl q1, _, _, rfl, rfl, _, rfl, ?_⟩
      cases ns with
      | nil => exact iteF' (by simp) (q3 0 (by decide))
      | cons z r =>
        refine iteT' (by simp) ⟨_, q0, sa, _, 0, _, rfl, rfl, q1, atI_nat (j := 0) (v := .int z) rfl, _, _, rfl, rfl, (by show (0 : Int) < 1001; decide), ?_⟩
        have h0 : 0 ≤ z % 1001 := Int.emod_nonneg _ (by decide)
        have h1 : z % 1001 < 1001 := Int.emod_lt_of_pos _ (by decide)
        have q4 := q3 (z % 1001).toNat (by omega)
        rw [Int.toNat_of_nonneg h0] at q4
        exact q4)))
    (pss_cons (ps_set (i := 2) sc_law.nd rfl (Or.inl rfl) (pe_imp (te' := tTxt K sa ns) (pe_op op_add_str pe_str (pe_join pe_str (pe_lc (own := [("cell", 3)]) (g := gName 3) rfl sc_law.nd (pi_list (pe_slice sl_list (pv 0) po_none (po_some pe_int))) (blkOk_by (own := [("cell", 3)]) (N := n_law) (sc := defScope s_law) (by decide +kernel)) (fun _ _ _ _ _ => (pg_name (i := 3) sc_law.nd rfl (Or.inl rfl))) (fun _ _ _ _ _ => pts_nil) (fun _ _ _ _ _ => (pe_ix ix_str pe_str (pe_op op_mod (pv 3) pe_int) (fun _ _ => rfl)))))) (fun σ H Q q => by
      obtain ⟨⟨v, rfl⟩, q1, q2, q3⟩ := q
      refine ⟨⟨_, rfl⟩, ?_⟩
      refine ⟨_, rfl, ?_⟩
      unfold tNoPart
      refine ⟨8, rfl, sa, _, rfl, q1, fun p np => ⟨p, rfl, ⟨_, sL upd_same⟩, fun D nD => lc_list (K := K) (a := p) (xs := cutV (ns.map V.int) none (some 8)) (fun i H' => ∃ ys : List Str, Same (upd H p (.lst (cutV (ns.map V.int) none (some 8)))) H' ∧ H' D = some (.lst (ys.map V.str)) ∧ ys.length = i ∧ ∀ y ∈ ys, y.length = 1)
        ⟨[], .new nD, upd_same, rfl, by simp⟩ (fun i H' _ ⟨_, g, _⟩ => sL (g _ _ upd_same)) ?_ ?_⟩⟩
      · rintro i x H' hi ⟨ys, g, hD, hlen, h1⟩
        obtain ⟨z, rfl⟩ : ∃ z : Int, x = .int z := by
          have m := List.mem_of_getElem? hi
          unfold cutV at m
          obtain ⟨z, _, e⟩ := List.mem_map.mp (List.mem_of_mem_drop (List.mem_of_mem_take m))
          exact ⟨z, e.symm⟩
        have hiL : i < (cutV (ns.map V.int) none (some 8)).length := (List.getElem?_eq_some_iff.mp hi).1
        have hcl := cutV_length (ns.map V.int) none (some 8)
        rw [List.length_map] at hcl
        obtain ⟨c, hc⟩ := of_six (z % 6) (Int.emod_nonneg _ (by decide)) (Int.emod_lt_of_pos _ (by decide))
        refine ⟨rfl, ?_⟩
        refine ⟨_, rfl, _, _, rfl, rfl, (by show (0 : Int) < 6; decide), _, _, c, rfl, rfl, (by decide +kernel), hc, ?_⟩
        refine ⟨_, hD, ?_, ys ++ [⟨#[c]⟩], (g.mut nD), ?_, by rw [List.length_append, hlen]; rfl, ?_⟩
        · rw [List.length_map, hlen, sizeLine_eq]
          omega
        · rw [upd_same, List.map_append]
          rfl
        · intro y hy
          rcases List.mem_append.mp hy with hy | hy
          · exact h1 y hy
          · rw [List.mem_singleton.mp hy]
            rfl
      · rintro H' ⟨ys, g, hD, hlen, h1⟩
        have hcl := cutV_length (ns.map V.int) none (some 8)
        rw [List.length_map] at hcl
        have hsum : (ys.map (·.length)).sum = ys.length := by
          clear hD hlen
          induction ys with
          | nil => rfl
          | cons y r ih =>
            rw [List.map_cons, List.sum_cons, ih (fun z hz => h1 z (List.mem_cons_of_mem _ hz)), h1 y List.mem_cons_self, List.length_cons]
            omega
        have hj := StrLaws.join_length_le "" ys
        have he : (PySem.Str.ofString "").length = 0 := by decide +kernel
        have hk : (PySem.Str.ofString "k").length = 1 := by decide +kernel
        rw [hsum, he] at hj
        refine ⟨_, D, ys, rfl, rfl, .inl (sL hD), ?_, _, _, rfl, rfl, ?_, q3 _ _ ((Same.new np).trans g)⟩
        · rw [hsum, he]
          omega
        · rw [hk, TL.join_eq, sizeLine_eq]
          omega)))
    (pss_cons (ps_set (i := 4) sc_law.nd rfl (Or.inl rfl) (pe_lst (pa_cons (pe_mkF (mkF_text T0) hr (pa_cons (pv 1) pa_nil)) (pa_cons (pe_mkF (mkF_many T1) hr (pa_cons (pv 1) pa_nil)) (pa_cons (pe_exc1 EV x2 Y.g2 y2 rfl (pv 2)) (pa_cons (pe_exc1 EV x3 Y.g3 y3 rfl (pv 2)) (pa_cons (pe_exc1 EV x4 Y.g4 y4 rfl (pv 2)) (pa_cons (pe_exc1 EV x5 Y.g5 y5 rfl (pv 2)) (pa_cons (pe_exc1 EV x6 Y.g6 y6 rfl (pv 2)) pa_nil)))))))))
    (pss_cons (ps_for PassesOwn.never rfl (pi_range1 rfl b_range (pa_cons pe_int pa_nil)) (pg_name (i := 5) sc_law.nd rfl (Or.inr rfl))
      (pss_cons (ps_if (pt_cmpR (op_neD hr.units) (pe_callD d__law_sorts (hr.mono (by decide)) rfl (pa_cons (pe_ix ix_list (pv 4) (pv 5) (fun _ _ => rfl)) pa_nil)) (pe_lc (own := [("j", 6)]) (g := gName 6) rfl sc_law.nd (pi_range1 rfl b_range (pa_cons pe_int pa_nil)) (blkOk_by (own := [("j", 6)]) (N := n_law) (sc := defScope s_law) (by decide +kernel)) (fun _ _ _ _ _ => (pg_name (i := 6) sc_law.nd rfl (Or.inl rfl))) (fun _ _ _ _ _ => pts_nil) (fun _ _ _ _ _ => (pe_cmpR op_eq (pv 6) (pv 5) (nomark _)))) (nomark _)) (pss_one (ps_ret pe_bl)) pss_nil)
    (pss_one (ps_if (PW.pt (pw_or (pt_not (pt_val (pe_callB call_ex (by rfl) b_isinstance (by decide +kernel) (pa_cons (pe_ix ix_list (pv 4) (pv 5) (fun _ _ => rfl)) (pa_cons (pe_glob (v := .ref W) rfl Y.gW rfl) pa_nil))))) (pw_or1 (pt_not (pt_val (pe_callB call_ex (by rfl) b_isinstance (by decide +kernel) (pa_cons (pe_ix ix_list (pv 4) (pv 5) (fun _ _ => rfl)) (pa_cons (pe_bltn (v := .ty "ValueError") (by rfl) Y.gV (by decide +kernel) rfl) pa_nil)))))))) (pss_one (ps_ret pe_bl)) pss_nil))))
    (pss_cons (ps_if (pt_cmpR (op_neD hr.units) (pe_lst (pa_cons (pe_xo (pe_mkFK (mkF_text T0) hr (pk_cons (pv 1) pk_nil))) (pa_cons (pe_xo (pe_mkFK (mkF_many T1) hr (pk_cons (pv 1) pk_nil))) pa_nil))) (pe_lst (pa_cons (pv 1) (pa_cons (pv 1) pa_nil))) (nomark _)) (pss_one (ps_ret pe_bl)) pss_nil)
    (pss_one (ps_ret (pe_cmpR (op_eqD hr.units) (pe_lst (pa_cons (pe_xo (pe_ix ix_list (pv 4) pe_int (fun _ _ => rfl))) (pa_cons (pe_xo (pe_ix ix_list (pv 4) pe_int (fun _ _ => rfl))) pa_nil))) (pe_lst (pa_cons (pv 1) (pa_cons (pv 1) pa_nil))) (nomark _))))))))), ?_⟩
  refine ⟨rfl, hs, hl, fun m hm => ⟨⟨_, rfl⟩, hs, hl, fun H1 z s1 => ?_⟩⟩
  have hlog := int_log ⟨m, hm⟩
  have hlen := int_len ⟨m, hm⟩
  refine ⟨_, rfl, m, rfl, hlog, hlen, fun e0 d0 nd0 ne0 de0 => ?_⟩
  obtain ⟨A0, eA0, t0, X0⟩ := xo_new (C := c0) (fld := "at") (v := .int m) nd0 ne0 de0
  rw [eA0]
  refine ⟨_, rfl, m, rfl, hlog, hlen, fun e1 d1 nd1 ne1 de1 => ?_⟩
  obtain ⟨A1, eA1, t1, X1⟩ := xo_new (C := c1) (fld := "most") (v := .int m) nd1 ne1 de1
  rw [eA1]
  refine ⟨_, rfl, fun a2 n2 => ?_⟩
  obtain ⟨A2, eA2, t2, X2⟩ := eo_new (C := c2) n2
  rw [eA2]
  refine ⟨_, rfl, fun a3 n3 => ?_⟩
  obtain ⟨A3, eA3, t3, X3⟩ := eo_new (C := c3) n3
  rw [eA3]
  refine ⟨_, rfl, fun a4 n4 => ?_⟩
  obtain ⟨A4, eA4, t4, X4⟩ := eo_new (C := c4) n4
  rw [eA4]
  refine ⟨_, rfl, fun a5 n5 => ?_⟩
  obtain ⟨A5, eA5, t5, X5⟩ := eo_new (C := c5) n5
  rw [eA5]
  refine ⟨_, rfl, fun a6 n6 => ?_⟩
  obtain ⟨A6, eA6, t6, X6⟩ := eo_new (C := c6) n6
  rw [eA6]
  refine ⟨(by show 7 ≤ sizeLine; decide), fun M nM => ?_⟩
  have t7 := Same.new nM (o := .lst [.ref e0, .ref e1, .ref a2, .ref a3, .ref a4, .ref a5, .ref a6])
  have hM : (upd A6 M (.lst [.ref e0, .ref e1, .ref a2, .ref a3, .ref a4, .ref a5, .ref a6])) M = some (.lst [.ref e0, .ref e1, .ref a2, .ref a3, .ref a4, .ref a5, .ref a6]) := upd_same
  generalize upd A6 M (.lst [.ref e0, .ref e1, .ref a2, .ref a3, .ref a4, .ref a5, .ref a6]) = B at t7 hM ⊢
  have u6 := t7
  have u5 := t6.trans u6
  have u4 := t5.trans u5
  have u3 := t4.trans u4
  have u2 := t3.trans u3
  have u1 := t2.trans u2
  have u0 := t1.trans u1
  have sB : Same H B := s1.trans (t0.trans u0)
  have Y0 := xoS X0 u0
  have Y1 := xoS X1 u1
  have els : ∀ i : Nat, i < 7 → ∃ a D, [V.ref e0, .ref e1, .ref a2, .ref a3, .ref a4, .ref a5, .ref a6][i]? = some (.ref a) ∧ [c0, c1, c2, c3, c4, c5, c6][i]? = some D ∧ IsEx B a D := fun i hi => by
    match i, hi with
    | 0, _ => exact ⟨e0, c0, rfl, rfl, .inl ⟨_, _, Y0⟩⟩
    | 1, _ => exact ⟨e1, c1, rfl, rfl, .inl ⟨_, _, Y1⟩⟩
    | 2, _ => exact ⟨a2, c2, rfl, rfl, .inr (u2 _ _ X2)⟩
    | 3, _ => exact ⟨a3, c3, rfl, rfl, .inr (u3 _ _ X3)⟩
    | 4, _ => exact ⟨a4, c4, rfl, rfl, .inr (u4 _ _ X4)⟩
    | 5, _ => exact ⟨a5, c5, rfl, rfl, .inr (u5 _ _ X5)⟩
    | 6, _ => exact ⟨a6, c6, rfl, rfl, .inr (u6 _ _ X6)⟩
    | i + 7, h => exact absurd h (by omega)
  have two := two_ok ⟨m, hm⟩
  have z2 : (2 : Nat) ≤ sizeLine := by decide
  obtain ⟨w0, v0, _, _, _⟩ := kit7_ok Y.kit (i := 0) (D := c0) rfl
  obtain ⟨w1, v1, _, _, _⟩ := kit7_ok Y.kit (i := 1) (D := c1) rfl
  have F0 : XfC K c0 := ⟨w0.gt, w0.gn, w0.sB, v0⟩
  have F1 : XfC K c1 := ⟨w1.gt, w1.gn, w1.sB, v1⟩
  refine ⟨_, rfl, by decide, by decide, ?_⟩
  refine for_range (lo := 0) (n := (7 : Int).toNat) (fun i σ H' => ∃ o5, σ = [some (.ref sa), some (.int (m : Int)), some (.str z), none, some (.ref M), o5, none] ∧ Same B H') ⟨none, rfl, .refl _⟩ ?_ ?_
  · rintro i σ H2 hi ⟨o5, rfl, g⟩
    have hi7 : i < 7 := hi
    obtain ⟨a, D, hel, hcs, hex⟩ := els i hi7
    obtain ⟨p1, p2, p3, p4, _⟩ := kit7_ok Y.kit hcs
    have e0i : ((0 : Int) + (i : Int)) = ((i : Nat) : Int) := by omega
    refine ⟨_, rfl, _, rfl, M, _, _, _, rfl, rfl, sL (g _ _ hM), by rw [e0i]; exact atI_nat hel, a, D, i, rfl, exSame hex g, hcs, fun H3 p g3 hp => ?_⟩
    refine ⟨_, rfl, by decide, by decide, fun Z nZ => lc_range (lo := 0) (n := (7 : Int).toNat) (fun j H' => Same H3 H' ∧ H' Z = some (.lst ((List.range j).map fun j' => V.bl (decide (j' = i))))) ⟨.new nZ, by rw [upd_same]; rfl⟩ ?_ ?_⟩
    · rintro j H4 hj ⟨g4, h4⟩
      refine ⟨rfl, ?_⟩
      have hj7 : j < 7 := hj
      refine ⟨_, rfl, _, rfl, rfl, _, h4, ?_, g4.mut nZ, ?_⟩
      · rw [List.length_map, List.length_range, sizeLine_eq]
        omega
      · rw [upd_same, List.range_succ, List.map_append]
        have ed : decide (V.int (0 + (j : Int)) = V.int (0 + (i : Int))) = decide (j = i) := by
          rw [decide_eq_decide, V.int.injEq]
          omega
        rw [ed]
        rfl
    · rintro H4 ⟨g4, h4⟩
      have so := sorts_ok ⟨i, hi7⟩
      refine ⟨.list (sortsD i), .list (sortsD i), .lst (sL (g4 _ _ hp)) (sortsDp _ _), .lst (sL h4) (sortsDp _ _), so.1, so.1, _, rfl, ?_⟩
      rw [so.2]
      refine iteF' (by decide) ?_
      have g5 := g.trans (g3.trans g4)
      refine ⟨_, rfl, _, rfl, M, _, _, _, rfl, rfl, sL (g5 _ _ hM), by rw [e0i]; exact atI_nat hel, a, D, _, _, _, exSame hex g5, p1, p2, rfl, .own _, p3, _, rfl, ?_⟩
      refine iteF' (by decide) ?_
      refine ⟨_, rfl, _, rfl, M, _, _, _, rfl, rfl, sL (g5 _ _ hM), by rw [e0i]; exact atI_nat hel, a, D, _, _, _, exSame hex g5, p1, p2, rfl, .ty _, p4, _, rfl, ?_⟩
      refine iteF' (by decide) ?_
      exact ⟨_, rfl, g5⟩
  · rintro σ H2 ⟨o5, rfl, g⟩
    refine ⟨_, rfl, m, rfl, hlog, hlen, fun e d nd ne de => ?_⟩
    obtain ⟨G1, eG1, r1, Z1⟩ := xo_new (C := c0) (fld := "at") (v := .int m) nd ne de
    rw [eG1]
    refine ⟨e, c0, d, _, _, Z1, F0, T0.nm, rfl, rfl, ?_⟩
    refine ⟨_, rfl, m, rfl, hlog, hlen, fun e' d' nd' ne' de' => ?_⟩
    obtain ⟨G2, eG2, r2, Z2⟩ := xo_new (C := c1) (fld := "most") (v := .int m) nd' ne' de'
    rw [eG2]
    refine ⟨e', c1, d', _, _, Z2, F1, T1.nm, rfl, rfl, z2, fun P1 nP1 => ?_⟩
    have r3 := Same.new nP1 (o := .lst [.int (m : Int), .int (m : Int)])
    refine ⟨_, rfl, _, rfl, z2, fun P2 nP2 => ?_⟩
    have r4 := Same.new nP2 (o := .lst [.int (m : Int), .int (m : Int)])
    refine ⟨_, _, .lst (sL (r4 _ _ upd_same)) (.cons (.int _) (.cons (.int _) .nil)), .lst (sL upd_same) (.cons (.int _) (.cons (.int _) .nil)), two.1, two.1, _, rfl, ?_⟩
    rw [two.2]
    refine iteF' (by decide) ?_
    have g6 := g.trans (r1.trans (r2.trans (r3.trans r4)))
    refine ⟨_, rfl, M, _, 0, _, rfl, rfl, sL (g6 _ _ hM), atI_nat (j := 0) rfl, e0, c0, d0, _, _, xoS Y0 g6, F0, T0.nm, rfl, rfl, ?_⟩
    refine ⟨_, rfl, M, _, 1, _, rfl, rfl, sL (g6 _ _ hM), atI_nat (j := 1) rfl, e1, c1, d1, _, _, xoS Y1 g6, F1, T1.nm, rfl, rfl, z2, fun P3 nP3 => ?_⟩
    refine ⟨_, rfl, _, rfl, z2, fun P4 nP4 => ?_⟩
    have r5 := Same.new nP3 (o := .lst [.int (m : Int), .int (m : Int)])
    have r6 := Same.new nP4 (o := .lst [.int (m : Int), .int (m : Int)])
    refine ⟨_, _, .lst (sL (r6 _ _ upd_same)) (.cons (.int _) (.cons (.int _) .nil)), .lst (sL upd_same) (.cons (.int _) (.cons (.int _) .nil)), two.1, two.1, ?_⟩
    rw [two.2]
    exact k _ (sB.trans (g6.trans (r5.trans r6)))
end
end Sw
set_option Elab.async false
set_option maxRecDepth 100000
set_option maxHeartbeats 8000000
namespace Sw
open PySem L2 PySem.Spec PyProof.Rows
theorem defAt_mk {K : PySem.W.Frag} {h : Heap} {mg : Str → Option Value} {x : Str} {st : Stmt} {ps : List Str} {f : Addr} {od an : Option Addr} {sl : Array (Option Value)} {oc kV dc pm cd ct : Value} (X : K.In h) (G : h.Ns mainGlobals mg)
    (a : PySem.W.nsIn K mainGlobals x = some (some (.ref f))) (l : K.lookup f = some ⟨oc, od, .func (PySem.W.fnOf x x (defArgs st) (defBody st) (defScope st) .none kV dc pm an cd ct), sl⟩) (c : PySem.W.codeIn K cd x = true) (k : PySem.W.keepIn K (.ref f) = true)
    (b : Binds K (PySem.W.fnOf x x (defArgs st) (defBody st) (defScope st) .none kV dc pm an cd ct) ps []) : DefAt K mg x st ps :=
  ⟨f, _, fun_mk (st := st) l c k, PySem.W.mg_of X G a, b⟩
theorem all_mk {l : PySem.W.OpenLaw} {w : World} {K : PySem.W.Frag} {h : Heap} {mg : Str → Option Value} {q : Program} {f1 f2  fa : Addr} {od1 an1 od2 an2  : Option Addr} {sl1 sl2  : Array (Option Value)} {oc1 kV1 dc1 pm1 ct1 cd1 oc2 kV2 dc2 pm2 ct2 cd2  : Value} {xC xf xns xcc : Addr} {xn xq : Str} {xb xm xu : List Value} {xsn : List Str} {xab : Bool} {xco : Option Bool} {xdi xod xan : Option Addr} {xz0 xz1 xz2 xz3 xz5 : Option Value} {xoc xdc xpm xcd xct : Value} {xos : Array (Option Value)} {yC yf yns ycc : Addr} {yn yq : Str} {yb ym yu : List Value} {ysn : List Str} {yab : Bool} {yco : Option Bool} {ydi yod yan : Option Addr} {yz0 yz1 yz2 yz3 yz5 : Option Value} {yoc ydc ypm ycd yct : Value} {yos : Array (Option Value)} {yW ye2 ye3 ye4 ye5 ye6 : Addr} (X : K.In h) (G : h.Ns mainGlobals mg) (hfa : mg "law" = some (.ref fa)) (own : ∀ x c P, ((recsOf q).any fun e => e.name == x) = true → OwnT K h x c P)
    (a1 : PySem.W.nsIn K mainGlobals "_law_sorts" = some (some (.ref f1))) (l1 : K.lookup f1 = some ⟨oc1, od1, .func (PySem.W.fnOf "_law_sorts" "_law_sorts" (defArgs s_law_sorts) (defBody s_law_sorts) (defScope s_law_sorts) .none kV1 dc1 pm1 an1 cd1 ct1), sl1⟩) (d1 : PySem.W.codeIn K cd1 "_law_sorts" = true) (k1 : PySem.W.keepIn K (.ref f1) = true)
    (a2 : PySem.W.nsIn K mainGlobals "law" = some (some (.ref f2))) (l2 : K.lookup f2 = some ⟨oc2, od2, .func (PySem.W.fnOf "law" "law" (defArgs s_law) (defBody s_law) (defScope s_law) .none kV2 dc2 pm2 an2 cd2 ct2), sl2⟩) (d2 : PySem.W.codeIn K cd2 "law" = true) (k2 : PySem.W.keepIn K (.ref f2) = true)
    (w_xgC : PySem.W.nsIn K mainGlobals "NoText" = some (some (.ref xC)))
    (w_xkl : K.lookup xC = some (excClassObj xn xq xC xns xb xm true xsn xu xab xco xdi xz0 xz1 xz2 xz3 xz5 "ValueError.__new__"))
    (v_xrm : PySem.HandSPX.refsVE xm = true)
    (w_xst : PySem.W.findIn K (.ref xC) "__setattr__" = some (some (.builtin "object.__setattr__")))
    (w_xgt : PySem.W.findIn K (.ref xC) "__getattribute__" = some (some (.builtin "BaseException.__getattribute__")))
    (w_xgn : PySem.W.findIn K (.ref xC) "__getattr__" = some none)
    (w_xnm : PySem.W.findIn K (.ref xC) "at" = some none)
    (w_xini : PySem.W.findIn K (.ref xC) "__init__" = some (some (.ref xf)))
    (w_xtf : PySem.W.typeIn K (.ref xf) = some (.type "function"))
    (w_xkp : PySem.W.keepIn K (.ref xC) = true)
    (v_xsB : PySem.W.subIn K (.ref xC) (.type "BaseException") = some true)
    (v_xsV : PySem.W.subIn K (.ref xC) (.type "ValueError") = some true)
    (v_xsC : PySem.W.subIn K (.ref xC) (.ref xC) = some true)
    (w_xty : PySem.W.typeIn K (.ref xC) = some (.type "type"))
    (w_xhd : PySem.W.hasDictIn K xC = true)
    (v_xsup : PySem.W.ks_superIn K xC xC "__init__" = some (some (.builtin "ValueError.__init__")))
    (v_xxi : PySem.W.excInitIn K xC SwX.veMro "ValueError.__new__" = true)
    (w_xfn : K.lookup xf = some ⟨xoc, xod, .func (PySem.W.ksFn "__init__" "NoText.__init__" (SwY.mArgs ⟨6, 17, 6, 21⟩ ⟨6, 23, 6, 25⟩) [SwY.mSt1 ⟨7, 27, 7, 59⟩ ⟨7, 60, 7, 62⟩ ⟨7, 59, 7, 63⟩ ⟨7, 63, 7, 66⟩ ⟨7, 8, 7, 13⟩ ⟨7, 8, 7, 15⟩ ⟨7, 8, 7, 24⟩ ⟨7, 25, 7, 67⟩ ⟨7, 8, 7, 68⟩ ⟨7, 8, 7, 68⟩, SwY.mSt2 ⟨8, 8, 8, 12⟩ ⟨8, 8, 8, 15⟩ ⟨8, 18, 8, 20⟩ ⟨8, 8, 8, 20⟩] SwY.mScope .none .none xdc xpm xan xcd xct xcc), xos⟩)
    (v_xcf : SwX.codeF K xcd "NoText.__init__" l.prog.main.file = true)
    (v_xce : SwX.cellF K xcc xC = true)
    (w_ygC : PySem.W.nsIn K mainGlobals "TooMany" = some (some (.ref yC)))
    (w_ykl : K.lookup yC = some (excClassObj yn yq yC yns yb ym true ysn yu yab yco ydi yz0 yz1 yz2 yz3 yz5 "ValueError.__new__"))
    (v_yrm : PySem.HandSPX.refsVE ym = true)
    (w_yst : PySem.W.findIn K (.ref yC) "__setattr__" = some (some (.builtin "object.__setattr__")))
    (w_ygt : PySem.W.findIn K (.ref yC) "__getattribute__" = some (some (.builtin "BaseException.__getattribute__")))
    (w_ygn : PySem.W.findIn K (.ref yC) "__getattr__" = some none)
    (w_ynm : PySem.W.findIn K (.ref yC) "most" = some none)
    (w_yini : PySem.W.findIn K (.ref yC) "__init__" = some (some (.ref yf)))
    (w_ytf : PySem.W.typeIn K (.ref yf) = some (.type "function"))
    (w_ykp : PySem.W.keepIn K (.ref yC) = true)
    (v_ysB : PySem.W.subIn K (.ref yC) (.type "BaseException") = some true)
    (v_ysV : PySem.W.subIn K (.ref yC) (.type "ValueError") = some true)
    (v_ysC : PySem.W.subIn K (.ref yC) (.ref yC) = some true)
    (w_yty : PySem.W.typeIn K (.ref yC) = some (.type "type"))
    (w_yhd : PySem.W.hasDictIn K yC = true)
    (v_ysup : PySem.W.ks_superIn K yC yC "__init__" = some (some (.builtin "ValueError.__init__")))
    (v_yxi : PySem.W.excInitIn K yC SwX.veMro "ValueError.__new__" = true)
    (w_yfn : K.lookup yf = some ⟨yoc, yod, .func (PySem.W.ksFn "__init__" "TooMany.__init__" (SwZ.mArgs ⟨11, 17, 11, 21⟩ ⟨11, 23, 11, 27⟩) [SwZ.mSt1 ⟨12, 27, 12, 47⟩ ⟨12, 48, 12, 52⟩ ⟨12, 47, 12, 53⟩ ⟨12, 8, 12, 13⟩ ⟨12, 8, 12, 15⟩ ⟨12, 8, 12, 24⟩ ⟨12, 25, 12, 54⟩ ⟨12, 8, 12, 55⟩ ⟨12, 8, 12, 55⟩, SwZ.mSt2 ⟨13, 8, 13, 12⟩ ⟨13, 8, 13, 17⟩ ⟨13, 20, 13, 24⟩ ⟨13, 8, 13, 24⟩] SwZ.mScope .none .none ydc ypm yan ycd yct ycc), yos⟩)
    (v_ycf : SwX.codeF K ycd "TooMany.__init__" l.prog.main.file = true)
    (v_yce : SwX.cellF K ycc yC = true)
    (w_op : PySem.W.nsIn K cStatics "thirdparty.any" = some none)
    (w_noS : PySem.W.nsIn K mainGlobals "super" = some none)
    (v_ms : (List.lookup (PySem.Str.ofString "super") l.prog.main.scope.names).isSome = false)
    (w_e2 : PySem.W.nsIn K mainGlobals "TooWide" = some (some (.ref ye2)))
    (w_e3 : PySem.W.nsIn K mainGlobals "NotOnce" = some (some (.ref ye3)))
    (w_e4 : PySem.W.nsIn K mainGlobals "NoSign" = some (some (.ref ye4)))
    (w_e5 : PySem.W.nsIn K mainGlobals "NoRow" = some (some (.ref ye5)))
    (w_e6 : PySem.W.nsIn K mainGlobals "NoName" = some (some (.ref ye6)))
    (w_W : PySem.W.nsIn K mainGlobals "WayError" = some (some (.ref yW)))
    (v_kit : Sw.kit7 K [xC, yC, ye2, ye3, ye4, ye5, ye6] yW = true)
    (v_ex : Sw.ex5 K [ye2, ye3, ye4, ye5, ye6] = true)
    (z_len : PySem.W.nsIn K mainGlobals "len" = some none)
    (z_range : PySem.W.nsIn K mainGlobals "range" = some none)
    (z_isinstance : PySem.W.nsIn K mainGlobals "isinstance" = some none)
    (z_ValueError : PySem.W.nsIn K mainGlobals "ValueError" = some none)
    : ∃ (fd : FuncData) (cs : List (Addr × Addr)) (sp : Sp), (∀ p ∈ cs, h.get? p.2 = some { cls := .none, data := .fields #[] }) ∧ (∀ p ∈ cs, K.lookup p.2 = none) ∧ (∀ p ∈ cs, PySem.W.CodeHd h p.1 p.2) ∧ (∀ (s : Shared) (u : Value), BindsTo s fd ⟨[u], []⟩ [("script", u)]) ∧
      (∀ (H : Hp) (a : Addr) (ns : List Int), ns.length ≤ 63 → (∀ z ∈ ns, Builtin.Int.intBits z ≤ 1048576) → Tabs cs H → SqL K H a (ns.map V.int) → sp [.ref a] H (fun v H' => v = .bl true ∧ Tabs cs H') fun _ _ _ => False) ∧
      ∀ base : Heap, K.In base → base.Ns mainGlobals mg → (∀ p ∈ cs, GxR.TabB base mg p.1 p.2) → FnOk l.prog w K mg base CX0 3 fa fd ["script"] sp := by
  have e := hfa.symm.trans (PySem.W.mg_of X G a2)
  cases e
  have b_len := PySem.W.mg_none_of X G z_len
  have b_range := PySem.W.mg_none_of X G z_range
  have b_isinstance := PySem.W.mg_none_of X G z_isinstance
  have b_ValueError := PySem.W.mg_none_of X G z_ValueError
  have Tx : SwY.ManyAt K mg l.prog xC xf :=
    { gC := PySem.W.mg_of X G w_xgC, kl := ⟨_, _, _, _, _, _, _, _, _, _, _, _, _, _, _, w_xkl, v_xrm⟩, st := w_xst, gt := w_xgt, gn := w_xgn, nm := w_xnm, ini := w_xini, tf := w_xtf, kp := w_xkp, sB := v_xsB, sV := v_xsV, sC := v_xsC, ty := w_xty, hd := w_xhd,
      sup := v_xsup, op := w_op, xi := v_xxi, noS := PySem.W.mg_none_of X G w_noS, ms := v_ms, fn := ⟨_, _, _, _, _, _, _, _, _, _, _, _, _, _, _, _, _, _, _, _, _, _, _, _, _, w_xfn, rfl, v_xcf, v_xce⟩ }
  have Ty : SwZ.ManyAt K mg l.prog yC yf :=
    { gC := PySem.W.mg_of X G w_ygC, kl := ⟨_, _, _, _, _, _, _, _, _, _, _, _, _, _, _, w_ykl, v_yrm⟩, st := w_yst, gt := w_ygt, gn := w_ygn, nm := w_ynm, ini := w_yini, tf := w_ytf, kp := w_ykp, sB := v_ysB, sV := v_ysV, sC := v_ysC, ty := w_yty, hd := w_yhd,
      sup := v_ysup, op := w_op, xi := v_yxi, noS := PySem.W.mg_none_of X G w_noS, ms := v_ms, fn := ⟨_, _, _, _, _, _, _, _, _, _, _, _, _, _, _, _, _, _, _, _, _, _, _, _, w_yfn, rfl, v_ycf, v_yce⟩ }
  have Ys : Seven K mg xC yC ye2 ye3 ye4 ye5 ye6 yW :=
    { g0 := PySem.W.mg_of X G w_xgC, g1 := PySem.W.mg_of X G w_ygC, g2 := PySem.W.mg_of X G w_e2, g3 := PySem.W.mg_of X G w_e3, g4 := PySem.W.mg_of X G w_e4, g5 := PySem.W.mg_of X G w_e5, g6 := PySem.W.mg_of X G w_e6, gW := PySem.W.mg_of X G w_W, gV := b_ValueError, kit := v_kit }
  have D1 : DefAt K mg "_law_sorts" s_law_sorts ["one"] := defAt_mk X G a1 l1 d1 k1 ((fun_mk (st := s_law_sorts) l1 d1 k1).binds (ps := ["one"]) fun _ _ _ _ _ _ us hl => match us, hl with | [_], _ => rfl)
  refine ⟨PySem.W.fnOf "law" "law" (defArgs s_law) (defBody s_law) (defScope s_law) .none kV2 dc2 pm2 an2 cd2 ct2, ([] : List (Addr × Addr)), spLaw K , ?_, ?_, ?_, fun s v => .of_eq rfl, ?_, fun base _ _ TB => ?_⟩
  · exact fun p hp => by cases hp
  · exact fun p hp => by cases hp
  · exact fun p hp => by cases hp
  · intro H a ns hl _ hT hS
    exact ⟨a, ns, rfl, hS, hl, fun H' s => ⟨rfl, hT.same s⟩⟩
  have o_sorts := ok_law_sorts (P := l.prog) (w := w) (base := base) D1 Ys b_isinstance
  exact ok_law (fun_mk (st := s_law) l2 d2 k2) Ys Tx Ty v_ex o_sorts b_len b_range b_isinstance
end Sw
set_option Elab.async false
open PySem PySem.W PyProof.Rows
set_option maxRecDepth 100000 in
set_option maxHeartbeats 0 in
theorem PySem.Challenge.cw_soleway_k07_refusals_apart_holds : PySem.Challenge.rw_soleway_k07_refusals_apart.Holds := by
  w_on; o_law; k_head; (case hw => w_witness2)
  k_fill
  refine Sw.walk_ofE (l := PySem.Challenge.rw_soleway_k07_refusals_apart) (n := 63) (k := 3) (x := "script") rfl (by decide) rfl ⟨rfl, by decide, by decide⟩ (fun w h Y => PySem.W.kIn_of Y) ?F
  case F =>
    intro w mg fa h KX G hmg own
    refine' Sw.all_mk KX G hmg own ?a1 ?l1 ?d1 ?k1 ?a2 ?l2 ?d2 ?k2 ?w_xgC ?w_xkl ?v_xrm ?w_xst ?w_xgt ?w_xgn ?w_xnm ?w_xini ?w_xtf ?w_xkp ?v_xsB ?v_xsV ?v_xsC ?w_xty ?w_xhd ?v_xsup ?v_xxi ?w_xfn ?v_xcf ?v_xce ?w_ygC ?w_ykl ?v_yrm ?w_yst ?w_ygt ?w_ygn ?w_ynm ?w_yini ?w_ytf ?w_ykp ?v_ysB ?v_ysV ?v_ysC ?w_yty ?w_yhd ?v_ysup ?v_yxi ?w_yfn ?v_ycf ?v_yce ?w_op ?w_noS ?v_ms ?w_e2 ?w_e3 ?w_e4 ?w_e5 ?w_e6 ?w_W ?v_kit ?v_ex ?z_len ?z_range ?z_isinstance ?z_ValueError
    (case a1 => k_is)
    (case l1 => k_is)
    (case d1 => k_is)
    (case k1 => k_is)
    (case a2 => k_is)
    (case l2 => k_is)
    (case d2 => k_is)
    (case k2 => k_is)
    (case w_xgC => k_is)
    (case w_xkl => k_is)
    (case v_xrm => first | k_is | kernel_rfl | rfl | decide +kernel)
    (case w_xst => k_is)
    (case w_xgt => k_is)
    (case w_xgn => k_is)
    (case w_xnm => k_is)
    (case w_xini => k_is)
    (case w_xtf => k_is)
    (case w_xkp => k_is)
    (case v_xsB => first | k_is | kernel_rfl | rfl | decide +kernel)
    (case v_xsV => first | k_is | kernel_rfl | rfl | decide +kernel)
    (case v_xsC => first | k_is | kernel_rfl | rfl | decide +kernel)
    (case w_xty => k_is)
    (case w_xhd => k_is)
    (case v_xsup => first | k_is | kernel_rfl | rfl | decide +kernel)
    (case v_xxi => first | k_is | kernel_rfl | rfl | decide +kernel)
    (case w_xfn => k_is)
    (case v_xcf => first | k_is | kernel_rfl | rfl | decide +kernel)
    (case v_xce => first | k_is | kernel_rfl | rfl | decide +kernel)
    (case w_ygC => k_is)
    (case w_ykl => k_is)
    (case v_yrm => first | k_is | kernel_rfl | rfl | decide +kernel)
    (case w_yst => k_is)
    (case w_ygt => k_is)
    (case w_ygn => k_is)
    (case w_ynm => k_is)
    (case w_yini => k_is)
    (case w_ytf => k_is)
    (case w_ykp => k_is)
    (case v_ysB => first | k_is | kernel_rfl | rfl | decide +kernel)
    (case v_ysV => first | k_is | kernel_rfl | rfl | decide +kernel)
    (case v_ysC => first | k_is | kernel_rfl | rfl | decide +kernel)
    (case w_yty => k_is)
    (case w_yhd => k_is)
    (case v_ysup => first | k_is | kernel_rfl | rfl | decide +kernel)
    (case v_yxi => first | k_is | kernel_rfl | rfl | decide +kernel)
    (case w_yfn => k_is)
    (case v_ycf => first | k_is | kernel_rfl | rfl | decide +kernel)
    (case v_yce => first | k_is | kernel_rfl | rfl | decide +kernel)
    (case w_op => k_is)
    (case w_noS => k_is)
    (case v_ms => first | k_is | kernel_rfl | rfl | decide +kernel)
    (case w_e2 => k_is)
    (case w_e3 => k_is)
    (case w_e4 => k_is)
    (case w_e5 => k_is)
    (case w_e6 => k_is)
    (case w_W => k_is)
    (case v_kit => first | k_is | kernel_rfl | rfl | decide +kernel)
    (case v_ex => first | k_is | kernel_rfl | rfl | decide +kernel)
    (case z_len => k_is)
    (case z_range => k_is)
    (case z_isinstance => k_is)
    (case z_ValueError => k_is)
