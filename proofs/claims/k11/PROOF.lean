import PyProof.Rows.All
import Wide.All
import OpenK.AllK
import Wide.FinOn
import HandS.Base
import HandS.Call
import HandS.List
import HandS.Comp
import HandS.Iter
import HandS.Words
import HandS.WordsList
import HandS.IsInst
import HandS.Walk
import HandS.Ends
import KE.GoesEnum
import HandS.Zip
import PySem.Challenge.RW_hodman_k11_works_that_move
set_option Elab.async false
set_option linter.all false
set_option maxRecDepth 100000
namespace Hod
open PySem PySem.Spec PyProof.Rows L2
/-! ### enumerate(tuple) -/
abbrev enumObj (n : Addr) : Obj := { cls := .type "enumerate", data := .fields #[.none, .bool false, .ref n, rawInt 0, .none, .none] }
set_option maxHeartbeats 1000000 in
theorem enumNew1 {v : Value} {ob : Obj} {HH : Heap → Prop} (B : Begins v ob HH) :
    Meets (Builtin.«enumerate.__new__» ⟨[.type "enumerate", v], []⟩) (fun _ R z => HH z.heap ∧
      R (.ok (.ret (.ref (z.heap.push ob).objs.size))) { z with heap := (z.heap.push ob).push (enumObj z.heap.objs.size) }) :=
  .of_wp fun prog w A R z hyp => by
    obtain ⟨hp, gg, dd, tk, oo⟩ := z
    obtain ⟨st, hyp⟩ := hyp
    have isub := sub_enumerate
    have go1 : ∀ {A2 : Around} {E2 : Value → Shared → Prop} {Q2 : Value → Shared → Prop}, Q2 (.ref hp.objs.size) ⟨hp.push ob, gg, dd, tk, oo⟩ → wpAny (model prog w) A2 (pyIter v) Q2 E2 ⟨hp, gg, dd, tk, oo⟩ :=
      fun q => B.iter prog w _ _ ⟨hp, gg, dd, tk, oo⟩ _ st q
    wp_walk using go1
    refine wpAny_stack_any fun _ => wpAny_pure ?_
    split
    · rename_i cc _ _ _ _ _
      cases (cc == Value.type "enumerate") <;> (wp_walk using go1; exact ⟨_, rfl, hyp⟩)
    · wp_walk using go1
      exact ⟨_, rfl, hyp⟩
theorem enumCall1 {prog : Program} {w : World} {A : Around} {E : Value → Shared → Prop} {z : Shared} {v : Value} {ob : Obj} {HH : Heap → Prop} {Q : Value → Shared → Prop} (B : Begins v ob HH) (st : HH z.heap)
    (k : ∀ h2, IsEnum h2 (z.heap.objs.size + 1) z.heap.objs.size 0 .none → h2.get? z.heap.objs.size = some ob → h2.objs.size = z.heap.objs.size + 2 →
      (∀ b u, z.heap.get? b = some u → h2.get? b = some u) → Q (.ref (z.heap.objs.size + 1)) { z with heap := h2 }) :
    wpAny (model prog w) A (call (.type "enumerate") [v]) Q E z := by
  refine callType_new F.called_enumerate (by decide) (F.typeCall_enumerate_1 _) (F.newCall_enumerate_1 _) (fun ob2 => F.args_object_init_2 ob2 _) F.entry_enumerate_new (enumNew1 B) ⟨st, ?_⟩
  have hz : (z.heap.push ob).objs.size = z.heap.objs.size + 1 := Heap.size_push ..
  show _ ∧ _
  rw [hz]
  have he : IsEnum ((z.heap.push ob).push (enumObj z.heap.objs.size)) (z.heap.objs.size + 1) z.heap.objs.size 0 .none := by
    have q := Heap.get?_push_size (z.heap.push ob) (o := enumObj z.heap.objs.size) rfl
    rw [hz] at q
    exact q
  exact ⟨⟨_, he, rfl⟩, k _ he (Heap.get?_push_of_some _ (Heap.get?_push_size _ B.free)) (by rw [Heap.size_push, hz]) fun b u y => Heap.get?_push_of_some _ (Heap.get?_push_of_some _ y)⟩
/-- the tuple at a, each item in a new pair -/
def Iet (K : PySem.W.Frag) (a : Addr) : It :=
  ⟨fun i H => ∃ (xs : List V) (x : V), SqT K H a xs ∧ xs[i]? = some x,
   fun i H v H2 => ∃ T x, v = .ref T ∧ H T = none ∧ H2 = upd H T (.tup [.int (i : Nat), x]) ∧ ∀ xs, SqT K H a xs → xs[i]? = some x,
   fun i H => ∃ xs : List V, SqT K H a xs ∧ xs.length = i⟩
theorem turn_enumT {P : Program} {w : World} {K : PySem.W.Frag} {elts : List Expr} {kk : Nat} {tpos : Pos} (a e it : Addr) (hai : a ≠ it) (hae : a ≠ e) :
    Turn P w K (.Tuple elts kk tpos) (Iet K a) [e, it] e (fun i h => (∃ old, IsEnum h e it ((i : Nat) : Int) old) ∧ h.IsTupleIter it a i ∧ e ≠ it) where
  mem := by simp
  obj := fun i h st b hb => by
    obtain ⟨⟨old, he⟩, ⟨u, hu, hc, hd⟩, _⟩ := st
    have e2 : b = e ∨ b = it := by simpa using hb
    rcases e2 with z | z
    · rw [z]; exact ⟨_, he, fun v q => nomatch q⟩
    · rw [z]; exact ⟨u, hu, fun v q => by rw [hd] at q; cases q⟩
  keep := fun i h h2 st k => let ⟨⟨old, he⟩, hi, hne⟩ := st; ⟨⟨old, k e (by simp) _ he⟩, hi.at fun u q => k it (by simp) u q, hne⟩
  item := by
    intro X hP hw hK hc i pins s σ H E I hf st hg
    subst hP hw hK
    obtain ⟨⟨old, he⟩, hit, hne⟩ := st
    obtain ⟨xs, x, hq, hx⟩ := hg
    obtain ⟨its, rv, p, hz⟩ := I.tuple hq
    obtain ⟨u, hu, ru⟩ := rv.get hx
    have hel : e < s.heap.objs.size := Heap.lt_size he
    have hil : it < s.heap.objs.size := by obtain ⟨_, q, _⟩ := hit; exact Heap.lt_size q
    have hpT : s.heap.IsTuple a its.toArray := p
    have hlt : i < its.toArray.size := by
      have q := (List.getElem?_eq_some_iff.mp hu).1
      simpa using q
    refine wpAny_pyNext_enum_itemD (Draws.tuple (A := X.A.in1) (show X.A.in1.handled = none from I.ok.hd hc) it a hai its.toArray) he ⟨hit, hpT⟩ hlt hne (by simp; exact ⟨hne, fun q => hae q.symm⟩) fun x2 h2 tk hP ho hs2 hT hsz hk => ?_
    have ex : x2 = u := by
      have q : its.toArray[i]? = some u := by simpa using hu
      exact Option.some.inj (hP.symm.trans q)
    subst ex
    refine ⟨_, rfl, wpAny_letOwnedTupleGo_enum (s := { s with heap := h2, toks := tk + 1 }) ho fun h3 he3 sb => ?_⟩
    have hT2 : h3.get? s.heap.objs.size = some { cls := .type "tuple", data := .seq #[.int i tk, x2] } := (sb.2 _ (Nat.ne_of_gt hel)).trans hT
    have new : ObjOk X.prog X.w (upd H s.heap.objs.size (.tup [.int (i : Nat), x])) h3 s.heap.objs.size (.tup [.int (i : Nat), x]) :=
      ⟨by show 2 ≤ sizeLine; decide, [.int i tk, x2], .cons ⟨_, rfl⟩ (.cons ru .nil), ⟨_, hT2, rfl, _, rfl⟩⟩
    have I1 : Inv X pins σ (upd H s.heap.objs.size (.tup [.int (i : Nat), x])) { s with heap := h3, toks := tk + 1 } :=
      I.turnedNew (ch := [e, it]) (fun b ob hb q => (sb.2 b (fun z => hb (by simp [z]))).trans (hk b ob (fun z => hb (by simp [z])) (fun z => hb (by simp [z])) q)) hf (Nat.le_refl _) new
    refine ⟨.ref s.heap.objs.size, _, I1, rfl, ⟨_, x, rfl, I.hok.fresh (Nat.le_refl _), rfl, fun ys hy => by rw [I.tuple_inj hy hq]; exact hx⟩, ⟨⟨x2, ?_⟩, hs2.1.at fun u q => (sb.2 it (Ne.symm hne)).trans q, hne⟩, fun b hb => ?_⟩
    · have e1 : ((i + 1 : Nat) : Int) = (i : Int) + 1 := by omega
      rw [e1]; exact he3
    · have hb2 : b < s.heap.objs.size := by
        have e2 : b = e ∨ b = it := by simpa using hb
        rcases e2 with z | z
        · rw [z]; exact hel
        · rw [z]; exact hil
      rw [upd_ne (Nat.ne_of_lt hb2)]
      exact (hf b hb).1
  done := by
    intro X hP hw hK hc i pins s σ H E I hf st hg
    subst hP hw hK
    obtain ⟨⟨old, he⟩, hit, hne⟩ := st
    obtain ⟨xs, hq, hx⟩ := hg
    obtain ⟨its, rv, p, hz⟩ := I.tuple hq
    obtain ⟨f0, f1, f2, f3, f4, f5⟩ := hf it (by simp)
    have hl : i = its.toArray.size := by
      have q := rv.length
      simp only [List.size_toArray]
      omega
    subst hl
    have hpT : s.heap.IsTuple a its.toArray := p
    exact wpAny_pyNext_enum_endD (Draws.tuple (A := X.A.in1) (show X.A.in1.handled = none from I.ok.hd hc) it a hai its.toArray) he ⟨hit, hpT⟩ fun h2 eb => ⟨rfl, I.turned (t' := s.toks) (fun b u hb q => eb b u hb q) f0 f1 f3 f4 f5⟩
  self := fun A i s Q E st h => let ⟨⟨_, he⟩, _⟩ := st; wpAny_pyIter_enum he h
def iEnT (K : PySem.W.Frag) (ta : TA) : TI := fun σ H R => ta σ H fun vs H1 => ∃ a xs, vs = [.ref a] ∧ SqT K H1 a xs ∧ R (Iet K a) H1
theorem pi_enumT {X : Cx} {e : Expr} {ta : TA} {p pos tpos : Pos} {elts : List Expr} {kk : Nat} (hg : Gl X "enumerate") (hm : X.mg "enumerate" = none) (ha : PA X [e] ta) (hs : starEach [e] X.env = [(false, eval e X.env)] := by rfl) :
    PI X (.Tuple elts kk tpos) (.Call (.Name "enumerate" p) [e] [] pos) (iEnT X.K ta) := by
  refine ⟨fun pins s σ H R I hyp => ?_⟩
  refine Call_ (ld_blt I hg hm boot_enumerate (PyProof.Rows.callWith_type1 (thn (ha.run pos pins s σ H _ I hyp) fun us s1 ⟨vs, H1, I1, r1, q1⟩ => ?_) hs rfl))
  obtain ⟨a, xs, ex, hq, q⟩ := q1
  subst ex
  cases r1 with
  | cons r rr =>
    cases rr
    cases r
    obtain ⟨its, rv, p2, hz⟩ := I1.tuple hq
    have hpT : s1.heap.IsTuple a its.toArray := p2
    have hal : a < s1.heap.objs.size := by obtain ⟨_, y, _⟩ := hpT; exact Heap.lt_size y
    refine enumCall1 (begins_tuple a its.toArray) hpT fun h2 he hit hsz hk => wpAny_pyIter_enum he ?_
    have I2 : Inv X pins σ H1 { s1 with heap := h2 } := I1.kept (t' := s1.toks) hk
    refine ⟨s1.heap.objs.size + 1, [s1.heap.objs.size + 1, s1.heap.objs.size], _, _, H1, rfl, I2, turn_enumT a (s1.heap.objs.size + 1) s1.heap.objs.size (Nat.ne_of_lt hal) (Nat.ne_of_lt (Nat.lt_succ_of_lt hal)), ⟨⟨.none, he⟩, ⟨_, hit, rfl, rfl⟩, Nat.succ_ne_self _⟩, fun b hb => ?_, q⟩
    have e2 : b = s1.heap.objs.size + 1 ∨ b = s1.heap.objs.size := by simpa using hb
    have hle : s1.heap.objs.size ≤ b := by
      rcases e2 with z | z
      · rw [z]; exact Nat.le_succ _
      · rw [z]; exact Nat.le_refl _
    exact I1.fpOk hle (I1.hok.fresh hle)
end Hod
/-! PART2 -/
namespace Hod
open PySem PySem.Spec PyProof.Rows L2
theorem walk_enumT {K : PySem.W.Frag} {a : Addr} {xs : List V} : Walk (Iet K a) xs.length (fun H => SqT K H a xs) (YPair (fun i => some (.int (i : Nat))) (fun i => xs[i]?)) := by
  refine ⟨fun i _ hi q => ⟨xs, xs[i], q, by simp [hi]⟩, fun _ q => ⟨xs, q, rfl⟩, fun i H v H2 _ q y => ?_⟩
  obtain ⟨T, x, h1, h2, h3, h4⟩ := y
  exact ⟨T, .int (i : Nat), x, h1, h2, h3, rfl, h4 xs q⟩
section
variable {X : Cx} {CX : CXT} {k : Nat} {f : Addr} {fd : FuncData} {ps ks : List Str} {sp : Sp} {E : XK} {x : Str} {p pos : Pos} {kws : List Keyword} {tk : TA} {g : List Value → List Value → List Value} {gV : List V → List V → List V}
/-- f(a=.., b=..): all by name -/
theorem pe_callK0 (F : FnOk X.prog X.w X.K X.mg X.base CX k f fd ps sp) (hr : Room k X.A) (hg : Gl X x) (hm : X.mg x = some (.ref f)) (hk : PySem.W.keepIn X.K (.ref f) = true) (hb : KBinds X.K fd ps ks g gV) (hx : Passes CX X E) (hkw : PK X kws tk)
    (hall : (backToKw pos (keywordEach kws X.env)).all (·.1.isSome) = true := by rfl) (hks : (backToKw pos (keywordEach kws X.env)).filterMap (·.1) = ks := by rfl) (hdb : (x == ("__debug__" : Str)) = false := by decide)
    (hpl : ((backTo pos (starEach [] X.env)).any (·.1) || (backToKw pos (keywordEach kws X.env)).any (·.1.isNone)) = false := by rfl) : PE X (.Call (.Name x p) [] kws pos) (tCallK sp gV E tNil tk) := by
  refine ⟨fun pins s σ H Q I hyp => wpAny_Call_Name_kw (ld_glob I hg hm ?_ hdb)⟩
  refine PySem.W.callWith_KW0 (h₀ := X.base) I.ok.mod.kin hk hall (thn (hkw.run pos pins s σ H _ I hyp) fun ws s2 ⟨zs, H2, I2, rz, q2⟩ => ⟨I2.kIn, ?_⟩) hpl
  rw [hks]
  exact run_fnk F hr hb hx I2 .nil rz q2
/-- a statement by a word of one's own -/
theorem ps_weak {st : Stmt} {t u : TS} (hs : PS X st t) (w : ∀ D σ H, u D σ H → t D σ H) : PS X st u := ⟨fun pins s σ H D I q => hs.run pins s σ H D I (w D σ H q)⟩
theorem pss_weak {st : List Stmt} {t u : TS} (hs : PSs X st t) (w : ∀ D σ H, u D σ H → t D σ H) : PSs X st u := ⟨fun pins s σ H D I q => hs.run pins s σ H D I (w D σ H q)⟩
theorem pe_weak {e : Expr} {t u : TE} (hs : PE X e t) (w : ∀ σ H Q, u σ H Q → t σ H Q) : PE X e u := ⟨fun pins s σ H Q I q => hs.run pins s σ H Q I (w σ H Q q)⟩
end
/-! ### heaps -/
theorem same_new {H : Hp} {p : Addr} {o : HO} (h : H p = none) : Same H (upd H p o) := fun b x e => by rw [upd_ne (ne_of_none e h)]; exact e
/-- all but what stands at d is as it was -/
def Sb (d : Addr) (H H2 : Hp) : Prop := ∀ b u, b ≠ d → H b = some u → H2 b = some u
theorem Sb.refl {d : Addr} {H : Hp} : Sb d H H := fun _ _ _ e => e
theorem Sb.trans {d : Addr} {H H1 H2 : Hp} (a : Sb d H H1) (b : Sb d H1 H2) : Sb d H H2 := fun c u n e => b c u n (a c u n e)
theorem sb_of {d : Addr} {H H2 : Hp} (s : Same H H2) : Sb d H H2 := fun c u _ e => s c u e
theorem sb_upd {d : Addr} {H : Hp} {o : HO} : Sb d H (upd H d o) := fun c u n e => by rw [upd_ne n]; exact e
theorem Sb.upd {d : Addr} {H H2 : Hp} {o : HO} (s : Sb d H H2) : Sb d H (upd H2 d o) := s.trans sb_upd
theorem Same.trans_sb {d : Addr} {H H1 H2 : Hp} (a : Same H H1) (b : Sb d H1 H2) : Sb d H H2 := (sb_of a).trans b
theorem cell_ne {H : Hp} {d c : Addr} {ns : List Int} {a b e : V} (hd : H d = some (.lst [.ref c, a, b, e])) (hc : H c = some (.lst (ns.map V.int))) : c ≠ d := ne_of hc hd (by
  intro z
  have z2 := HO.lst.inj z
  cases ns with
  | nil => cases z2
  | cons x r => cases z2)
end Hod

set_option Elab.async false
set_option linter.all false
set_option maxRecDepth 100000
/-! Values in the place of heaps: data as trees, lists under change as cells of a small memory, draws as one thing. -/
namespace Hv
open PySem PySem.Spec PyProof.Rows L2 Hod
abbrev Hid := Addr → Bool
inductive A where
  | dat (d : PyData)
  | own (a : Addr)
  | drw
  | ty (n : String)
abbrev Mem := Addr → Option (List A)
def emp : Mem := fun _ => none
def off (B : Hid) (μ : Mem) (H : Hp) : Hp := fun a => if B a || (μ a).isSome then none else H a
def put (μ : Mem) (a : Addr) (xs : List A) : Mem := fun b => if b = a then some xs else μ b
@[simp] theorem put_same {μ : Mem} {a : Addr} {xs : List A} : put μ a xs a = some xs := by simp [put]
theorem put_ne {μ : Mem} {a b : Addr} {xs : List A} (h : b ≠ a) : put μ a xs b = μ b := by simp [put, h]
@[simp] theorem put_put {μ : Mem} {a : Addr} {xs ys : List A} : put (put μ a xs) a ys = put μ a ys := by
  funext b
  by_cases h : b = a <;> simp [put, h]
theorem off_some {B : Hid} {μ : Mem} {H : Hp} {a : Addr} {o : HO} (h : off B μ H a = some o) : B a = false ∧ μ a = none ∧ H a = some o := by
  unfold off at h
  cases hb : B a with
  | true => rw [hb] at h; simp at h
  | false =>
    cases hm : μ a with
    | some x => rw [hb, hm] at h; simp at h
    | none => rw [hb, hm] at h; simp at h; exact ⟨rfl, rfl, h⟩
theorem off_of {B : Hid} {μ : Mem} {H : Hp} {a : Addr} (h1 : B a = false) (h2 : μ a = none) : off B μ H a = H a := by simp [off, h1, h2]
theorem off_same {B : Hid} {μ : Mem} {H : Hp} : Same (off B μ H) H := fun a o h => (off_some h).2.2
mutual
inductive Rp (K : PySem.W.Frag) (G : Hp) : V → PyData → Prop
  | non : Rp K G .non .none
  | bl (b : Bool) : Rp K G (.bl b) (.bool b)
  | int (i : Int) : Rp K G (.int i) (.int i)
  | str (x : Str) : Rp K G (.str x) (.str x)
  | lst {a : Addr} {xs : List V} {ds : List PyData} : G a = some (.lst xs) → Rps K G xs ds → Rp K G (.ref a) (.list ds)
  | tup {a : Addr} {xs : List V} {ds : List PyData} : SqT K G a xs → Rps K G xs ds → Rp K G (.ref a) (.tuple ds)
inductive Rps (K : PySem.W.Frag) (G : Hp) : List V → List PyData → Prop
  | nil : Rps K G [] []
  | cons {v : V} {vs : List V} {d : PyData} {ds : List PyData} : Rp K G v d → Rps K G vs ds → Rps K G (v :: vs) (d :: ds)
end
theorem sqt_same {K : PySem.W.Frag} {G G2 : Hp} {a : Addr} {xs : List V} (s : Same G G2) (h : SqT K G a xs) : SqT K G2 a xs := by
  rcases h with (h | ⟨o, h⟩) | h
  · exact .inl (.inl (s _ _ h))
  · exact .inl (.inr ⟨o, s _ _ h⟩)
  · exact .inr h
mutual
theorem Rp.mono {K : PySem.W.Frag} {G G2 : Hp} (s : Same G G2) : ∀ (d : PyData) (v : V), Rp K G v d → Rp K G2 v d
  | .none, _, h => by cases h; exact .non
  | .bool b, _, h => by cases h; exact .bl b
  | .int i, _, h => by cases h; exact .int i
  | .str x, _, h => by cases h; exact .str x
  | .list ds, _, h => by cases h with | lst h1 h2 => exact .lst (s _ _ h1) (Rps.mono s ds _ h2)
  | .tuple ds, _, h => by cases h with | tup h1 h2 => exact .tup (sqt_same s h1) (Rps.mono s ds _ h2)
  | .dict _, _, h => by cases h
theorem Rps.mono {K : PySem.W.Frag} {G G2 : Hp} (s : Same G G2) : ∀ (ds : List PyData) (vs : List V), Rps K G vs ds → Rps K G2 vs ds
  | [], _, h => by cases h; exact .nil
  | d :: ds, _, h => by cases h with | cons h1 h2 => exact .cons (Rp.mono s d _ h1) (Rps.mono s ds _ h2)
end
mutual
theorem Rp.dp {K : PySem.W.Frag} {G : Hp} : ∀ (d : PyData) (v : V), Rp K G v d → Dp K G v d
  | .none, _, h => by cases h; exact .non
  | .bool b, _, h => by cases h; exact .bl b
  | .int i, _, h => by cases h; exact .int i
  | .str x, _, h => by cases h; exact .str x
  | .list ds, _, h => by cases h with | lst h1 h2 => exact .lst (SqL.of h1) (Rps.dp ds _ h2)
  | .tuple ds, _, h => by cases h with | tup h1 h2 => exact .tup h1 (Rps.dp ds _ h2)
  | .dict _, _, h => by cases h
theorem Rps.dp {K : PySem.W.Frag} {G : Hp} : ∀ (ds : List PyData) (vs : List V), Rps K G vs ds → DpAll K G vs ds
  | [], _, h => by cases h; exact .nil
  | d :: ds, _, h => by cases h with | cons h1 h2 => exact .cons (Rp.dp d _ h1) (Rps.dp ds _ h2)
end
section
variable {K : PySem.W.Frag} {G G2 H H1 H2 H' : Hp} {S B : Hid} {μ : Mem}
theorem Rps.len : ∀ {ds : List PyData} {vs : List V}, Rps K G vs ds → vs.length = ds.length
  | [], _, h => by cases h; rfl
  | d :: ds, _, h => by cases h with | cons h1 h2 => simp [Rps.len h2]
theorem Rps.get : ∀ {ds : List PyData} {vs : List V} {i : Nat} {d : PyData}, Rps K G vs ds → ds[i]? = some d → ∃ v, vs[i]? = some v ∧ Rp K G v d
  | [], _, _, _, _, e => by simp at e
  | d :: ds, _, 0, _, h, e => by cases h with | cons h1 h2 => simp at e; subst e; exact ⟨_, rfl, h1⟩
  | d :: ds, _, i + 1, _, h, e => by
    cases h with
    | cons h1 h2 =>
      obtain ⟨v, q1, q2⟩ := Rps.get h2 (i := i) (by simpa using e)
      exact ⟨v, by simpa using q1, q2⟩
theorem Rps.getV : ∀ {ds : List PyData} {vs : List V} {i : Nat} {v : V}, Rps K G vs ds → vs[i]? = some v → ∃ d, ds[i]? = some d ∧ Rp K G v d
  | [], _, _, _, h, e => by cases h; simp at e
  | d :: ds, _, 0, _, h, e => by cases h with | cons h1 h2 => simp at e; subst e; exact ⟨_, rfl, h1⟩
  | d :: ds, _, i + 1, _, h, e => by
    cases h with
    | cons h1 h2 =>
      obtain ⟨v, q1, q2⟩ := Rps.getV h2 (i := i) (by simpa using e)
      exact ⟨v, by simpa using q1, q2⟩
theorem Rps.app : ∀ {ds es : List PyData} {vs ws : List V}, Rps K G vs ds → Rps K G ws es → Rps K G (vs ++ ws) (ds ++ es)
  | [], _, _, _, h, k => by cases h; exact k
  | d :: ds, _, _, _, h, k => by cases h with | cons h1 h2 => exact .cons h1 (Rps.app h2 k)
theorem Rps.drop : ∀ {ds : List PyData} {vs : List V} (n : Nat), Rps K G vs ds → Rps K G (vs.drop n) (ds.drop n)
  | _, _, 0, h => h
  | [], _, n + 1, h => by cases h; exact .nil
  | d :: ds, _, n + 1, h => by cases h with | cons h1 h2 => exact Rps.drop n h2
theorem Rps.take : ∀ {ds : List PyData} {vs : List V} (n : Nat), Rps K G vs ds → Rps K G (vs.take n) (ds.take n)
  | _, _, 0, h => .nil
  | [], _, n + 1, h => by cases h; exact .nil
  | d :: ds, _, n + 1, h => by cases h with | cons h1 h2 => exact .cons h1 (Rps.take n h2)
/-- a value in a slot, a cell, an expression -/
inductive Ra (K : PySem.W.Frag) (S : Hid) (μ : Mem) (G : Hp) : V → A → Prop
  | dat {v : V} {d : PyData} : Rp K G v d → Ra K S μ G v (.dat d)
  | own {a : Addr} : (μ a).isSome = true → Ra K S μ G (.ref a) (.own a)
  | drw {a : Addr} : S a = true → Ra K S μ G (.ref a) .drw
  | ty {n : String} : Ra K S μ G (.ty n) (.ty n)
inductive Ras (K : PySem.W.Frag) (S : Hid) (μ : Mem) (G : Hp) : List V → List A → Prop
  | nil : Ras K S μ G [] []
  | cons {v : V} {vs : List V} {d : A} {ds : List A} : Ra K S μ G v d → Ras K S μ G vs ds → Ras K S μ G (v :: vs) (d :: ds)
/-- an extension of memory and heap -/
structure Gw (μ μ2 : Mem) (G G2 : Hp) : Prop where
  g : Same G G2
  m : ∀ a, (μ a).isSome = true → (μ2 a).isSome = true
theorem Gw.same (s : Same G G2) : Gw μ μ G G2 := ⟨s, fun _ h => h⟩
theorem Ra.gw {μ2 : Mem} (w : Gw μ μ2 G G2) {v : V} {a : A} (h : Ra K S μ G v a) : Ra K S μ2 G2 v a := by
  cases h with
  | dat h => exact .dat (h.mono w.g _ _)
  | own h => exact .own (w.m _ h)
  | drw h => exact .drw h
  | ty => exact .ty
theorem Ra.mono (s : Same G G2) {v : V} {a : A} (h : Ra K S μ G v a) : Ra K S μ G2 v a := h.gw (.same s)
theorem Ras.gw {μ2 : Mem} (w : Gw μ μ2 G G2) : ∀ {as : List A} {vs : List V}, Ras K S μ G vs as → Ras K S μ2 G2 vs as
  | [], _, h => by cases h; exact .nil
  | a :: as, _, h => by cases h with | cons h1 h2 => exact .cons (h1.gw w) (Ras.gw w h2)
theorem Ras.mono (s : Same G G2) {as : List A} {vs : List V} (h : Ras K S μ G vs as) : Ras K S μ G2 vs as := h.gw (.same s)
theorem Ras.len : ∀ {as : List A} {vs : List V}, Ras K S μ G vs as → vs.length = as.length
  | [], _, h => by cases h; rfl
  | d :: ds, _, h => by cases h with | cons h1 h2 => simp [Ras.len h2]
theorem Ras.get : ∀ {ds : List A} {vs : List V} {i : Nat} {d : A}, Ras K S μ G vs ds → ds[i]? = some d → ∃ v, vs[i]? = some v ∧ Ra K S μ G v d
  | [], _, _, _, _, e => by simp at e
  | d :: ds, _, 0, _, h, e => by cases h with | cons h1 h2 => simp at e; subst e; exact ⟨_, rfl, h1⟩
  | d :: ds, _, i + 1, _, h, e => by
    cases h with
    | cons h1 h2 =>
      obtain ⟨v, q1, q2⟩ := Ras.get h2 (i := i) (by simpa using e)
      exact ⟨v, by simpa using q1, q2⟩
theorem Ras.app : ∀ {ds es : List A} {vs ws : List V}, Ras K S μ G vs ds → Ras K S μ G ws es → Ras K S μ G (vs ++ ws) (ds ++ es)
  | [], _, _, _, h, k => by cases h; exact k
  | d :: ds, _, _, _, h, k => by cases h with | cons h1 h2 => exact .cons h1 (Ras.app h2 k)
theorem Ras.set : ∀ {ds : List A} {vs : List V} {v : V} {a : A} (i : Nat), Ras K S μ G vs ds → Ra K S μ G v a → Ras K S μ G (vs.set i v) (ds.set i a)
  | [], _, _, _, _, h, k => by cases h; exact .nil
  | d :: ds, _, _, _, 0, h, k => by cases h with | cons h1 h2 => exact .cons k h2
  | d :: ds, _, _, _, i + 1, h, k => by cases h with | cons h1 h2 => exact .cons h1 (Ras.set i h2 k)
/-- all of them data -/
def dats : List A → Option (List PyData)
  | [] => some []
  | .dat d :: as => (dats as).map (d :: ·)
  | _ :: _ => none
theorem Ras.rps : ∀ {as : List A} {ds : List PyData} {vs : List V}, Ras K S μ G vs as → dats as = some ds → Rps K G vs ds
  | [], ds, _, h, e => by cases h; cases e; exact .nil
  | .dat d :: as, ds, _, h, e => by
    cases h with
    | cons h1 h2 =>
      cases h1 with
      | dat h1 =>
        unfold dats at e
        cases q : dats as with
        | none => rw [q] at e; cases e
        | some es => rw [q] at e; cases e; exact .cons h1 (Ras.rps h2 q)
  | .own _ :: as, ds, _, h, e => by cases e
  | .drw :: as, ds, _, h, e => by cases e
  | .ty _ :: as, ds, _, h, e => by cases e
theorem Rps.ras : ∀ {ds : List PyData} {vs : List V}, Rps K G vs ds → Ras K S μ G vs (ds.map A.dat)
  | [], _, h => by cases h; exact .nil
  | d :: ds, _, h => by cases h with | cons h1 h2 => exact .cons (.dat h1) (Rps.ras h2)
@[simp] theorem dats_map : ∀ (ds : List PyData), dats (ds.map A.dat) = some ds
  | [] => rfl
  | d :: ds => by show (dats (ds.map A.dat)).map (d :: ·) = _; rw [dats_map ds]; rfl
theorem dats_len : ∀ {as : List A} {ds : List PyData}, dats as = some ds → ds.length = as.length
  | [], _, e => by cases e; rfl
  | .dat d :: as, _, e => by
    unfold dats at e
    cases q : dats as with
    | none => rw [q] at e; cases e
    | some es => rw [q] at e; cases e; simp [dats_len q]
  | .own _ :: as, ds, e => by cases e
  | .drw :: as, ds, e => by cases e
  | .ty _ :: as, ds, e => by cases e
/-- the draws at a -/
def DrawIn (G H : Hp) (a : Addr) : Prop := ∃ (c : Addr) (ns : List Int) (i : Nat) (big seed : Int), H a = some (.lst [.ref c, .int i, .int big, .int seed]) ∧ G c = some (.lst (ns.map V.int)) ∧ 0 ≤ big ∧ 0 ≤ seed ∧ seed < 2147483647
structure Good (K : PySem.W.Frag) (S B : Hid) (μ : Mem) (H : Hp) : Prop where
  dr : ∀ a, S a = true → B a = true ∧ DrawIn (off B μ H) H a
  bd : ∀ a, B a = true → H a ≠ none
  ce : ∀ a xs, μ a = some xs → B a = false ∧ ∃ vs, H a = some (.lst vs) ∧ Ras K S μ (off B μ H) vs xs
/-- all but the draws stands as it stood -/
structure Ex (S : Hid) (H H' : Hp) : Prop where
  keep : ∀ a o, S a = false → H a = some o → H' a = some o
  dom : ∀ a, H' a = none → H a = none
  dr : ∀ a c r, S a = true → H a = some (.lst (.ref c :: r)) → ∃ r', H' a = some (.lst (.ref c :: r'))
theorem Ex.refl : Ex S H H := ⟨fun _ _ _ h => h, fun _ h => h, fun _ _ r _ h => ⟨r, h⟩⟩
theorem Ex.trans (a : Ex S H H1) (b : Ex S H1 H2) : Ex S H H2 :=
  ⟨fun x o s h => b.keep x o s (a.keep x o s h), fun x h => a.dom x (b.dom x h), fun x c r s h => by obtain ⟨r1, h1⟩ := a.dr x c r s h; exact b.dr x c r1 s h1⟩
theorem Ex.new {p : Addr} {o : HO} (h : H p = none) : Ex S H (upd H p o) :=
  ⟨fun a u _ e => by rw [upd_ne (ne_of_none e h)]; exact e,
   fun a e => by
     by_cases q : a = p
     · rw [q]; exact h
     · rw [upd_ne q] at e; exact e,
   fun a c r _ e => ⟨r, by rw [upd_ne (ne_of_none e h)]; exact e⟩⟩
theorem Good.sb (g : Good K S B μ H) {a : Addr} (h : B a = false) : S a = false := by
  cases q : S a with
  | false => rfl
  | true => rw [(g.dr a q).1] at h; cases h
theorem Ex.off (e : Ex S H H') (g : Good K S B μ H) : Same (off B μ H) (off B μ H') := fun a o h => by
  obtain ⟨h1, h2, h3⟩ := off_some h
  rw [off_of h1 h2]
  exact e.keep a o (g.sb h1) h3
theorem Good.free (g : Good K S B μ H) {p : Addr} (h : H p = none) : B p = false ∧ μ p = none := by
  constructor
  · cases q : B p with
    | false => rfl
    | true => exact absurd h (g.bd p q)
  · cases q : μ p with
    | none => rfl
    | some xs => obtain ⟨_, vs, e, _⟩ := g.ce p xs q; rw [h] at e; cases e
/-- carried over what an expression does, whatever was hidden there -/
theorem Good.step {B2 : Hid} {μ2 : Mem} (g : Good K S B μ H) (e : Ex S H H') (g2 : Good K S B2 μ2 H') : Good K S B μ H' := by
  refine ⟨fun a sa => ?_, fun a ba h => g.bd a ba (e.dom a h), fun a xs q => ?_⟩
  · obtain ⟨b1, c, ns, i, big, seed, h1, h2, _⟩ := g.dr a sa
    obtain ⟨_, c2, ns2, i2, big2, seed2, k1, k2, k3⟩ := g2.dr a sa
    obtain ⟨r', z⟩ := e.dr a c _ sa h1
    rw [k1] at z
    have ec : c2 = c := by
      have z2 := HO.lst.inj (Option.some.inj z)
      exact V.ref.inj (List.cons.inj z2).1
    subst ec
    exact ⟨b1, c2, ns, i2, big2, seed2, k1, e.off g _ _ h2, k3⟩
  · obtain ⟨b1, vs, h1, h2⟩ := g.ce a xs q
    exact ⟨b1, vs, e.keep a _ (g.sb b1) h1, h2.mono (e.off g)⟩
theorem Good.new (g : Good K S B μ H) {p : Addr} {o : HO} (h : H p = none) : Good K S B μ (upd H p o) := by
  have ex : Ex S H (upd H p o) := .new h
  refine ⟨fun a sa => ?_, fun a ba q => g.bd a ba (ex.dom a q), fun a xs q => ?_⟩
  · obtain ⟨b1, c, ns, i, big, seed, h1, h2, h3⟩ := g.dr a sa
    exact ⟨b1, c, ns, i, big, seed, by rw [upd_ne (ne_of_none h1 h)]; exact h1, ex.off g _ _ h2, h3⟩
  · obtain ⟨b1, vs, h1, h2⟩ := g.ce a xs q
    exact ⟨b1, vs, ex.keep a _ (g.sb b1) h1, h2.mono (ex.off g)⟩
theorem off_upd {p : Addr} {o : HO} (h1 : B p = false) (h2 : μ p = none) : off B μ (upd H p o) p = some o := by rw [off_of h1 h2, upd_same]
/-- slots -/
inductive Sls (K : PySem.W.Frag) (S : Hid) (μ : Mem) (G : Hp) : List (Option V) → List (Option A) → Prop
  | nil : Sls K S μ G [] []
  | any {s : Option V} {σ : List (Option V)} {ρ : List (Option A)} : Sls K S μ G σ ρ → Sls K S μ G (s :: σ) (none :: ρ)
  | has {v : V} {a : A} {σ : List (Option V)} {ρ : List (Option A)} : Ra K S μ G v a → Sls K S μ G σ ρ → Sls K S μ G (some v :: σ) (some a :: ρ)
theorem Sls.gw {μ2 : Mem} (w : Gw μ μ2 G G2) : ∀ {ρ : List (Option A)} {σ : List (Option V)}, Sls K S μ G σ ρ → Sls K S μ2 G2 σ ρ
  | [], _, h => by cases h; exact .nil
  | none :: ρ, _, h => by cases h with | any h => exact .any (Sls.gw w h)
  | some a :: ρ, _, h => by cases h with | has h1 h2 => exact .has (h1.gw w) (Sls.gw w h2)
theorem Sls.mono (s : Same G G2) {ρ : List (Option A)} {σ : List (Option V)} (h : Sls K S μ G σ ρ) : Sls K S μ G2 σ ρ := h.gw (.same s)
theorem Sls.get : ∀ {ρ : List (Option A)} {σ : List (Option V)} {i : Nat} {a : A}, Sls K S μ G σ ρ → ρ[i]? = some (some a) → ∃ v, σ[i]? = some (some v) ∧ Ra K S μ G v a
  | [], _, _, _, _, e => by simp at e
  | none :: ρ, _, 0, _, h, e => by simp at e
  | some _ :: ρ, _, 0, _, h, e => by cases h with | has h1 h2 => simp at e; subst e; exact ⟨_, rfl, h1⟩
  | none :: ρ, _, i + 1, _, h, e => by
    cases h with
    | any h2 =>
      obtain ⟨v, q1, q2⟩ := Sls.get h2 (i := i) (by simpa using e)
      exact ⟨v, by simpa using q1, q2⟩
  | some _ :: ρ, _, i + 1, _, h, e => by
    cases h with
    | has h1 h2 =>
      obtain ⟨v, q1, q2⟩ := Sls.get h2 (i := i) (by simpa using e)
      exact ⟨v, by simpa using q1, q2⟩
theorem Sls.set : ∀ {ρ : List (Option A)} {σ : List (Option V)} {v : V} {a : A} (i : Nat), Sls K S μ G σ ρ → Ra K S μ G v a → Sls K S μ G (σ.set i (some v)) (ρ.set i (some a))
  | [], _, _, _, _, h, k => by cases h; exact .nil
  | none :: ρ, _, _, _, 0, h, k => by cases h with | any h2 => exact .has k h2
  | some _ :: ρ, _, _, _, 0, h, k => by cases h with | has h1 h2 => exact .has k h2
  | none :: ρ, _, _, _, i + 1, h, k => by cases h with | any h2 => exact .any (Sls.set i h2 k)
  | some _ :: ρ, _, _, _, i + 1, h, k => by cases h with | has h1 h2 => exact .has h1 (Sls.set i h2 k)
theorem Sls.clr : ∀ {ρ : List (Option A)} {σ : List (Option V)} {s : Option V} (i : Nat), Sls K S μ G σ ρ → Sls K S μ G (σ.set i s) (ρ.set i none)
  | [], _, _, _, h => by cases h; exact .nil
  | none :: ρ, _, _, 0, h => by cases h with | any h2 => exact .any h2
  | some _ :: ρ, _, _, 0, h => by cases h with | has h1 h2 => exact .any h2
  | none :: ρ, _, _, i + 1, h => by cases h with | any h2 => exact .any (Sls.clr i h2)
  | some _ :: ρ, _, _, i + 1, h => by cases h with | has h1 h2 => exact .has h1 (Sls.clr i h2)
/-- a slot is forgotten -/
theorem Sls.forget : ∀ {ρ : List (Option A)} {σ : List (Option V)} (i : Nat), Sls K S μ G σ ρ → Sls K S μ G σ (ρ.set i none)
  | [], _, _, h => by cases h; exact .nil
  | none :: ρ, _, 0, h => by cases h with | any h2 => exact .any h2
  | some _ :: ρ, _, 0, h => by cases h with | has h1 h2 => exact .any h2
  | none :: ρ, _, i + 1, h => by cases h with | any h2 => exact .any (Sls.forget i h2)
  | some _ :: ρ, _, i + 1, h => by cases h with | has h1 h2 => exact .has h1 (Sls.forget i h2)
def wipeA (ρ : List (Option A)) : List Nat → List (Option A)
  | [] => ρ
  | v :: vs => (wipeA ρ vs).set v none
theorem Sls.wipe {ρ : List (Option A)} {σ : List (Option V)} (h : Sls K S μ G σ ρ) : ∀ (vs : List Nat), Sls K S μ G (L2.wipe σ vs) (wipeA ρ vs)
  | [] => h
  | v :: vs => (Sls.wipe h vs).clr v
theorem Sls.start : ∀ {as : List A} {vs : List V} (n : Nat), Ras K S μ G vs as → Sls K S μ G (vs.map some ++ List.replicate n none) (as.map some ++ List.replicate n none)
  | [], _, n, h => by
    cases h
    show Sls K S μ G (List.replicate n none) (List.replicate n none)
    induction n with
    | zero => exact .nil
    | succ n ih => rw [List.replicate_succ, List.replicate_succ]; exact .any ih
  | a :: as, _, n, h => by cases h with | cons h1 h2 => exact .has h1 (Sls.start n h2)
end
end Hv

set_option Elab.async false
set_option linter.all false
set_option maxRecDepth 100000
namespace Hv
open PySem PySem.Spec PyProof.Rows L2 Hod
abbrev Rho := List (Option A)
abbrev WE := Rho → Mem → (A → Prop) → Prop
abbrev WA := Rho → Mem → (List A → Prop) → Prop
abbrev WT := Rho → Mem → (Bool → Prop) → Prop
abbrev WI := Rho → Mem → (List PyData → Prop) → Prop
abbrev WO := Rho → Mem → (Option Int → Prop) → Prop
/-- the state by values -/
structure Sta (K : PySem.W.Frag) (S B : Hid) (σ : L2.St) (H : Hp) (ρ : Rho) (μ : Mem) : Prop where
  gd : Good K S B μ H
  sl : Sls K S μ (off B μ H) σ ρ
theorem Sta.ex {K : PySem.W.Frag} {S B : Hid} {σ : L2.St} {H H' : Hp} {ρ : Rho} {μ : Mem} (s : Sta K S B σ H ρ μ) (e : Ex S H H') (g : Good K S B μ H') : Sta K S B σ H' ρ μ := ⟨g, s.sl.mono (e.off s.gd)⟩
def LE (K : PySem.W.Frag) (w : WE) : TE := fun σ H Q => ∃ S B ρ μ Q2, Sta K S B σ H ρ μ ∧ w ρ μ Q2 ∧ ∀ v H' a, Ex S H H' → Good K S B μ H' → Ra K S μ (off B μ H') v a → Q2 a → Q v H'
/-- .. a list that comes of it is a new one -/
def LF (K : PySem.W.Frag) (w : WE) : TE := fun σ H Q => ∃ S B ρ μ Q2, Sta K S B σ H ρ μ ∧ w ρ μ Q2 ∧ ∀ v H' a, Ex S H H' → Good K S B μ H' → Ra K S μ (off B μ H') v a → (∀ p ds, v = .ref p → a = .dat (.list ds) → H p = none) → Q2 a → Q v H'
def LA (K : PySem.W.Frag) (w : WA) : TA := fun σ H Q => ∃ S B ρ μ Q2, Sta K S B σ H ρ μ ∧ w ρ μ Q2 ∧ ∀ vs H' as, Ex S H H' → Good K S B μ H' → Ras K S μ (off B μ H') vs as → Q2 as → Q vs H'
def LT (K : PySem.W.Frag) (w : WT) : TT := fun σ H Q => ∃ S B ρ μ Q2, Sta K S B σ H ρ μ ∧ w ρ μ Q2 ∧ ∀ b H', Ex S H H' → Good K S B μ H' → Q2 b → Q b H'
def LO (K : PySem.W.Frag) (w : WO) : TO := fun σ H Q => ∃ S B ρ μ Q2, Sta K S B σ H ρ μ ∧ w ρ μ Q2 ∧ ∀ b H', Ex S H H' → Good K S B μ H' → Q2 b → Q b H'
abbrev VE (X : Cx) (e : Expr) (w : WE) : Prop := PE X e (LE X.K w)
abbrev VF (X : Cx) (e : Expr) (w : WE) : Prop := PE X e (LF X.K w)
abbrev VT (X : Cx) (e : Expr) (w : WT) : Prop := PT X e (LT X.K w)
abbrev VW (X : Cx) (e : Expr) (w : WT) : Prop := PW X e (LT X.K w)
abbrev VA (X : Cx) (es : List Expr) (w : WA) : Prop := PA X es (LA X.K w)
abbrev VO (X : Cx) (e : Option Expr) (w : WO) : Prop := PO X e (LO X.K w)
section
variable {X : Cx} {a b c e : Expr} {pos : Pos} {wa wb wc we : WE}
theorem pt_weak {t u : TT} (hs : PT X e t) (w : ∀ σ H Q, u σ H Q → t σ H Q) : PT X e u := ⟨fun pins s σ H Q I q => hs.run pins s σ H Q I (w σ H Q q)⟩
theorem pw_weak {t u : TT} (hs : PW X e t) (w : ∀ σ H Q, u σ H Q → t σ H Q) : PW X e u := ⟨fun wh pins s σ H Q I q => hs.run wh pins s σ H Q I (w σ H Q q)⟩
theorem pa_weak {es : List Expr} {t u : TA} (hs : PA X es t) (w : ∀ σ H Q, u σ H Q → t σ H Q) : PA X es u := ⟨fun pos pins s σ H Q I q => hs.run pos pins s σ H Q I (w σ H Q q)⟩
theorem po_weak {e : Option Expr} {t u : TO} (hs : PO X e t) (w : ∀ σ H Q, u σ H Q → t σ H Q) : PO X e u := ⟨fun pins s σ H Q I q => hs.run pins s σ H Q I (w σ H Q q)⟩
/-- new ones are such too -/
theorem VF.ve (h : VF X e we) : VE X e we := pe_weak h fun σ H Q ⟨S, B, ρ, μ, Q2, st, w, k⟩ => ⟨S, B, ρ, μ, Q2, st, w, fun v H' a e g r _ q => k v H' a e g r q⟩
/-! ### names, constants -/
def wVar (i : Nat) : WE := fun ρ _ Q => match ρ[i]? with | some (some a) => Q a | _ => False
def wC (d : PyData) : WE := fun _ _ Q => Q (.dat d)
def wTy (n : String) : WE := fun _ _ Q => Q (.ty n)
theorem ve_var (i : Nat) {x : Str} {pos : Pos} (hN : X.N[i]? = some x := by rfl) (hv : Vis X.env.scope x := by first | exact Or.inl rfl | exact Or.inr (Or.inl rfl) | exact Or.inr (Or.inr rfl)) (hd : (x == ("__debug__" : Str)) = false := by decide)
    (hcd : (x == ("__classdict__" : Str)) = false := by decide) : VE X (.Name x pos) (wVar i) := by
  refine pe_weak (pe_var hN hv hd hcd) fun σ H Q ⟨S, B, ρ, μ, Q2, st, w, k⟩ => ?_
  unfold wVar at w
  split at w
  · rename_i a he
    obtain ⟨v, h1, h2⟩ := st.sl.get he
    exact ⟨v, h1, k v H a .refl st.gd h2 w⟩
  · exact w.elim
theorem ve_c {t : TE} {v : V} {d : PyData} (h : PE X e (tC v)) (r : ∀ K G, Rp K G v d) : VE X e (wC d) :=
  pe_weak h fun σ H Q ⟨S, B, ρ, μ, Q2, st, w, k⟩ => k v H _ .refl st.gd (.dat (r _ _)) w
theorem ve_int {i : Int} {j pos} : VE X (.Constant (.int i) j pos) (wC (.int i)) := ve_c (t := tC (.int i)) pe_int fun _ _ => .int i
theorem ve_bl {i : Bool} {j pos} : VE X (.Constant (.bool i) j pos) (wC (.bool i)) := ve_c (t := tC (.bl i)) pe_bl fun _ _ => .bl i
theorem ve_non {j pos} : VE X (.Constant .none j pos) (wC .none) := ve_c (t := tC .non) pe_non fun _ _ => .non
theorem ve_str {x : Str} {j pos} : VE X (.Constant (.str x) j pos) (wC (.str x)) := ve_c (t := tC (.str x)) pe_str fun _ _ => .str x
/-- a module's constant -/
theorem ve_glob {x : Str} {v : V} {u : Value} {d : PyData} {pos : Pos} (rd : ∀ K G, Rp K G v d) (hg : Gl X x) (hm : X.mg x = some u) (r : RelV v u) (hd : (x == ("__debug__" : Str)) = false := by decide) : VE X (.Name x pos) (wC d) := ve_c (t := tC v) (pe_glob hg hm r hd) rd
theorem ve_ty {x : Str} {n : String} {pos : Pos} (hg : Gl X x) (hm : X.mg x = none) (hv : bootBuiltins x = some (.type n)) (hn : x ≠ "__name__" := by decide) (hd : (x == ("__debug__" : Str)) = false := by decide) : VE X (.Name x pos) (wTy n) :=
  pe_weak (pe_bltn (v := .ty n) hg hm hv rfl hn hd) fun σ H Q ⟨S, B, ρ, μ, Q2, st, w, k⟩ => k _ H _ .refl st.gd .ty w
/-! ### operators -/
abbrev G2 := Mem → A → A → (A → Prop) → Prop
def RW (K : PySem.W.Frag) (r : R2) (g : G2) : Prop := ∀ S B x y H μ a b Q Q2, Good K S B μ H → Ra K S μ (off B μ H) x a → Ra K S μ (off B μ H) y b → g μ a b Q2 →
  (∀ v H' c, Ex S H H' → Good K S B μ H' → Ra K S μ (off B μ H') v c → (∀ p ds, v = .ref p → c = .dat (.list ds) → H p = none) → Q2 c → Q v H') → r x y H Q
/-- the same, perhaps an old list -/
def RV (K : PySem.W.Frag) (r : R2) (g : G2) : Prop := ∀ S B x y H μ a b Q Q2, Good K S B μ H → Ra K S μ (off B μ H) x a → Ra K S μ (off B μ H) y b → g μ a b Q2 →
  (∀ v H' c, Ex S H H' → Good K S B μ H' → Ra K S μ (off B μ H') v c → Q2 c → Q v H') → r x y H Q
theorem RW.rv {K : PySem.W.Frag} {r : R2} {g : G2} (h : RW K r g) : RV K r g := fun S B x y H μ a b Q Q2 g ra rb q k => h S B x y H μ a b Q Q2 g ra rb q fun v H' c e g r _ q => k v H' c e g r q
def wOp (g : G2) (wa wb : WE) : WE := fun ρ μ Q => wa ρ μ fun a => wb ρ μ fun b => g μ a b Q
theorem le_op {K : PySem.W.Frag} {r : R2} {g : G2} (hr : RV K r g) (σ : L2.St) (H : Hp) (Q : VK) (h : LE K (wOp g wa wb) σ H Q) : tOp r (LE K wa) (LE K wb) σ H Q := by
  obtain ⟨S, B, ρ, μ, Q2, st, w, k⟩ := h
  refine ⟨S, B, ρ, μ, _, st, w, fun x H1 a e1 g1 ra q1 => ⟨S, B, ρ, μ, _, st.ex e1 g1, q1, fun y H2 b e2 g2 rb q2 => ?_⟩⟩
  exact hr S B x y H2 μ a b Q Q2 g2 (ra.mono (e2.off g1)) rb q2 fun v H3 c e3 g3 rc q3 => k v H3 c (e1.trans (e2.trans e3)) g3 rc q3
theorem lf_op {K : PySem.W.Frag} {r : R2} {g : G2} (hr : RW K r g) (σ : L2.St) (H : Hp) (Q : VK) (h : LF K (wOp g wa wb) σ H Q) : tOp r (LE K wa) (LE K wb) σ H Q := by
  obtain ⟨S, B, ρ, μ, Q2, st, w, k⟩ := h
  refine ⟨S, B, ρ, μ, _, st, w, fun x H1 a e1 g1 ra q1 => ⟨S, B, ρ, μ, _, st.ex e1 g1, q1, fun y H2 b e2 g2 rb q2 => ?_⟩⟩
  exact hr S B x y H2 μ a b Q Q2 g2 (ra.mono (e2.off g1)) rb q2 fun v H3 c e3 g3 rc n q3 => k v H3 c (e1.trans (e2.trans e3)) g3 rc (fun p ds h1 h2 => e1.dom _ (e2.dom _ (n p ds h1 h2))) q3
theorem ve_op {op : Operator} {r : R2} {g : G2} (ho : OpR X (binaryOp op) r) (hr : RV X.K r g) (ha : VE X a wa) (hb : VE X b wb) : VE X (.BinOp a op b pos) (wOp g wa wb) := pe_weak (pe_op ho ha hb) (le_op hr)
theorem vf_op {op : Operator} {r : R2} {g : G2} (ho : OpR X (binaryOp op) r) (hr : RW X.K r g) (ha : VE X a wa) (hb : VE X b wb) : VF X (.BinOp a op b pos) (wOp g wa wb) := pe_weak (pe_op ho ha hb) (lf_op hr)
theorem ve_cmp {op : CmpOp} {r : R2} {g : G2} (ho : OpR X (compareOp op) r) (hr : RV X.K r g) (ha : VE X a wa) (hb : VE X b wb) (hm : behindInMarks op b = false) : VE X (.Compare a [op] [b] pos) (wOp g wa wb) := pe_weak (pe_cmpR ho ha hb hm) (le_op hr)
theorem ve_ix {r : R2} {g : G2} (ho : IxR X r) (hr : RV X.K r g) (ha : VE X a wa) (hb : VE X b wb) (hs : PlainIx b) : VE X (.Subscript a b pos) (wOp g wa wb) := pe_weak (pe_ix ho ha hb hs) (le_op hr)
def wB (w : WE) : WT := fun ρ μ Q => w ρ μ fun a => match a with | .dat (.bool b) => Q b | _ => False
theorem lt_B {K : PySem.W.Frag} (σ : L2.St) (H : Hp) (Q : Bool → Hp → Prop) (h : LT K (wB wa) σ H Q) : LE K wa σ H fun x H' => ∃ k, x = .bl k ∧ Q k H' := by
  obtain ⟨S, B, ρ, μ, Q2, st, w, k⟩ := h
  refine ⟨S, B, ρ, μ, _, st, w, fun v H1 a e1 g1 ra q1 => ?_⟩
  cases ra with
  | dat r =>
    cases r with
    | bl b => exact ⟨b, rfl, k b H1 e1 g1 q1⟩
    | _ => exact q1.elim
  | _ => exact q1.elim
theorem vt_cmp {op : CmpOp} {r : R2} {g : G2} (ho : OpR X (compareOp op) r) (hr : RV X.K r g) (ha : VE X a wa) (hb : VE X b wb) (hm : behindInMarks op b = false) : VT X (.Compare a [op] [b] pos) (wB (wOp g wa wb)) :=
  pt_weak (pt_cmpR ho ha hb hm) fun σ H Q h => le_op hr σ H _ (lt_B σ H Q h)
theorem vt_val (h : VE X e we) (he : ∀ whole, isTrue e X.env whole = (do let v ← whole; standAt e.pos; holding [v] (truthy v)) := by intro _; rfl) : VT X e (wB we) := pt_weak (pt_val h he) fun σ H Q h => lt_B σ H Q h
/-! tests -/
def wAndT (u v : WT) : WT := fun ρ μ Q => u ρ μ fun b => if b = true then v ρ μ Q else Q false
def wOrT (u v : WT) : WT := fun ρ μ Q => u ρ μ fun b => if b = true then Q true else v ρ μ Q
def wNotT (u : WT) : WT := fun ρ μ Q => u ρ μ fun b => Q (!b)
theorem vw_and1 {u : WT} (h : VT X a u) : VW X (.BoolOp .And [a] pos) u := pw_and1 h
theorem vw_or1 {u : WT} (h : VT X a u) : VW X (.BoolOp .Or [a] pos) u := pw_or1 h
theorem vw_and {rest : List Expr} {u v : WT} (ha : VT X a u) (hb : VW X (.BoolOp .And (b :: rest) pos) v) : VW X (.BoolOp .And (a :: b :: rest) pos) (wAndT u v) := by
  refine pw_weak (pw_and ha hb) fun σ H Q ⟨S, B, ρ, μ, Q2, st, w, k⟩ => ?_
  refine ⟨S, B, ρ, μ, _, st, w, fun z H1 e1 g1 q1 => ?_⟩
  cases z with
  | true => exact ⟨S, B, ρ, μ, _, st.ex e1 g1, q1, fun z2 H2 e2 g2 q2 => k z2 H2 (e1.trans e2) g2 q2⟩
  | false => exact k false H1 e1 g1 q1
theorem vw_or {rest : List Expr} {u v : WT} (ha : VT X a u) (hb : VW X (.BoolOp .Or (b :: rest) pos) v) : VW X (.BoolOp .Or (a :: b :: rest) pos) (wOrT u v) := by
  refine pw_weak (pw_or ha hb) fun σ H Q ⟨S, B, ρ, μ, Q2, st, w, k⟩ => ?_
  refine ⟨S, B, ρ, μ, _, st, w, fun z H1 e1 g1 q1 => ?_⟩
  cases z with
  | false => exact ⟨S, B, ρ, μ, _, st.ex e1 g1, q1, fun z2 H2 e2 g2 q2 => k z2 H2 (e1.trans e2) g2 q2⟩
  | true => exact k true H1 e1 g1 q1
theorem VW.vt {u : WT} (h : VW X e u) : VT X e u := PW.pt h
theorem vt_not {u : WT} (ha : VT X a u) : VT X (.UnaryOp .Not a pos) (wNotT u) :=
  pt_weak (pt_not ha) fun σ H Q ⟨S, B, ρ, μ, Q2, st, w, k⟩ => ⟨S, B, ρ, μ, _, st, w, fun z H1 e1 g1 q1 => k (!z) H1 e1 g1 q1⟩
/-! truth of any value -/
def truA (μ : Mem) : A → Option Bool
  | .dat .none => some false
  | .dat (.bool b) => some b
  | .dat (.int i) => some (i != 0)
  | .dat (.list ds) => some (!ds.isEmpty)
  | .dat (.tuple ds) => some (!ds.isEmpty)
  | .own a => match μ a with | some xs => some (!xs.isEmpty) | none => none
  | _ => none
theorem emp_of {K : PySem.W.Frag} {G : Hp} {xs : List V} {ds : List PyData} (r : Rps K G xs ds) : (!xs.isEmpty) = !ds.isEmpty := by cases r <;> rfl
theorem emp_of' {K : PySem.W.Frag} {S : Hid} {μ : Mem} {G : Hp} {xs : List V} {ds : List A} (r : Ras K S μ G xs ds) : (!xs.isEmpty) = !ds.isEmpty := by cases r <;> rfl
theorem tru_ok2 {K : PySem.W.Frag} {S B : Hid} {μ : Mem} {H : Hp} {v : V} {a : A} {k : Bool} (g : Good K S B μ H) (r : Ra K S μ (off B μ H) v a) (h : truA μ a = some k) : TruV K v H k := by
  cases r with
  | dat r =>
    cases r with
    | non => cases h; rfl
    | bl b => cases h; rfl
    | int i => cases h; rfl
    | str x => cases h
    | lst h1 h2 => cases h; exact .inl ⟨_, SqL.of (off_same _ _ h1), (emp_of h2).symm⟩
    | tup h1 h2 => cases h; exact .inr (.inl ⟨_, sqt_same off_same h1, (emp_of h2).symm⟩)
  | @own p h1 =>
    unfold truA at h
    dsimp only at h
    cases q : μ p with
    | none => rw [q] at h; cases h
    | some xs =>
      rw [q] at h
      cases h
      obtain ⟨_, vs, e1, e2⟩ := g.ce p xs q
      exact .inl ⟨_, SqL.of e1, (emp_of' e2).symm⟩
  | drw h1 => cases h
  | ty => cases h
def wTru (w : WE) : WT := fun ρ μ Q => w ρ μ fun a => match truA μ a with | some k => Q k | none => False
theorem vt_truth (ha : VE X a wa) (he : ∀ whole, isTrue a X.env whole = (do let v ← whole; standAt a.pos; holding [v] (truthy v)) := by intro _; rfl) : VT X a (wTru wa) := by
  refine pt_weak (pt_truth ha he) fun σ H Q ⟨S, B, ρ, μ, Q2, st, w, k⟩ => ⟨S, B, ρ, μ, _, st, w, fun z H1 z2 e1 g1 r1 q1 => ?_⟩
  split at q1
  · rename_i kk hk
    exact ⟨kk, tru_ok2 g1 r1 hk, k kk H1 e1 g1 q1⟩
  · exact q1.elim
/-! values: and, or, not, if *)-/
def wAndE (wa wb : WE) : WE := fun ρ μ Q => wa ρ μ fun a => match a with | .dat (.bool true) => wb ρ μ Q | .dat (.bool false) => Q (.dat (.bool false)) | _ => False
def wOrE (wa wb : WE) : WE := fun ρ μ Q => wa ρ μ fun a => match a with | .dat (.bool false) => wb ρ μ Q | .dat (.bool true) => Q (.dat (.bool true)) | _ => False
def wNotE (wa : WE) : WE := fun ρ μ Q => wa ρ μ fun a => match a with | .dat (.bool b) => Q (.dat (.bool (!b))) | _ => False
theorem ve_one {op} (h : VE X a wa) : VE X (.BoolOp op [a] pos) wa := pe_one h
theorem ve_and {rest : List Expr} (ha : VE X a wa) (hb : VE X (.BoolOp .And (b :: rest) pos) wb) : VE X (.BoolOp .And (a :: b :: rest) pos) (wAndE wa wb) := by
  refine pe_weak (pe_and ha hb) fun σ H Q ⟨S, B, ρ, μ, Q2, st, w, k⟩ => ⟨S, B, ρ, μ, _, st, w, fun v H1 a e1 g1 ra q1 => ?_⟩
  cases ra with
  | dat r =>
    cases r with
    | bl b =>
      refine ⟨b, rfl, ?_⟩
      cases b with
      | true => exact ⟨S, B, ρ, μ, _, st.ex e1 g1, q1, fun v2 H2 a2 e2 g2 r2 q2 => k v2 H2 a2 (e1.trans e2) g2 r2 q2⟩
      | false => exact k _ H1 _ e1 g1 (.dat (.bl false)) q1
    | _ => exact q1.elim
  | _ => exact q1.elim
theorem ve_or {rest : List Expr} (ha : VE X a wa) (hb : VE X (.BoolOp .Or (b :: rest) pos) wb) : VE X (.BoolOp .Or (a :: b :: rest) pos) (wOrE wa wb) := by
  refine pe_weak (pe_or ha hb) fun σ H Q ⟨S, B, ρ, μ, Q2, st, w, k⟩ => ⟨S, B, ρ, μ, _, st, w, fun v H1 a e1 g1 ra q1 => ?_⟩
  cases ra with
  | dat r =>
    cases r with
    | bl b =>
      refine ⟨b, rfl, ?_⟩
      cases b with
      | false => exact ⟨S, B, ρ, μ, _, st.ex e1 g1, q1, fun v2 H2 a2 e2 g2 r2 q2 => k v2 H2 a2 (e1.trans e2) g2 r2 q2⟩
      | true => exact k _ H1 _ e1 g1 (.dat (.bl true)) q1
    | _ => exact q1.elim
  | _ => exact q1.elim
theorem ve_not (ha : VE X a wa) : VE X (.UnaryOp .Not a pos) (wNotE wa) := by
  refine pe_weak (pe_not ha) fun σ H Q ⟨S, B, ρ, μ, Q2, st, w, k⟩ => ⟨S, B, ρ, μ, _, st, w, fun v H1 a e1 g1 ra q1 => ?_⟩
  cases ra with
  | dat r =>
    cases r with
    | bl b => exact ⟨b, rfl, k _ H1 _ e1 g1 (.dat (.bl _)) q1⟩
    | _ => exact q1.elim
  | _ => exact q1.elim
def wIf (u : WT) (wa wb : WE) : WE := fun ρ μ Q => u ρ μ fun b => if b = true then wa ρ μ Q else wb ρ μ Q
theorem ve_if {u : WT} (hc : VT X c u) (ha : VE X a wa) (hb : VE X b wb) : VE X (.IfExp c a b pos) (wIf u wa wb) := by
  refine pe_weak (pe_ifExp hc ha hb) fun σ H Q ⟨S, B, ρ, μ, Q2, st, w, k⟩ => ⟨S, B, ρ, μ, _, st, w, fun z H1 e1 g1 q1 => ?_⟩
  cases z with
  | true => exact ⟨S, B, ρ, μ, _, st.ex e1 g1, q1, fun v2 H2 a2 e2 g2 r2 q2 => k v2 H2 a2 (e1.trans e2) g2 r2 q2⟩
  | false => exact ⟨S, B, ρ, μ, _, st.ex e1 g1, q1, fun v2 H2 a2 e2 g2 r2 q2 => k v2 H2 a2 (e1.trans e2) g2 r2 q2⟩
theorem vf_if {u : WT} (hc : VT X c u) (ha : VF X a wa) (hb : VF X b wb) : VF X (.IfExp c a b pos) (wIf u wa wb) := by
  refine pe_weak (pe_ifExp hc ha hb) fun σ H Q ⟨S, B, ρ, μ, Q2, st, w, k⟩ => ⟨S, B, ρ, μ, _, st, w, fun z H1 e1 g1 q1 => ?_⟩
  cases z with
  | true => exact ⟨S, B, ρ, μ, _, st.ex e1 g1, q1, fun v2 H2 a2 e2 g2 r2 n q2 => k v2 H2 a2 (e1.trans e2) g2 r2 (fun p ds h1 h2 => e1.dom _ (n p ds h1 h2)) q2⟩
  | false => exact ⟨S, B, ρ, μ, _, st.ex e1 g1, q1, fun v2 H2 a2 e2 g2 r2 n q2 => k v2 H2 a2 (e1.trans e2) g2 r2 (fun p ds h1 h2 => e1.dom _ (n p ds h1 h2)) q2⟩
/-! ### unary minus, chains -/
def wUn (f : Int → Int) (wa : WE) : WE := fun ρ μ Q => wa ρ μ fun a => match a with | .dat (.int i) => Q (.dat (.int (f i))) | _ => False
theorem ve_neg (ha : VE X a wa) : VE X (.UnaryOp .USub a pos) (wUn (fun i => -i) wa) := by
  refine pe_weak (pe_un un_neg ha) fun σ H Q ⟨S, B, ρ, μ, Q2, st, w, k⟩ => ⟨S, B, ρ, μ, _, st, w, fun v H1 a e1 g1 ra q1 => ?_⟩
  cases ra with
  | dat r =>
    cases r with
    | int i => exact ⟨i, rfl, k _ H1 _ e1 g1 (.dat (.int _)) q1⟩
    | _ => exact q1.elim
  | _ => exact q1.elim
def wChain (g g' : G2) (wa wb wc : WE) : WE := fun ρ μ Q => wa ρ μ fun a => wb ρ μ fun b => g μ a b fun z => match z with | .dat (.bool true) => wc ρ μ fun c => g' μ b c Q | .dat (.bool false) => Q (.dat (.bool false)) | _ => False
theorem le_chain {K : PySem.W.Frag} {r r' : R2} {g g' : G2} (hr : RV K r g) (hr' : RV K r' g') (σ : L2.St) (H : Hp) (Q : VK) (h : LE K (wChain g g' wa wb wc) σ H Q) : tChain r r' (LE K wa) (LE K wb) (LE K wc) σ H Q := by
  obtain ⟨S, B, ρ, μ, Q2, st, w, k⟩ := h
  refine ⟨S, B, ρ, μ, _, st, w, fun x H1 a e1 g1 ra q1 => ⟨S, B, ρ, μ, _, st.ex e1 g1, q1, fun y H2 b e2 g2 rb q2 => ?_⟩⟩
  refine hr S B x y H2 μ a b _ _ g2 (ra.mono (e2.off g1)) rb q2 fun v H3 c e3 g3 rc q3 => ?_
  cases rc with
  | dat rc =>
    cases rc with
    | bl z =>
      refine ⟨z, rfl, ?_⟩
      cases z with
      | false => exact k _ H3 _ (e1.trans (e2.trans e3)) g3 (.dat (.bl false)) q3
      | true =>
        refine ⟨S, B, ρ, μ, _, (st.ex e1 g1).ex (e2.trans e3) g3, q3, fun z2 H4 c4 e4 g4 r4 q4 => ?_⟩
        exact hr' S B y z2 H4 μ b c4 Q Q2 g4 ((rb.mono (e3.off g2)).mono (e4.off g3)) r4 q4 fun v H5 c e5 g5 rc q5 => k v H5 c (e1.trans (e2.trans (e3.trans (e4.trans e5)))) g5 rc q5
    | _ => exact q3.elim
  | _ => exact q3.elim
theorem ve_chain {op op' : CmpOp} {r r' : R2} {g g' : G2} (ho : OpR X (compareOp op) r) (hr : RV X.K r g) (ho' : OpR X (compareOp op') r') (hr' : RV X.K r' g') (ha : VE X a wa) (hb : VE X b wb) (hc : VE X c wc)
    (hm : lastMarks [op, op'] [b, c] = false := by with_unfolding_all rfl) : VE X (.Compare a [op, op'] [b, c] pos) (wChain g g' wa wb wc) := pe_weak (pe_chain ho ho' ha hb hc hm) (le_chain hr hr')
theorem vt_chain {op op' : CmpOp} {r r' : R2} {g g' : G2} (ho : OpR X (compareOp op) r) (hr : RV X.K r g) (ho' : OpR X (compareOp op') r') (hr' : RV X.K r' g') (ha : VE X a wa) (hb : VE X b wb) (hc : VE X c wc)
    (hm : lastMarks [op, op'] [b, c] = false := by with_unfolding_all rfl) : VT X (.Compare a [op, op'] [b, c] pos) (wB (wChain g g' wa wb wc)) := pt_weak (pt_chain ho ho' ha hb hc hm) fun σ H Q h => le_chain hr hr' σ H _ (lt_B σ H Q h)
/-! ### arguments, displays -/
def waNil : WA := fun _ _ Q => Q []
def waCons (w : WE) (u : WA) : WA := fun ρ μ Q => w ρ μ fun a => u ρ μ fun as => Q (a :: as)
theorem va_nil : VA X [] waNil := pa_weak pa_nil fun σ H Q ⟨S, B, ρ, μ, Q2, st, w, k⟩ => k [] H [] .refl st.gd .nil w
theorem va_cons {es : List Expr} {u : WA} (ha : VE X e we) (hr : VA X es u) (hs : starEach (e :: es) X.env = (false, eval e X.env) :: starEach es X.env := by rfl) : VA X (e :: es) (waCons we u) := by
  refine pa_weak (pa_cons ha hr hs) fun σ H Q ⟨S, B, ρ, μ, Q2, st, w, k⟩ => ?_
  exact ⟨S, B, ρ, μ, _, st, w, fun v H1 a e1 g1 ra q1 => ⟨S, B, ρ, μ, _, st.ex e1 g1, q1, fun vs H2 as e2 g2 rs q2 => k _ H2 _ (e1.trans e2) g2 (.cons (ra.mono (e2.off g1)) rs) q2⟩⟩
def wTup (u : WA) : WE := fun ρ μ Q => u ρ μ fun as => match dats as with | some ds => as.length ≤ 1000 ∧ Q (.dat (.tuple ds)) | none => False
def wLst (u : WA) : WE := fun ρ μ Q => u ρ μ fun as => match dats as with | some ds => as.length ≤ 1000 ∧ Q (.dat (.list ds)) | none => False
theorem le1000 {n : Nat} (h : n ≤ 1000) : n ≤ sizeLine := Nat.le_of_lt (small1000 h)
theorem ve_tup {es : List Expr} {u : WA} {x1} (h : VA X es u) : VE X (.Tuple es x1 pos) (wTup u) := by
  refine pe_weak (pe_tup h) fun σ H Q ⟨S, B, ρ, μ, Q2, st, w, k⟩ => ⟨S, B, ρ, μ, _, st, w, fun vs H1 as e1 g1 rs q1 => ?_⟩
  split at q1
  · rename_i ds hd
    refine ⟨by rw [rs.len]; exact le1000 q1.1, fun p np => ?_⟩
    obtain ⟨b1, b2⟩ := g1.free np
    exact k _ _ _ (e1.trans (.new np)) (g1.new np) (.dat (.tup (.inl (.inl (off_upd b1 b2))) ((rs.rps hd).mono ((Ex.new np).off g1) _ _))) q1.2
  · exact q1.elim
theorem vf_lst {es : List Expr} {u : WA} (h : VA X es u) : VF X (.List es pos) (wLst u) := by
  refine pe_weak (pe_lst h) fun σ H Q ⟨S, B, ρ, μ, Q2, st, w, k⟩ => ⟨S, B, ρ, μ, _, st, w, fun vs H1 as e1 g1 rs q1 => ?_⟩
  split at q1
  · rename_i ds hd
    refine ⟨by rw [rs.len]; exact le1000 q1.1, fun p np => ?_⟩
    obtain ⟨b1, b2⟩ := g1.free np
    exact k _ _ _ (e1.trans (.new np)) (g1.new np) (.dat (.lst (off_upd b1 b2) ((rs.rps hd).mono ((Ex.new np).off g1) _ _))) (fun q _ e _ => by cases e; exact e1.dom _ np) q1.2
  · exact q1.elim
/-! ### slices -/
def woNone : WO := fun _ _ Q => Q none
def woSome (w : WE) : WO := fun ρ μ Q => w ρ μ fun a => match a with | .dat (.int i) => Q (some i) | _ => False
theorem vo_none : VO X none woNone := po_weak po_none fun σ H Q ⟨S, B, ρ, μ, Q2, st, w, k⟩ => k none H .refl st.gd w
theorem vo_some (h : VE X e we) : VO X (some e) (woSome we) := by
  refine po_weak (po_some h) fun σ H Q ⟨S, B, ρ, μ, Q2, st, w, k⟩ => ⟨S, B, ρ, μ, _, st, w, fun v H1 a e1 g1 ra q1 => ?_⟩
  cases ra with
  | dat r =>
    cases r with
    | int i => exact ⟨i, rfl, k _ H1 e1 g1 q1⟩
    | _ => exact q1.elim
  | _ => exact q1.elim
def cutD {α : Type} (xs : List α) (lo hi : Option Int) : List α := (xs.drop (HT.sIx xs.length 0 lo)).take (HT.sIx xs.length xs.length hi - HT.sIx xs.length 0 lo)
theorem rps_cut {K : PySem.W.Frag} {G : Hp} {xs : List V} {ds : List PyData} {lo hi : Option Int} (r : Rps K G xs ds) : Rps K G (cutV xs lo hi) (cutD ds lo hi) := by
  unfold cutV cutD
  rw [r.len]
  exact (r.drop _).take _
theorem Ras.drop' {K : PySem.W.Frag} {S : Hid} {μ : Mem} {G : Hp} : ∀ {ds : List A} {vs : List V} (n : Nat), Ras K S μ G vs ds → Ras K S μ G (vs.drop n) (ds.drop n)
  | _, _, 0, h => h
  | [], _, n + 1, h => by cases h; exact .nil
  | d :: ds, _, n + 1, h => by cases h with | cons h1 h2 => exact Ras.drop' n h2
theorem Ras.take' {K : PySem.W.Frag} {S : Hid} {μ : Mem} {G : Hp} : ∀ {ds : List A} {vs : List V} (n : Nat), Ras K S μ G vs ds → Ras K S μ G (vs.take n) (ds.take n)
  | _, _, 0, h => .nil
  | [], _, n + 1, h => by cases h; exact .nil
  | d :: ds, _, n + 1, h => by cases h with | cons h1 h2 => exact .cons h1 (Ras.take' n h2)
def wSlT (wa : WE) (wl wh : WO) : WE := fun ρ μ Q => wa ρ μ fun a => wl ρ μ fun lo => wh ρ μ fun hi => match a with
  | .dat (.tuple ds) => ¬ (HT.sIx ds.length 0 lo = 0 ∧ HT.sIx ds.length ds.length hi = ds.length) ∧ Q (.dat (.tuple (cutD ds lo hi)))
  | _ => False
def wSlL (wa : WE) (wl wh : WO) : WE := fun ρ μ Q => wa ρ μ fun a => wl ρ μ fun lo => wh ρ μ fun hi => match a with
  | .dat (.list ds) => Q (.dat (.list (cutD ds lo hi)))
  | _ => False
theorem ve_slT {lo hi : Option Expr} {p2} {wl wh : WO} (ha : VE X a wa) (hl : VO X lo wl) (hh : VO X hi wh) : VE X (.Subscript a (.Slice lo hi none p2) pos) (wSlT wa wl wh) := by
  refine pe_weak (pe_slice sl_tup ha hl hh) fun σ H Q ⟨S, B, ρ, μ, Q2, st, w, k⟩ => ⟨S, B, ρ, μ, _, st, w, fun v H1 a e1 g1 ra q1 => ⟨S, B, ρ, μ, _, st.ex e1 g1, q1, fun l H2 e2 g2 q2 => ⟨S, B, ρ, μ, _, (st.ex e1 g1).ex e2 g2, q2, fun h H3 e3 g3 q3 => ?_⟩⟩⟩
  cases ra with
  | dat r =>
    cases r with
    | @tup p xs ds h1 h2 =>
      refine ⟨p, xs, rfl, sqt_same off_same (sqt_same ((e2.trans e3).off g1) h1), ?_, fun q nq => ?_⟩
      · rw [h2.len]; exact q3.1
      obtain ⟨b1, b2⟩ := g3.free nq
      exact k _ _ _ (e1.trans (e2.trans (e3.trans (.new nq)))) (g3.new nq) (.dat (.tup (.inl (.inl (off_upd b1 b2))) (rps_cut ((h2.mono ((e2.trans e3).off g1) _ _).mono ((Ex.new nq).off g3) _ _)))) q3.2
    | _ => exact q3.elim
  | _ => exact q3.elim
theorem vf_slL {lo hi : Option Expr} {p2} {wl wh : WO} (ha : VE X a wa) (hl : VO X lo wl) (hh : VO X hi wh) : VF X (.Subscript a (.Slice lo hi none p2) pos) (wSlL wa wl wh) := by
  refine pe_weak (pe_slice sl_list ha hl hh) fun σ H Q ⟨S, B, ρ, μ, Q2, st, w, k⟩ => ⟨S, B, ρ, μ, _, st, w, fun v H1 a e1 g1 ra q1 => ⟨S, B, ρ, μ, _, st.ex e1 g1, q1, fun l H2 e2 g2 q2 => ⟨S, B, ρ, μ, _, (st.ex e1 g1).ex e2 g2, q2, fun h H3 e3 g3 q3 => ?_⟩⟩⟩
  cases ra with
  | dat r =>
    cases r with
    | @lst p xs ds h1 h2 =>
      refine ⟨p, xs, rfl, SqL.of (off_same _ _ ((e2.trans e3).off g1 _ _ h1)), fun q nq => ?_⟩
      obtain ⟨b1, b2⟩ := g3.free nq
      exact k _ _ _ (e1.trans (e2.trans (e3.trans (.new nq)))) (g3.new nq) (.dat (.lst (off_upd b1 b2) (rps_cut ((h2.mono ((e2.trans e3).off g1) _ _).mono ((Ex.new nq).off g3) _ _)))) (fun z _ e _ => by cases e; exact e1.dom _ (e2.dom _ (e3.dom _ nq))) q3
    | _ => exact q3.elim
  | _ => exact q3.elim
end
end Hv

set_option Elab.async false
set_option linter.all false
set_option maxRecDepth 100000
namespace Hv
open PySem PySem.Spec PyProof.Rows L2 Hod
section
variable {K : PySem.W.Frag}
/-! ### ints -/
def gI (f : Int → Int → PyData) : G2 := fun _ a b Q => match a, b with | .dat (.int i), .dat (.int j) => Q (.dat (f i j)) | _, _ => False
def gC (C : Int → Int → Prop) (f : Int → Int → PyData) : G2 := fun _ a b Q => match a, b with | .dat (.int i), .dat (.int j) => C i j ∧ Q (.dat (f i j)) | _, _ => False
def flatV2 : V → Prop | .ref _ => False | _ => True
theorem rw_I0 {g : Int → Int → V} {f : Int → Int → PyData} (h : ∀ i j K G, Rp K G (g i j) (f i j)) (hn : ∀ i j p, g i j ≠ .ref p) : RW K (rI0 g) (gI f) := fun S B x y H μ a b Q Q2 gd ra rb q k => by
  cases ra with
  | dat ra =>
    cases ra with
    | int i =>
      cases rb with
      | dat rb =>
        cases rb with
        | int j => exact ⟨i, j, rfl, rfl, k _ H _ .refl gd (.dat (h i j _ _)) (fun p _ e => absurd e (hn i j p)) q⟩
        | _ => exact q.elim
      | _ => exact q.elim
    | _ => exact q.elim
  | _ => exact q.elim
theorem rw_I {C : Int → Int → Prop} {g : Int → Int → V} {f : Int → Int → PyData} (h : ∀ i j K G, Rp K G (g i j) (f i j)) (hn : ∀ i j p, g i j ≠ .ref p) : RW K (rI C g) (gC C f) := fun S B x y H μ a b Q Q2 gd ra rb q k => by
  cases ra with
  | dat ra =>
    cases ra with
    | int i =>
      cases rb with
      | dat rb =>
        cases rb with
        | int j => exact ⟨i, j, rfl, rfl, q.1, k _ H _ .refl gd (.dat (h i j _ _)) (fun p _ e => absurd e (hn i j p)) q.2⟩
        | _ => exact q.elim
      | _ => exact q.elim
    | _ => exact q.elim
  | _ => exact q.elim
abbrev gAdd : G2 := gI fun i j => .int (i + j)
abbrev gSub : G2 := gI fun i j => .int (i - j)
abbrev gLt : G2 := gI fun i j => .bool (decide (i < j))
abbrev gLe : G2 := gI fun i j => .bool (decide (i ≤ j))
abbrev gGt : G2 := gI fun i j => .bool (decide (j < i))
abbrev gGe : G2 := gI fun i j => .bool (decide (j ≤ i))
abbrev gMul : G2 := gC CMul fun i j => .int (i * j)
abbrev gDiv : G2 := gC CDiv fun i j => .int (i / j)
abbrev gMod : G2 := gC (fun _ j => 0 < j) fun i j => .int (i % j)
abbrev gPow : G2 := gC CPow fun i j => .int (i ^ j.toNat)
theorem r_add : RV K (rI0 fun i j => .int (i + j)) gAdd := (rw_I0 (fun _ _ _ _ => .int _) (fun _ _ _ e => nomatch e)).rv
theorem r_sub : RV K (rI0 fun i j => .int (i - j)) gSub := (rw_I0 (fun _ _ _ _ => .int _) (fun _ _ _ e => nomatch e)).rv
theorem r_lt : RV K (rI0 fun i j => .bl (decide (i < j))) gLt := (rw_I0 (fun _ _ _ _ => .bl _) (fun _ _ _ e => nomatch e)).rv
theorem r_le : RV K (rI0 fun i j => .bl (decide (i ≤ j))) gLe := (rw_I0 (fun _ _ _ _ => .bl _) (fun _ _ _ e => nomatch e)).rv
theorem r_gt : RV K (rI0 fun i j => .bl (decide (j < i))) gGt := (rw_I0 (fun _ _ _ _ => .bl _) (fun _ _ _ e => nomatch e)).rv
theorem r_ge : RV K (rI0 fun i j => .bl (decide (j ≤ i))) gGe := (rw_I0 (fun _ _ _ _ => .bl _) (fun _ _ _ e => nomatch e)).rv
theorem r_mul : RV K (rI CMul fun i j => .int (i * j)) gMul := (rw_I (fun _ _ _ _ => .int _) (fun _ _ _ e => nomatch e)).rv
theorem r_div : RV K (rI CDiv fun i j => .int (i / j)) gDiv := (rw_I (fun _ _ _ _ => .int _) (fun _ _ _ e => nomatch e)).rv
theorem r_mod : RV K (rI (fun _ j => 0 < j) fun i j => .int (i % j)) gMod := (rw_I (fun _ _ _ _ => .int _) (fun _ _ _ e => nomatch e)).rv
theorem r_pow : RV K (rI CPow fun i j => .int (i ^ j.toNat)) gPow := (rw_I (fun _ _ _ _ => .int _) (fun _ _ _ e => nomatch e)).rv
/-! ### == of flat things -/
def eqF : PyData → PyData → Option Bool
  | .int i, .int j => some (decide (i = j))
  | .bool i, .bool j => some (decide (i = j))
  | .str i, .str j => some (decide (i = j))
  | .none, .none => some true
  | .none, .int _ => some false
  | .int _, .none => some false
  | .int _, .str _ => some false
  | .str _, .int _ => some false
  | .none, .str _ => some false
  | .str _, .none => some false
  | _, _ => none
def gEq : G2 := fun _ a b Q => match a, b with | .dat d, .dat e => (match eqF d e with | some k => Q (.dat (.bool k)) | none => False) | _, _ => False
def gNe : G2 := fun _ a b Q => match a, b with | .dat d, .dat e => (match eqF d e with | some k => Q (.dat (.bool (!k))) | none => False) | _, _ => False
theorem eqF_ok {G : Hp} {x y : V} {d e : PyData} {k : Bool} (r1 : Rp K G x d) (r2 : Rp K G y e) (h : eqF d e = some k) : scal x y = true ∧ decide (x = y) = k := by
  cases r1 <;> cases r2 <;> first | (cases h; done) | (cases h; simp [scal]; done) | skip
theorem r_eq : RV K rEq gEq := fun S B x y H μ a b Q Q2 gd ra rb q k => by
  cases ra with
  | dat ra =>
    cases rb with
    | dat rb =>
      unfold gEq at q
      dsimp only at q
      split at q
      · rename_i kk hk
        obtain ⟨h1, h2⟩ := eqF_ok ra rb hk
        exact ⟨h1, by rw [h2]; exact k _ H _ .refl gd (.dat (.bl _)) q⟩
      · exact q.elim
    | _ => exact q.elim
  | _ => exact q.elim
theorem r_ne : RV K rNe gNe := fun S B x y H μ a b Q Q2 gd ra rb q k => by
  cases ra with
  | dat ra =>
    cases rb with
    | dat rb =>
      unfold gNe at q
      dsimp only at q
      split at q
      · rename_i kk hk
        obtain ⟨h1, h2⟩ := eqF_ok ra rb hk
        exact ⟨h1, by rw [h2]; exact k _ H _ .refl gd (.dat (.bl _)) q⟩
      · exact q.elim
    | _ => exact q.elim
  | _ => exact q.elim
/-! ### == at any depth; a cell is its items -/
def rsv (μ : Mem) : A → Option PyData
  | .dat d => some d
  | .own a => match μ a with | some xs => (dats xs).map PyData.list | none => none
  | _ => none
theorem rsv_dp {S B : Hid} {μ : Mem} {H : Hp} {x : V} {a : A} {d : PyData} (g : Good K S B μ H) (r : Ra K S μ (off B μ H) x a) (h : rsv μ a = some d) : Dp K H x d := by
  cases r with
  | dat r => cases h; exact (r.mono off_same _ _).dp _ _
  | @own p h1 =>
    unfold rsv at h
    dsimp only at h
    cases q : μ p with
    | none => rw [q] at h; cases h
    | some xs =>
      rw [q] at h
      dsimp only at h
      obtain ⟨_, vs, e1, e2⟩ := g.ce p xs q
      cases hd : dats xs with
      | none => rw [hd] at h; cases h
      | some ds =>
        rw [hd] at h
        cases h
        exact .lst (SqL.of e1) (((e2.rps hd).mono off_same _ _).dp _ _)
  | drw h1 => cases h
  | ty => cases h
def gEqD : G2 := fun μ a b Q => ∃ d e, rsv μ a = some d ∧ rsv μ b = some e ∧ SeqAt.shaped d = true ∧ SeqAt.shaped e = true ∧ Q (.dat (.bool (PyData.eqv d e)))
def gNeD : G2 := fun μ a b Q => ∃ d e, rsv μ a = some d ∧ rsv μ b = some e ∧ SeqAt.shaped d = true ∧ SeqAt.shaped e = true ∧ Q (.dat (.bool (!PyData.eqv d e)))
theorem r_eqD : RV K (rEqD K) gEqD := fun S B x y H μ a b Q Q2 gd ra rb q k => by
  obtain ⟨d, e, h1, h2, h3, h4, q⟩ := q
  exact ⟨d, e, rsv_dp gd ra h1, rsv_dp gd rb h2, h3, h4, k _ H _ .refl gd (.dat (.bl _)) q⟩
theorem r_neD : RV K (rNeD K) gNeD := fun S B x y H μ a b Q Q2 gd ra rb q k => by
  obtain ⟨d, e, h1, h2, h3, h4, q⟩ := q
  exact ⟨d, e, rsv_dp gd ra h1, rsv_dp gd rb h2, h3, h4, k _ H _ .refl gd (.dat (.bl _)) q⟩
/-! ### is None -/
def isNoneA : A → Bool | .dat .none => true | _ => false
def gIsN : G2 := fun _ a b Q => match b with | .dat .none => Q (.dat (.bool (isNoneA a))) | _ => False
def gNotN : G2 := fun _ a b Q => match b with | .dat .none => Q (.dat (.bool (!isNoneA a))) | _ => False
theorem isN_ok {S : Hid} {μ : Mem} {G : Hp} {x : V} {a : A} (r : Ra K S μ G x a) : decide (x = .non) = isNoneA a := by
  cases r with
  | dat r => cases r <;> simp [isNoneA]
  | own h => simp [isNoneA]
  | drw h => simp [isNoneA]
  | ty => simp [isNoneA]
theorem r_isN : RV K (fun x y H Q => y = .non ∧ Q (.bl (decide (x = .non))) H) gIsN := fun S B x y H μ a b Q Q2 gd ra rb q k => by
  cases rb with
  | dat rb =>
    cases rb with
    | non => exact ⟨rfl, by rw [isN_ok ra]; exact k _ H _ .refl gd (.dat (.bl _)) q⟩
    | _ => exact q.elim
  | _ => exact q.elim
theorem r_notN : RV K (fun x y H Q => y = .non ∧ Q (.bl (!decide (x = .non))) H) gNotN := fun S B x y H μ a b Q Q2 gd ra rb q k => by
  cases rb with
  | dat rb =>
    cases rb with
    | non => exact ⟨rfl, by rw [isN_ok ra]; exact k _ H _ .refl gd (.dat (.bl _)) q⟩
    | _ => exact q.elim
  | _ => exact q.elim
/-! ### subscripts -/
def gIx : G2 := fun μ a b Q => match a, b with
  | .dat (.list ds), .dat (.int i) => (match atI ds i with | some d => Q (.dat d) | none => False)
  | .dat (.tuple ds), .dat (.int i) => (match atI ds i with | some d => Q (.dat d) | none => False)
  | .own p, .dat (.int i) => (match μ p with | some xs => (match atI xs i with | some d => Q d | none => False) | none => False)
  | _, _ => False
theorem rps_at {G : Hp} {xs : List V} {ds : List PyData} {i : Int} {d : PyData} (r : Rps K G xs ds) (h : atI ds i = some d) : ∃ v, atI xs i = some v ∧ Rp K G v d := by
  unfold atI at h ⊢
  rw [r.len]
  cases q : ixN ds.length i with
  | none => rw [q] at h; cases h
  | some j => rw [q] at h; exact r.get h
theorem ras_at {S : Hid} {μ : Mem} {G : Hp} {xs : List V} {ds : List A} {i : Int} {d : A} (r : Ras K S μ G xs ds) (h : atI ds i = some d) : ∃ v, atI xs i = some v ∧ Ra K S μ G v d := by
  unfold atI at h ⊢
  rw [r.len]
  cases q : ixN ds.length i with
  | none => rw [q] at h; cases h
  | some j => rw [q] at h; exact r.get h
theorem r_ix : RV K (rIx K) gIx := fun S B x y H μ a b Q Q2 gd ra rb q k => by
  cases rb with
  | dat rb =>
    cases rb with
    | int i =>
      cases ra with
      | dat ra =>
        cases ra with
        | @lst p xs ds h1 h2 =>
          unfold gIx at q
          dsimp only at q
          split at q
          · rename_i d hd
            obtain ⟨v, e1, e2⟩ := rps_at h2 hd
            exact .inl ⟨p, xs, i, v, rfl, rfl, SqL.of (off_same _ _ h1), e1, k _ H _ .refl gd (.dat e2) q⟩
          · exact q.elim
        | @tup p xs ds h1 h2 =>
          unfold gIx at q
          dsimp only at q
          split at q
          · rename_i d hd
            obtain ⟨v, e1, e2⟩ := rps_at h2 hd
            exact .inr (.inl ⟨p, xs, i, v, rfl, rfl, sqt_same off_same h1, e1, k _ H _ .refl gd (.dat e2) q⟩)
          · exact q.elim
        | _ => exact q.elim
      | @own p h1 =>
        unfold gIx at q
        dsimp only at q
        split at q
        · rename_i xs hx
          obtain ⟨_, vs, e1, e2⟩ := gd.ce p xs hx
          split at q
          · rename_i d hd
            obtain ⟨v, e3, e4⟩ := ras_at e2 hd
            exact .inl ⟨p, vs, i, v, rfl, rfl, SqL.of e1, e3, k _ H _ .refl gd e4 q⟩
          · exact q.elim
        · exact q.elim
      | _ => exact q.elim
    | _ => cases a <;> first | exact q.elim | (rename_i d; cases d <;> exact q.elim)
  | _ => cases a <;> first | exact q.elim | (rename_i d; cases d <;> exact q.elim)
/-! ### in -/
def flatD : PyData → Bool | .none => true | .bool _ => true | .int _ => true | .str _ => true | _ => false
def seqA (μ : Mem) : A → Option (List PyData)
  | .dat (.list ds) => some ds
  | .dat (.tuple ds) => some ds
  | .own a => match μ a with | some xs => dats xs | none => none
  | _ => none
theorem seqA_ok {S B : Hid} {μ : Mem} {H : Hp} {x : V} {a : A} {ds : List PyData} (g : Good K S B μ H) (r : Ra K S μ (off B μ H) x a) (h : seqA μ a = some ds) : ∃ p xs, x = .ref p ∧ (SqL K H p xs ∨ SqT K H p xs) ∧ Rps K (off B μ H) xs ds := by
  cases r with
  | dat r =>
    cases r with
    | @lst p xs ds h1 h2 => cases h; exact ⟨p, xs, rfl, .inl (SqL.of (off_same _ _ h1)), h2⟩
    | @tup p xs ds h1 h2 => cases h; exact ⟨p, xs, rfl, .inr (sqt_same off_same h1), h2⟩
    | _ => cases h
  | @own p h1 =>
    unfold seqA at h
    dsimp only at h
    cases q : μ p with
    | none => rw [q] at h; cases h
    | some xs =>
      rw [q] at h
      obtain ⟨_, vs, e1, e2⟩ := g.ce p xs q
      exact ⟨p, vs, rfl, .inl (SqL.of e1), e2.rps h⟩
  | drw h1 => cases h
  | ty => cases h
theorem flat_ok {G : Hp} {x : V} {d : PyData} (r : Rp K G x d) : flatV x = flatD d := by cases r <;> rfl
theorem flat_all {G : Hp} : ∀ {ds : List PyData} {xs : List V}, Rps K G xs ds → xs.all flatV = ds.all flatD
  | [], _, h => by cases h; rfl
  | d :: ds, _, h => by cases h with | cons h1 h2 => simp only [List.all_cons, flat_ok h1, flat_all h2]
theorem eqV_ok {G : Hp} {x y : V} {d e : PyData} (r1 : Rp K G x d) (r2 : Rp K G y e) (f1 : flatD d = true) (f2 : flatD e = true) : eqV x y = PyData.eqv d e := by
  cases r1 <;> cases r2 <;> first | rfl | (simp [eqV, PyData.eqv]; done) | (cases f1; done) | (cases f2; done)
theorem inV_ok {G : Hp} {x : V} {d : PyData} (r1 : Rp K G x d) (f1 : flatD d = true) : ∀ {ds : List PyData} {xs : List V}, Rps K G xs ds → ds.all flatD = true → inV x xs = ds.any fun z => PyData.eqv z d
  | [], _, h, _ => by cases h; rfl
  | e :: ds, _, h, f => by
    cases h with
    | cons h1 h2 =>
      simp only [List.all_cons, Bool.and_eq_true] at f
      have i := inV_ok r1 f1 h2 f.2
      unfold inV at i ⊢
      rw [List.any_cons, List.any_cons, i, eqV_ok h1 r1 f.1 f1]
def gIn (neg : Bool) : G2 := fun μ a b Q => match a with
  | .dat d => (match seqA μ b with | some ds => flatD d = true ∧ ds.all flatD = true ∧ Q (.dat (.bool (if neg then !(ds.any fun z => PyData.eqv z d) else ds.any fun z => PyData.eqv z d))) | none => False)
  | _ => False
theorem r_in {neg : Bool} : RV K (rIn K neg) (gIn neg) := fun S B x y H μ a b Q Q2 gd ra rb q k => by
  cases ra with
  | dat ra =>
    unfold gIn at q
    dsimp only at q
    split at q
    · rename_i ds hd
      obtain ⟨p, xs, e1, e2, e3⟩ := seqA_ok gd rb hd
      obtain ⟨f1, f2, q⟩ := q
      refine ⟨p, xs, e1, e2, (flat_ok ra).trans f1, (flat_all e3).trans f2, ?_⟩
      rw [inV_ok ra f1 e3 f2]
      exact k _ H _ .refl gd (.dat (.bl _)) q
    · exact q.elim
  | _ => exact q.elim
/-! ### list + list, list * int -/
def gCat : G2 := fun _ a b Q => match a, b with | .dat (.list xs), .dat (.list ys) => xs.length + ys.length ≤ 1000000 ∧ Q (.dat (.list (xs ++ ys))) | _, _ => False
def gRep : G2 := fun _ a b Q => match a, b with | .dat (.list xs), .dat (.int k) => (-1000 ≤ k ∧ k ≤ 1000) ∧ xs.length ≤ 1000 ∧ Q (.dat (.list (List.replicate k.toNat xs).flatten)) | _, _ => False
theorem big {n : Nat} (h : n ≤ 1000000) : n ≤ sizeLine := Nat.le_trans h (by decide)
theorem rps_flat {G : Hp} {xs : List V} {ds : List PyData} (r : Rps K G xs ds) : ∀ n : Nat, Rps K G (List.replicate n xs).flatten (List.replicate n ds).flatten
  | 0 => .nil
  | n + 1 => by rw [List.replicate_succ, List.replicate_succ, List.flatten_cons, List.flatten_cons]; exact r.app (rps_flat r n)
theorem r_cat : RW K rCat gCat := fun S B x y H μ a b Q Q2 gd ra rb q k => by
  cases ra with
  | dat ra =>
    cases ra with
    | @lst p xs ds h1 h2 =>
      cases rb with
      | dat rb =>
        cases rb with
        | @lst p2 xs2 ds2 h3 h4 =>
          refine ⟨p, p2, xs, xs2, rfl, rfl, off_same _ _ h1, off_same _ _ h3, by rw [h2.len, h4.len]; exact big q.1, fun l nl => ?_⟩
          obtain ⟨b1, b2⟩ := gd.free nl
          exact k _ _ _ (.new nl) (gd.new nl) (.dat (.lst (off_upd b1 b2) ((h2.app h4).mono ((Ex.new nl).off gd) _ _))) (fun z _ e _ => by cases e; exact nl) q.2
        | _ => exact q.elim
      | _ => exact q.elim
    | _ => exact q.elim
  | _ => exact q.elim
theorem r_rep : RW K rRep gRep := fun S B x y H μ a b Q Q2 gd ra rb q k => by
  cases ra with
  | dat ra =>
    cases ra with
    | @lst p xs ds h1 h2 =>
      cases rb with
      | dat rb =>
        cases rb with
        | int i =>
          obtain ⟨q1, q2, q⟩ := q
          refine ⟨p, i, xs, rfl, rfl, off_same _ _ h1, by omega, by omega, ?_, fun l nl => ?_⟩
          · rw [h2.len]
            exact big (Nat.le_trans (Nat.mul_le_mul q2 (show i.toNat ≤ 1000 by omega)) (by decide))
          obtain ⟨b1, b2⟩ := gd.free nl
          exact k _ _ _ (.new nl) (gd.new nl) (.dat (.lst (off_upd b1 b2) ((rps_flat h2 _).mono ((Ex.new nl).off gd) _ _))) (fun z _ e _ => by cases e; exact nl) q
        | _ => exact q.elim
      | _ => exact q.elim
    | _ => exact q.elim
  | _ => exact q.elim
end
end Hv

set_option Elab.async false
set_option linter.all false
set_option maxRecDepth 100000
namespace Hv
open PySem PySem.Spec PyProof.Rows L2 Hod
/-! ### built-in functions -/
abbrev GC := Mem → List A → (A → Prop) → Prop
def CW (K : PySem.W.Frag) (r : List V → Hp → VK → Prop) (g : GC) : Prop := ∀ S B xs H μ as Q Q2, Good K S B μ H → Ras K S μ (off B μ H) xs as → g μ as Q2 →
  (∀ v H' c, Ex S H H' → Good K S B μ H' → Ra K S μ (off B μ H') v c → (∀ p ds, v = .ref p → c = .dat (.list ds) → H p = none) → Q2 c → Q v H') → r xs H Q
def wCB (g : GC) (u : WA) : WE := fun ρ μ Q => u ρ μ fun as => g μ as Q
section
variable {X : Cx} {e : Expr} {es : List Expr} {u : WA} {x : Str} {id T : String} {r : List V → Hp → VK → Prop} {g : GC} {p pos : Pos}
theorem lf_cb {K : PySem.W.Frag} (hr : CW K r g) (σ : L2.St) (H : Hp) (Q : VK) (h : LF K (wCB g u) σ H Q) : tCB r (LA K u) σ H Q := by
  obtain ⟨S, B, ρ, μ, Q2, st, w, k⟩ := h
  exact ⟨S, B, ρ, μ, _, st, w, fun vs H1 as e1 g1 rs q1 => hr S B vs H1 μ as Q Q2 g1 rs q1 fun v H2 c e2 g2 rc n q2 => k v H2 c (e1.trans e2) g2 rc (fun p ds h1 h2 => e1.dom _ (n p ds h1 h2)) q2⟩
theorem vf_callB (hr : CW X.K r g) (hc : CallR X (.builtin id) r) (hg : Gl X x) (hm : X.mg x = none) (hv : bootBuiltins x = some (.builtin id)) (ha : VA X (e :: es) u) (hn : x ≠ "__name__" := by decide) (hdb : (x == ("__debug__" : Str)) = false := by decide)
    (he : starEach (e :: es) X.env = (false, eval e X.env) :: starEach es X.env := by rfl) (hpl : (backTo pos (starEach es X.env)).any (·.1) = false := by rfl) : VF X (.Call (.Name x p) (e :: es) [] pos) (wCB g u) :=
  pe_weak (pe_callB hc hg hm hv ha hn hdb he hpl) (lf_cb hr)
theorem vf_callTy (hr : CW X.K r g) (hc : CallR X (.type T) r) (hg : Gl X x) (hm : X.mg x = none) (hv : bootBuiltins x = some (.type T)) (ha : VA X (e :: es) u) (hn : x ≠ "__name__" := by decide) (hdb : (x == ("__debug__" : Str)) = false := by decide)
    (he : starEach (e :: es) X.env = (false, eval e X.env) :: starEach es X.env := by rfl) (hpl : (backTo pos (starEach es X.env)).any (·.1) = false := by rfl) : VF X (.Call (.Name x p) (e :: es) [] pos) (wCB g u) :=
  pe_weak (pe_callTy hc hg hm hv ha hn hdb he hpl) (lf_cb hr)
end
section
variable {K : PySem.W.Frag}
def lenA (μ : Mem) : A → Option Nat
  | .dat (.list ds) => some ds.length
  | .dat (.tuple ds) => some ds.length
  | .own a => (μ a).map List.length
  | _ => none
def gLen : GC := fun μ as Q => match as with | [a] => (match lenA μ a with | some n => Q (.dat (.int n)) | none => False) | _ => False
theorem c_len : CW K (fun xs H Q => ∃ p ys, xs = [.ref p] ∧ (SqL K H p ys ∨ SqT K H p ys) ∧ Q (.int ys.length) H) gLen := fun S B xs H μ as Q Q2 gd rs q k => by
  cases rs with
  | nil => exact q.elim
  | @cons v vs a as r rs =>
    cases rs with
    | cons _ _ => exact q.elim
    | nil =>
      unfold gLen at q
      dsimp only at q
      split at q
      · rename_i n hn
        cases r with
        | dat r =>
          cases r with
          | @lst p xs ds h1 h2 => cases hn; exact ⟨p, xs, rfl, .inl (SqL.of (off_same _ _ h1)), by rw [h2.len]; exact k _ H _ .refl gd (.dat (.int _)) (fun _ _ e => nomatch e) q⟩
          | @tup p xs ds h1 h2 => cases hn; exact ⟨p, xs, rfl, .inr (sqt_same off_same h1), by rw [h2.len]; exact k _ H _ .refl gd (.dat (.int _)) (fun _ _ e => nomatch e) q⟩
          | _ => cases hn
        | @own p h1 =>
          unfold lenA at hn
          dsimp only at hn
          cases hq : μ p with
          | none => rw [hq] at hn; cases hn
          | some xs =>
            rw [hq] at hn
            cases hn
            obtain ⟨_, vs, e1, e2⟩ := gd.ce p xs hq
            exact ⟨p, vs, rfl, .inl (SqL.of e1), by rw [e2.len]; exact k _ H _ .refl gd (.dat (.int _)) (fun _ _ e => nomatch e) q⟩
        | drw _ => cases hn
        | ty => cases hn
      · exact q.elim
def gList : GC := fun μ as Q => match as with | [a] => (match seqA μ a with | some ds => Q (.dat (.list ds)) | none => False) | _ => False
theorem c_list : CW K (fun xs H Q => ∃ p ys, xs = [.ref p] ∧ (SqL K H p ys ∨ SqT K H p ys) ∧ ∀ l, H l = none → Q (.ref l) (upd H l (.lst ys))) gList := fun S B xs H μ as Q Q2 gd rs q k => by
  cases rs with
  | nil => exact q.elim
  | @cons v vs a as r rs =>
    cases rs with
    | cons _ _ => exact q.elim
    | nil =>
      unfold gList at q
      dsimp only at q
      split at q
      · rename_i ds hd
        obtain ⟨p, xs, rfl, h2, h3⟩ := seqA_ok gd r hd
        refine ⟨p, xs, rfl, h2, fun l nl => ?_⟩
        obtain ⟨b1, b2⟩ := gd.free nl
        exact k _ _ _ (.new nl) (gd.new nl) (.dat (.lst (off_upd b1 b2) (h3.mono ((Ex.new nl).off gd) _ _))) (fun z _ e _ => by cases e; exact nl) q
      · exact q.elim
def gTuple : GC := fun μ as Q => match as with | [a] => (match seqA μ a with | some ds => Q (.dat (.tuple ds)) | none => False) | _ => False
theorem c_tuple : CW K (fun xs H Q => ∃ p ys, xs = [.ref p] ∧ ((SqL K H p ys ∧ ∀ l, H l = none → Q (.ref l) (upd H l (.tup ys))) ∨ (SqT K H p ys ∧ Q (.ref p) H))) gTuple := fun S B xs H μ as Q Q2 gd rs q k => by
  cases rs with
  | nil => exact q.elim
  | @cons v vs a as r rs =>
    cases rs with
    | cons _ _ => exact q.elim
    | nil =>
      unfold gTuple at q
      dsimp only at q
      split at q
      · rename_i ds hd
        have new : ∀ (p : Addr) (xs : List V), SqL K H p xs → Rps K (off B μ H) xs ds → ∃ p' ys, [V.ref p] = [V.ref p'] ∧ ((SqL K H p' ys ∧ ∀ l, H l = none → Q (.ref l) (upd H l (.tup ys))) ∨ (SqT K H p' ys ∧ Q (.ref p') H)) := fun p xs h2 h3 => by
          refine ⟨p, xs, rfl, .inl ⟨h2, fun l nl => ?_⟩⟩
          obtain ⟨b1, b2⟩ := gd.free nl
          exact k _ _ _ (.new nl) (gd.new nl) (.dat (.tup (.inl (.inl (off_upd b1 b2))) (h3.mono ((Ex.new nl).off gd) _ _))) (fun z _ _ e => nomatch e) q
        cases r with
        | dat r =>
          cases r with
          | @lst p xs ds h1 h2 => cases hd; exact new p xs (SqL.of (off_same _ _ h1)) h2
          | @tup p xs ds h1 h2 => cases hd; exact ⟨p, xs, rfl, .inr ⟨sqt_same off_same h1, k _ H _ .refl gd (.dat (.tup h1 h2)) (fun z _ _ e => nomatch e) q⟩⟩
          | _ => cases hd
        | @own p h1 =>
          unfold seqA at hd
          dsimp only at hd
          cases hq : μ p with
          | none => rw [hq] at hd; cases hd
          | some xs =>
            rw [hq] at hd
            obtain ⟨_, vs, e1, e2⟩ := gd.ce p xs hq
            exact new p vs (SqL.of e1) (e2.rps hd)
        | drw h1 => cases hd
        | ty => cases hd
      · exact q.elim
def boolsD : List PyData → Option (List Bool)
  | [] => some []
  | .bool b :: ds => (boolsD ds).map (b :: ·)
  | _ :: _ => none
def intsD : List PyData → Option (List Int)
  | [] => some []
  | .int b :: ds => (intsD ds).map (b :: ·)
  | _ :: _ => none
theorem bools_ok {G : Hp} : ∀ {ds : List PyData} {xs : List V} {bs : List Bool}, Rps K G xs ds → boolsD ds = some bs → xs = bs.map V.bl
  | [], _, _, h, e => by cases h; cases e; rfl
  | .bool b :: ds, _, _, h, e => by
    cases h with
    | cons h1 h2 =>
      cases h1
      unfold boolsD at e
      cases q : boolsD ds with
      | none => rw [q] at e; cases e
      | some es => rw [q] at e; cases e; rw [bools_ok h2 q]; rfl
  | .none :: _, _, _, _, e => by cases e
  | .int _ :: _, _, _, _, e => by cases e
  | .str _ :: _, _, _, _, e => by cases e
  | .list _ :: _, _, _, _, e => by cases e
  | .tuple _ :: _, _, _, _, e => by cases e
  | .dict _ :: _, _, _, _, e => by cases e
theorem ints_ok {G : Hp} : ∀ {ds : List PyData} {xs : List V} {bs : List Int}, Rps K G xs ds → intsD ds = some bs → xs = bs.map V.int
  | [], _, _, h, e => by cases h; cases e; rfl
  | .int b :: ds, _, _, h, e => by
    cases h with
    | cons h1 h2 =>
      cases h1
      unfold intsD at e
      cases q : intsD ds with
      | none => rw [q] at e; cases e
      | some es => rw [q] at e; cases e; rw [ints_ok h2 q]; rfl
  | .none :: _, _, _, _, e => by cases e
  | .bool _ :: _, _, _, _, e => by cases e
  | .str _ :: _, _, _, _, e => by cases e
  | .list _ :: _, _, _, _, e => by cases e
  | .tuple _ :: _, _, _, _, e => by cases e
  | .dict _ :: _, _, _, _, e => by cases e
@[simp] theorem bools_map : ∀ bs : List Bool, boolsD (bs.map PyData.bool) = some bs
  | [] => rfl
  | b :: bs => by show (boolsD (bs.map PyData.bool)).map (b :: ·) = _; rw [bools_map bs]; rfl
@[simp] theorem ints_map : ∀ bs : List Int, intsD (bs.map PyData.int) = some bs
  | [] => rfl
  | b :: bs => by show (intsD (bs.map PyData.int)).map (b :: ·) = _; rw [ints_map bs]; rfl
def gAll : GC := fun μ as Q => match as with | [.dat (.list ds)] => (match boolsD ds with | some bs => Q (.dat (.bool (bs.all id))) | none => False) | _ => False
theorem c_all : CW K (rAll K) gAll := fun S B xs H μ as Q Q2 gd rs q k => by
  cases rs with
  | nil => exact q.elim
  | @cons v vs a as r rs =>
    cases rs with
    | cons _ _ => cases a <;> first | exact q.elim | (rename_i d; cases d <;> exact q.elim)
    | nil =>
      cases r with
      | dat r =>
        cases r with
        | @lst p xs ds h1 h2 =>
          unfold gAll at q
          dsimp only at q
          split at q
          · rename_i bs hb
            exact ⟨p, bs, rfl, by rw [← bools_ok h2 hb]; exact SqL.of (off_same _ _ h1), k _ H _ .refl gd (.dat (.bl _)) (fun _ _ e => nomatch e) q⟩
          · exact q.elim
        | _ => exact q.elim
      | _ => exact q.elim
def gSum : GC := fun μ as Q => match as with | [.dat (.list ds)] => (match intsD ds with | some bs => Q (.dat (.int bs.sum)) | none => False) | _ => False
theorem c_sum : CW K (rSum K) gSum := fun S B xs H μ as Q Q2 gd rs q k => by
  cases rs with
  | nil => exact q.elim
  | @cons v vs a as r rs =>
    cases rs with
    | cons _ _ => cases a <;> first | exact q.elim | (rename_i d; cases d <;> exact q.elim)
    | nil =>
      cases r with
      | dat r =>
        cases r with
        | @lst p xs ds h1 h2 =>
          unfold gSum at q
          dsimp only at q
          split at q
          · rename_i bs hb
            exact ⟨p, bs, rfl, by rw [← ints_ok h2 hb]; exact SqL.of (off_same _ _ h1), k _ H _ .refl gd (.dat (.int _)) (fun _ _ e => nomatch e) q⟩
          · exact q.elim
        | _ => exact q.elim
      | _ => exact q.elim
def gMin2 : GC := fun _ as Q => match as with | [.dat (.int i), .dat (.int j)] => Q (.dat (.int (if j < i then j else i))) | _ => False
def gMax2 : GC := fun _ as Q => match as with | [.dat (.int i), .dat (.int j)] => Q (.dat (.int (if j > i then j else i))) | _ => False
theorem two_ints {S : Hid} {μ : Mem} {G : Hp} {xs : List V} {as : List A} {i j : Int} (r : Ras K S μ G xs as) (h : as = [.dat (.int i), .dat (.int j)]) : xs = [.int i, .int j] := by
  subst h
  cases r with
  | cons r1 r =>
    cases r with
    | cons r2 r =>
      cases r
      cases r1 with | dat r1 => cases r2 with | dat r2 => cases r1; cases r2; rfl
theorem c_min2 : CW K (fun xs H Q => ∃ i j, xs = [.int i, .int j] ∧ Q (.int (if j < i then j else i)) H) gMin2 := fun S B xs H μ as Q Q2 gd rs q k => by
  unfold gMin2 at q
  split at q
  · rename_i i j
    exact ⟨i, j, two_ints rs rfl, k _ H _ .refl gd (.dat (.int _)) (fun _ _ e => nomatch e) q⟩
  · exact q.elim
theorem c_max2 : CW K (fun xs H Q => ∃ i j, xs = [.int i, .int j] ∧ Q (.int (if j > i then j else i)) H) gMax2 := fun S B xs H μ as Q Q2 gd rs q k => by
  unfold gMax2 at q
  split at q
  · rename_i i j
    exact ⟨i, j, two_ints rs rfl, k _ H _ .refl gd (.dat (.int _)) (fun _ _ e => nomatch e) q⟩
  · exact q.elim
/-! isinstance -/
def tyA : A → Option String
  | .dat .none => some "NoneType"
  | .dat (.bool _) => some "bool"
  | .dat (.int _) => some "int"
  | .dat (.str _) => some "str"
  | .dat (.list _) => some "list"
  | .dat (.tuple _) => some "tuple"
  | .own _ => some "list"
  | _ => none
def isiS (a b : String) : Option Bool :=
  if b = "int" then some (a = "int" || a = "bool") else if b = "bool" ∨ b = "str" ∨ b = "list" ∨ b = "tuple" then some (a = b) else none
theorem isiS_ok {a : A} {t b : String} {r : Bool} (h : tyA a = some t) (h2 : isiS t b = some r) : kitB t b = some r := by
  have hb : b = "int" ∨ b = "bool" ∨ b = "str" ∨ b = "list" ∨ b = "tuple" := by
    unfold isiS at h2
    split at h2
    · rename_i e; exact .inl e
    · split at h2
      · rename_i e; exact .inr e
      · cases h2
  have ht : t = "NoneType" ∨ t = "bool" ∨ t = "int" ∨ t = "str" ∨ t = "list" ∨ t = "tuple" := by
    unfold tyA at h
    split at h <;> cases h <;> simp
  rcases hb with rfl | rfl | rfl | rfl | rfl <;> rcases ht with rfl | rfl | rfl | rfl | rfl | rfl <;> (rw [← h2]; decide +kernel)
theorem tyA_ok {S B : Hid} {μ : Mem} {H : Hp} {x : V} {a : A} {t : String} (g : Good K S B μ H) (r : Ra K S μ (off B μ H) x a) (h : tyA a = some t) : TyX K H x (.type t) := by
  cases r with
  | dat r =>
    cases r with
    | non => cases h; exact .base .non
    | bl b => cases h; exact .base (.bl b)
    | int i => cases h; exact .base (.int i)
    | str s => cases h; exact .base (.str s)
    | lst h1 h2 => cases h; exact .base (.lst (off_same _ _ h1))
    | tup h1 h2 =>
      cases h
      rcases h1 with (h1 | ⟨o, h1⟩) | ⟨o, its, n, h1, h3, _⟩
      · exact .base (.tup (off_same _ _ h1))
      · exact .fTuple (off_same _ _ h1)
      · exact .kTuple h1 h3
  | @own p h1 =>
    cases h
    cases q : μ p with
    | none => rw [q] at h1; cases h1
    | some xs => obtain ⟨_, vs, e1, e2⟩ := g.ce p xs q; exact .base (.lst e1)
  | drw h1 => cases h
  | ty => cases h
def gIsi : GC := fun _ as Q => match as with | [a, .ty n] => (match tyA a with | some t => (match isiS t n with | some b => Q (.dat (.bool b)) | none => False) | none => False) | _ => False
theorem c_isi : CW K (rIsi K) gIsi := fun S B xs H μ as Q Q2 gd rs q k => by
  cases rs with
  | nil => exact q.elim
  | @cons v vs a as r rs =>
    cases rs with
    | nil => exact q.elim
    | @cons v2 vs a2 as r2 rs =>
      cases rs with
      | cons _ _ => cases a2 <;> exact q.elim
      | nil =>
        cases r2 with
        | ty =>
          unfold gIsi at q
          dsimp only at q
          split at q
          · rename_i t ht
            split at q
            · rename_i b hb
              exact ⟨_, _, _, _, b, rfl, .ty _, tyA_ok gd r ht, kit_ty (isiS_ok ht hb), k _ H _ .refl gd (.dat (.bl _)) (fun _ _ e => nomatch e) q⟩
            · exact q.elim
          · exact q.elim
        | _ => exact q.elim
end
/-! ### the program's own functions -/
abbrev FS := List A → (PyData → Prop) → Prop
/-- a def's promise by values; fr: a list that it hands back is a new one -/
def spD (K : PySem.W.Frag) (fr : Bool) (F : FS) : Sp := fun vs H Q _ => ∃ S B as Q2, Good K S B emp H ∧ Ras K S emp (off B emp H) vs as ∧ F as Q2 ∧
  ∀ v H' d, Ex S H H' → Good K S B emp H' → Rp K (off B emp H') v d → (fr = true → ∀ p ds, v = .ref p → d = .list ds → H p = none) → Q2 d → Q v H'
def noOwn : List A → Bool
  | [] => true
  | .own _ :: _ => false
  | _ :: as => noOwn as
def rsvA (μ : Mem) : A → Option A
  | .own a => match μ a with | some xs => (match dats xs with | some ds => some (.dat (.list ds)) | none => none) | none => none
  | a => some a
def rsvs (μ : Mem) : List A → Option (List A)
  | [] => some []
  | a :: as => match rsvA μ a with | some b => (match rsvs μ as with | some bs => some (b :: bs) | none => none) | none => none
def wF (F : FS) (μ : Mem) (as : List A) (Q : A → Prop) : Prop :=
  if noOwn as = true then F as (fun d => Q (.dat d)) else match rsvs μ as with | some as' => F as' (fun d => flatD d = true ∧ Q (.dat d)) | none => False
def wCall (F : FS) (u : WA) : WE := fun ρ μ Q => u ρ μ fun as => wF F μ as Q
section
variable {K : PySem.W.Frag} {S B : Hid} {μ : Mem} {H : Hp}
def hide (B : Hid) (μ : Mem) : Hid := fun a => B a || (μ a).isSome
theorem off_hide : off (hide B μ) emp H = off B μ H := by
  funext a
  simp [off, hide, emp]
theorem Good.hide (g : Good K S B μ H) : Good K S (hide B μ) emp H := by
  refine ⟨fun a sa => ?_, fun a ba => ?_, fun a xs q => nomatch q⟩
  · rw [off_hide]
    obtain ⟨h1, h2⟩ := g.dr a sa
    exact ⟨by simp [Hv.hide, h1], h2⟩
  · unfold Hv.hide at ba
    cases h : B a with
    | true => exact g.bd a h
    | false =>
      rw [h] at ba
      cases q : μ a with
      | none => rw [q] at ba; cases ba
      | some xs =>
        obtain ⟨_, vs, e, _⟩ := g.ce a xs q
        rw [e]
        exact fun z => nomatch z
theorem same_open : Same (off B μ H) (off B emp H) := fun a o h => by
  obtain ⟨h1, h2, h3⟩ := off_some h
  rw [off_of h1 rfl]
  exact h3
theorem Good.open (g : Good K S B μ H) : Good K S B emp H := by
  refine ⟨fun a sa => ?_, g.bd, fun a xs q => nomatch q⟩
  obtain ⟨h1, c, ns, i, big, seed, h2, h3, h4⟩ := g.dr a sa
  exact ⟨h1, c, ns, i, big, seed, h2, same_open _ _ h3, h4⟩
theorem ras_noOwn {G : Hp} : ∀ {as : List A} {vs : List V}, Ras K S μ G vs as → noOwn as = true → Ras K S emp G vs as
  | [], _, h, _ => by cases h; exact .nil
  | .own _ :: _, _, _, e => by cases e
  | .dat _ :: as, _, h, e => by cases h with | cons h1 h2 => cases h1 with | dat h1 => exact .cons (.dat h1) (ras_noOwn h2 e)
  | .drw :: as, _, h, e => by cases h with | cons h1 h2 => cases h1 with | drw h1 => exact .cons (.drw h1) (ras_noOwn h2 e)
  | .ty _ :: as, _, h, e => by cases h with | cons h1 h2 => cases h1 with | ty => exact .cons .ty (ras_noOwn h2 e)
theorem ra_rsv (g : Good K S B μ H) {v : V} {a b : A} (r : Ra K S μ (off B μ H) v a) (h : rsvA μ a = some b) : Ra K S emp (off B emp H) v b := by
  cases r with
  | dat r => cases h; exact .dat (r.mono same_open _ _)
  | @own p h1 =>
    unfold rsvA at h
    dsimp only at h
    cases q : μ p with
    | none => rw [q] at h; cases h
    | some xs =>
      rw [q] at h
      dsimp only at h
      obtain ⟨b1, vs, e1, e2⟩ := g.ce p xs q
      cases hd : dats xs with
      | none => rw [hd] at h; cases h
      | some ds =>
        rw [hd] at h
        cases h
        exact .dat (.lst (by rw [off_of b1 rfl]; exact e1) ((e2.rps hd).mono same_open _ _))
  | drw h1 => cases h; exact .drw h1
  | ty => cases h; exact .ty
theorem ras_rsv (g : Good K S B μ H) : ∀ {as bs : List A} {vs : List V}, Ras K S μ (off B μ H) vs as → rsvs μ as = some bs → Ras K S emp (off B emp H) vs bs
  | [], bs, _, h, e => by cases h; cases e; exact .nil
  | a :: as, bs, _, h, e => by
    cases h with
    | cons h1 h2 =>
      unfold rsvs at e
      cases q1 : rsvA μ a with
      | none => rw [q1] at e; cases e
      | some b =>
        rw [q1] at e
        dsimp only at e
        cases q2 : rsvs μ as with
        | none => rw [q2] at e; cases e
        | some cs => rw [q2] at e; cases e; exact .cons (ra_rsv g h1 q1) (ras_rsv g h2 q2)
theorem flat_any {G G2 : Hp} {v : V} {d : PyData} (r : Rp K G v d) (h : flatD d = true) : Rp K G2 v d ∧ ∀ p, v ≠ .ref p := by
  cases r with
  | non => exact ⟨.non, fun _ e => nomatch e⟩
  | bl b => exact ⟨.bl b, fun _ e => nomatch e⟩
  | int b => exact ⟨.int b, fun _ e => nomatch e⟩
  | str b => exact ⟨.str b, fun _ e => nomatch e⟩
  | _ => cases h
/-- a call by its values -/
theorem wF_ok {fr : Bool} {F : FS} {as : List A} {vs : List V} {Q : VK} {Q2 : A → Prop} {E : XK} (g : Good K S B μ H) (rs : Ras K S μ (off B μ H) vs as) (h : wF F μ as Q2)
    (k : ∀ v H' a, Ex S H H' → Good K S B μ H' → Ra K S μ (off B μ H') v a → (fr = true → ∀ p ds, v = .ref p → a = .dat (.list ds) → H p = none) → Q2 a → Q v H') : spD K fr F vs H Q E := by
  unfold wF at h
  split at h
  · rename_i no
    refine ⟨S, Hv.hide B μ, as, _, g.hide, by rw [off_hide]; exact ras_noOwn rs no, h, fun v H' d ex g2 r n q => ?_⟩
    rw [off_hide] at r
    exact k v H' _ ex (g.step ex g2) (.dat r) (fun f p ds e1 e2 => n f p ds e1 (A.dat.inj e2)) q
  · split at h
    · rename_i bs hb
      refine ⟨S, B, bs, _, g.open, ras_rsv g rs hb, h, fun v H' d ex g2 r n q => ?_⟩
      obtain ⟨r1, r2⟩ := flat_any (G2 := off B μ H') r q.1
      exact k v H' _ ex (g.step ex g2) (.dat r1) (fun f p ds e1 e2 => absurd e1 (r2 p)) q.2
    · exact h.elim
end
section
variable {X : Cx} {k : Nat} {f : Addr} {fd : FuncData} {ps ks : List Str} {fr : Bool} {F : FS} {x : Str} {p pos : Pos} {e : Expr} {es : List Expr} {u uk : WA}
theorem ve_call (G : FnOk X.prog X.w X.K X.mg X.base CX0 k f fd ps (spD X.K fr F)) (hr : Room k X.A) (hg : Gl X x) (hm : X.mg x = some (.ref f)) (hk : PySem.W.keepIn X.K (.ref f) = true) (hb : Binds X.K fd ps []) (ha : VA X (e :: es) u)
    (hdb : (x == ("__debug__" : Str)) = false := by decide) (he : starEach (e :: es) X.env = (false, eval e X.env) :: starEach es X.env := by rfl) (hpl : (backTo pos (starEach es X.env)).any (·.1) = false := by rfl) : VE X (.Call (.Name x p) (e :: es) [] pos) (wCall F u) := by
  refine pe_weak (pe_call G hr hg hm hk hb .nil (E := E0) pass0 ha hdb he hpl) fun σ H Q ⟨S, B, ρ, μ, Q2, st, w, k⟩ => ⟨S, B, ρ, μ, _, st, w, fun vs H1 as e1 g1 rs q1 => ?_⟩
  show spD X.K fr F (vs ++ []) H1 Q E0
  rw [List.append_nil]
  exact wF_ok g1 rs q1 fun v H2 a e2 g2 r2 _ q2 => k v H2 a (e1.trans e2) g2 r2 q2
theorem vf_call (G : FnOk X.prog X.w X.K X.mg X.base CX0 k f fd ps (spD X.K true F)) (hr : Room k X.A) (hg : Gl X x) (hm : X.mg x = some (.ref f)) (hk : PySem.W.keepIn X.K (.ref f) = true) (hb : Binds X.K fd ps []) (ha : VA X (e :: es) u)
    (hdb : (x == ("__debug__" : Str)) = false := by decide) (he : starEach (e :: es) X.env = (false, eval e X.env) :: starEach es X.env := by rfl) (hpl : (backTo pos (starEach es X.env)).any (·.1) = false := by rfl) : VF X (.Call (.Name x p) (e :: es) [] pos) (wCall F u) := by
  refine pe_weak (pe_call G hr hg hm hk hb .nil (E := E0) pass0 ha hdb he hpl) fun σ H Q ⟨S, B, ρ, μ, Q2, st, w, k⟩ => ⟨S, B, ρ, μ, _, st, w, fun vs H1 as e1 g1 rs q1 => ?_⟩
  show spD X.K true F (vs ++ []) H1 Q E0
  rw [List.append_nil]
  exact wF_ok g1 rs q1 fun v H2 a e2 g2 r2 n q2 => k v H2 a (e1.trans e2) g2 r2 (fun p ds h1 h2 => e1.dom _ (n rfl p ds h1 h2)) q2
/-! by names -/
abbrev VK2 (X : Cx) (kws : List Keyword) (w : WA) : Prop := PK X kws (LA X.K w)
theorem pk_weak {kws : List Keyword} {t u : TA} (hs : PK X kws t) (w : ∀ σ H Q, u σ H Q → t σ H Q) : PK X kws u := ⟨fun pos pins s σ H Q I q => hs.run pos pins s σ H Q I (w σ H Q q)⟩
theorem vk_nil : VK2 X [] waNil := pk_weak pk_nil fun σ H Q ⟨S, B, ρ, μ, Q2, st, w, k⟩ => k [] H [] .refl st.gd .nil w
theorem vk_cons {kws : List Keyword} {nm : Option Str} {kpos : Pos} {we : WE} (ha : VE X e we) (hr : VK2 X kws u) : VK2 X (⟨nm, e, kpos⟩ :: kws) (waCons we u) := by
  refine pk_weak (pk_cons ha hr) fun σ H Q ⟨S, B, ρ, μ, Q2, st, w, k⟩ => ?_
  exact ⟨S, B, ρ, μ, _, st, w, fun v H1 a e1 g1 ra q1 => ⟨S, B, ρ, μ, _, st.ex e1 g1, q1, fun vs H2 as e2 g2 rs q2 => k _ H2 _ (e1.trans e2) g2 (.cons (ra.mono (e2.off g1)) rs) q2⟩⟩
/-- the values in the parameters' order -/
def GA (gV : List V → List V → List V) (gA : List A → List A → List A) : Prop := ∀ K S μ G vs as zs bs, Ras K S μ G vs as → Ras K S μ G zs bs → Ras K S μ G (gV vs zs) (gA as bs)
def wCallK (F : FS) (gA : List A → List A → List A) (u uk : WA) : WE := fun ρ μ Q => u ρ μ fun as => uk ρ μ fun bs => wF F μ (gA as bs) Q
variable {kws : List Keyword} {g : List Value → List Value → List Value} {gV : List V → List V → List V} {gA : List A → List A → List A}
theorem vf_callK (G : FnOk X.prog X.w X.K X.mg X.base CX0 k f fd ps (spD X.K true F)) (hr : Room k X.A) (hg : Gl X x) (hm : X.mg x = some (.ref f)) (hk : PySem.W.keepIn X.K (.ref f) = true) (hb : KBinds X.K fd ps ks g gV) (hG : GA gV gA) (ha : VA X (e :: es) u) (hkw : VK2 X kws uk)
    (hall : (backToKw pos (keywordEach kws X.env)).all (·.1.isSome) = true := by rfl) (hks : (backToKw pos (keywordEach kws X.env)).filterMap (·.1) = ks := by rfl)
    (hdb : (x == ("__debug__" : Str)) = false := by decide) (he : starEach (e :: es) X.env = (false, eval e X.env) :: starEach es X.env := by rfl)
    (hpl : ((backTo pos (starEach (e :: es) X.env)).any (·.1) || (backToKw pos (keywordEach kws X.env)).any (·.1.isNone)) = false := by rfl) : VF X (.Call (.Name x p) (e :: es) kws pos) (wCallK F gA u uk) := by
  refine pe_weak (pe_callK G hr hg hm hk hb (E := E0) pass0 ha hkw hall hks hdb he hpl) fun σ H Q ⟨S, B, ρ, μ, Q2, st, w, k⟩ => ⟨S, B, ρ, μ, _, st, w, fun vs H1 as e1 g1 rs q1 => ⟨S, B, ρ, μ, _, st.ex e1 g1, q1, fun zs H2 bs e2 g2 rz q2 => ?_⟩⟩
  exact wF_ok g2 (hG _ _ _ _ _ _ _ _ (rs.mono (e2.off g1)) rz) q2 fun v H3 a e3 g3 r3 n q3 => k v H3 a (e1.trans (e2.trans e3)) g3 r3 (fun p ds h1 h2 => e1.dom _ (e2.dom _ (n rfl p ds h1 h2))) q3
theorem ve_callK (G : FnOk X.prog X.w X.K X.mg X.base CX0 k f fd ps (spD X.K fr F)) (hr : Room k X.A) (hg : Gl X x) (hm : X.mg x = some (.ref f)) (hk : PySem.W.keepIn X.K (.ref f) = true) (hb : KBinds X.K fd ps ks g gV) (hG : GA gV gA) (ha : VA X (e :: es) u) (hkw : VK2 X kws uk)
    (hall : (backToKw pos (keywordEach kws X.env)).all (·.1.isSome) = true := by rfl) (hks : (backToKw pos (keywordEach kws X.env)).filterMap (·.1) = ks := by rfl)
    (hdb : (x == ("__debug__" : Str)) = false := by decide) (he : starEach (e :: es) X.env = (false, eval e X.env) :: starEach es X.env := by rfl)
    (hpl : ((backTo pos (starEach (e :: es) X.env)).any (·.1) || (backToKw pos (keywordEach kws X.env)).any (·.1.isNone)) = false := by rfl) : VE X (.Call (.Name x p) (e :: es) kws pos) (wCallK F gA u uk) := by
  refine pe_weak (pe_callK G hr hg hm hk hb (E := E0) pass0 ha hkw hall hks hdb he hpl) fun σ H Q ⟨S, B, ρ, μ, Q2, st, w, k⟩ => ⟨S, B, ρ, μ, _, st, w, fun vs H1 as e1 g1 rs q1 => ⟨S, B, ρ, μ, _, st.ex e1 g1, q1, fun zs H2 bs e2 g2 rz q2 => ?_⟩⟩
  exact wF_ok g2 (hG _ _ _ _ _ _ _ _ (rs.mono (e2.off g1)) rz) q2 fun v H3 a e3 g3 r3 n q3 => k v H3 a (e1.trans (e2.trans e3)) g3 r3 q3
theorem ve_callK0 (G : FnOk X.prog X.w X.K X.mg X.base CX0 k f fd ps (spD X.K fr F)) (hr : Room k X.A) (hg : Gl X x) (hm : X.mg x = some (.ref f)) (hk : PySem.W.keepIn X.K (.ref f) = true) (hb : KBinds X.K fd ps ks g gV) (hG : GA gV gA) (hkw : VK2 X kws uk)
    (hall : (backToKw pos (keywordEach kws X.env)).all (·.1.isSome) = true := by rfl) (hks : (backToKw pos (keywordEach kws X.env)).filterMap (·.1) = ks := by rfl) (hdb : (x == ("__debug__" : Str)) = false := by decide)
    (hpl : ((backTo pos (starEach [] X.env)).any (·.1) || (backToKw pos (keywordEach kws X.env)).any (·.1.isNone)) = false := by rfl) : VE X (.Call (.Name x p) [] kws pos) (wCallK F gA waNil uk) := by
  refine pe_weak (pe_callK0 G hr hg hm hk hb (E := E0) pass0 hkw hall hks hdb hpl) fun σ H Q ⟨S, B, ρ, μ, Q2, st, w, k⟩ => ⟨S, B, ρ, μ, _, st, w, fun zs H2 bs e2 g2 rz q2 => ?_⟩
  exact wF_ok g2 (hG _ _ _ _ _ _ _ _ .nil rz) q2 fun v H3 a e3 g3 r3 n q3 => k v H3 a (e2.trans e3) g3 r3 q3
theorem vf_callK0 (G : FnOk X.prog X.w X.K X.mg X.base CX0 k f fd ps (spD X.K true F)) (hr : Room k X.A) (hg : Gl X x) (hm : X.mg x = some (.ref f)) (hk : PySem.W.keepIn X.K (.ref f) = true) (hb : KBinds X.K fd ps ks g gV) (hG : GA gV gA) (hkw : VK2 X kws uk)
    (hall : (backToKw pos (keywordEach kws X.env)).all (·.1.isSome) = true := by rfl) (hks : (backToKw pos (keywordEach kws X.env)).filterMap (·.1) = ks := by rfl) (hdb : (x == ("__debug__" : Str)) = false := by decide)
    (hpl : ((backTo pos (starEach [] X.env)).any (·.1) || (backToKw pos (keywordEach kws X.env)).any (·.1.isNone)) = false := by rfl) : VF X (.Call (.Name x p) [] kws pos) (wCallK F gA waNil uk) := by
  refine pe_weak (pe_callK0 G hr hg hm hk hb (E := E0) pass0 hkw hall hks hdb hpl) fun σ H Q ⟨S, B, ρ, μ, Q2, st, w, k⟩ => ⟨S, B, ρ, μ, _, st, w, fun zs H2 bs e2 g2 rz q2 => ?_⟩
  exact wF_ok g2 (hG _ _ _ _ _ _ _ _ .nil rz) q2 fun v H3 a e3 g3 r3 n q3 => k v H3 a (e2.trans e3) g3 r3 (fun p ds h1 h2 => e2.dom _ (n rfl p ds h1 h2)) q3
end
end Hv

set_option Elab.async false
set_option linter.all false
set_option maxRecDepth 100000
namespace Hv
open PySem PySem.Spec PyProof.Rows L2 Hod
/-! ### targets -/
inductive Pat where
  | nm (i : Nat)
  | tp (ps : List Pat)
mutual
def gOf (K : PySem.W.Frag) : Pat → TG
  | .nm i => gName i
  | .tp ps => gTup K ps.length (gsOf K ps)
def gsOf (K : PySem.W.Frag) : List Pat → TGs
  | [] => gNil
  | p :: ps => gCons (gOf K p) (gsOf K ps)
end
mutual
def bindP : Pat → PyData → Rho → Option Rho
  | .nm i, d, ρ => some (ρ.set i (some (.dat d)))
  | .tp ps, .tuple ds, ρ => bindPs ps ds ρ
  | .tp _, _, _ => none
def bindPs : List Pat → List PyData → Rho → Option Rho
  | [], [], ρ => some ρ
  | p :: ps, d :: ds, ρ => match bindP p d ρ with | some ρ' => bindPs ps ds ρ' | none => none
  | _, _, _ => none
end
mutual
def Pat.sub (vs : List Nat) : Pat → Bool
  | .nm i => vs.contains i
  | .tp ps => Pat.subs vs ps
def Pat.subs (vs : List Nat) : List Pat → Bool
  | [] => true
  | p :: ps => p.sub vs && Pat.subs vs ps
end
theorem wipe_set (σ : L2.St) (i : Nat) (x : Option V) : ∀ vs : List Nat, (wipe (σ.set i x) vs).set i none = (wipe σ vs).set i none
  | [] => by show (σ.set i x).set i none = σ.set i none; rw [List.set_set]
  | v :: vs => by
    show ((wipe (σ.set i x) vs).set v none).set i none = ((wipe σ vs).set v none).set i none
    by_cases h : v = i
    · subst h
      rw [List.set_set, List.set_set]
      exact wipe_set σ v x vs
    · rw [List.set_comm _ _ h, List.set_comm _ _ h, wipe_set σ i x vs]
theorem wipe_in {σ : L2.St} {i : Nat} {x : Option V} : ∀ {vs : List Nat}, i ∈ vs → wipe (σ.set i x) vs = wipe σ vs
  | v :: vs, h => by
    show (wipe (σ.set i x) vs).set v none = (wipe σ vs).set v none
    by_cases e : v = i
    · subst e; exact wipe_set σ v x vs
    · have : i ∈ vs := by
        rcases List.mem_cons.mp h with q | q
        · exact absurd q.symm e
        · exact q
      rw [wipe_in this]
theorem wipe_wipe (σ : L2.St) (vs : List Nat) : wipe (wipe σ vs) vs = wipe σ vs := by
  have gen : ∀ us : List Nat, (∀ u ∈ us, u ∈ vs) → wipe (wipe σ us) vs = wipe σ vs := by
    intro us
    induction us with
    | nil => intro _; rfl
    | cons u us ih =>
      intro h
      show wipe ((wipe σ us).set u none) vs = _
      rw [wipe_in (h u (by simp))]
      exact ih fun x hx => h x (by simp [hx])
  exact gen vs fun _ h => h
section
variable {K : PySem.W.Frag} {S : Hid} {μ : Mem} {G : Hp} {H : Hp}
mutual
theorem gOf_ok (sm : Same G H) : ∀ (p : Pat) (d : PyData) (ρ ρ' : Rho) (v : V) (σ : L2.St) (Q : L2.St → Hp → Prop), bindP p d ρ = some ρ' → Rp K G v d → Sls K S μ G σ ρ →
    (∀ σ', Sls K S μ G σ' ρ' → (∀ vs, p.sub vs = true → wipe σ' vs = wipe σ vs) → Q σ' H) → gOf K p v σ H Q
  | .nm i, d, ρ, ρ', v, σ, Q, e, r, sl, k => by
    have e : some (ρ.set i (some (.dat d))) = some ρ' := e
    cases e
    exact k _ (sl.set i (.dat r)) fun vs h => wipe_in (by simpa [Pat.sub] using h)
  | .tp ps, d, ρ, ρ', v, σ, Q, e, r, sl, k => by
    cases r with
    | @tup a xs ds h1 h2 =>
      have e : bindPs ps ds ρ = some ρ' := e
      have hl : ds.length = ps.length := bindPs_len e
      exact ⟨a, xs, rfl, sqt_same sm h1, by rw [h2.len, hl], gsOf_ok sm ps ds ρ ρ' xs σ Q e h2 sl fun σ' s' w' => k σ' s' fun vs h => w' vs (by simpa [Pat.sub] using h)⟩
    | _ => cases e
theorem gsOf_ok (sm : Same G H) : ∀ (ps : List Pat) (ds : List PyData) (ρ ρ' : Rho) (xs : List V) (σ : L2.St) (Q : L2.St → Hp → Prop), bindPs ps ds ρ = some ρ' → Rps K G xs ds → Sls K S μ G σ ρ →
    (∀ σ', Sls K S μ G σ' ρ' → (∀ vs, Pat.subs vs ps = true → wipe σ' vs = wipe σ vs) → Q σ' H) → gsOf K ps xs σ H Q
  | [], ds, ρ, ρ', xs, σ, Q, e, r, sl, k => by
    cases r with
    | nil => have e : some ρ = some ρ' := e; cases e; exact ⟨rfl, k σ sl fun _ _ => rfl⟩
    | cons _ _ => cases e
  | p :: ps, ds, ρ, ρ', xs, σ, Q, e, r, sl, k => by
    cases r with
    | nil => cases e
    | @cons v vs d ds r1 r2 =>
      have e : (match bindP p d ρ with | some ρ' => bindPs ps ds ρ' | none => none) = some ρ' := e
      cases q : bindP p d ρ with
      | none => rw [q] at e; cases e
      | some ρ1 =>
        rw [q] at e
        refine ⟨v, vs, rfl, gOf_ok sm p d ρ ρ1 v σ _ q r1 sl fun σ1 s1 w1 => ?_⟩
        refine gsOf_ok sm ps ds ρ1 ρ' vs σ1 Q e r2 s1 fun σ2 s2 w2 => k σ2 s2 fun us h => ?_
        have h : (p.sub us && Pat.subs us ps) = true := h
        rw [Bool.and_eq_true] at h
        rw [w2 us h.2, w1 us h.1]
theorem bindPs_len : ∀ {ps : List Pat} {ds : List PyData} {ρ ρ' : Rho}, bindPs ps ds ρ = some ρ' → ds.length = ps.length
  | [], [], _, _, _ => rfl
  | [], _ :: _, _, _, e => by cases e
  | _ :: _, [], _, _, e => by cases e
  | p :: ps, d :: ds, ρ, ρ', e => by
    have e : (match bindP p d ρ with | some ρ' => bindPs ps ds ρ' | none => none) = some ρ' := e
    cases q : bindP p d ρ with
    | none => rw [q] at e; cases e
    | some ρ1 => rw [q] at e; simp [bindPs_len e]
end
end
/-! ### what is walked -/
def Wk (K : PySem.W.Frag) (S B : Hid) (μ : Mem) (J : It) (H0 : Hp) (ds : List PyData) : Prop := ∃ G Y, Walk J ds.length G Y ∧ (∀ H, Same (off B μ H0) H → G H) ∧
  ∀ i H x H2 B' μ', i < ds.length → Same (off B μ H0) (off B' μ' H) → Good K S B' μ' H → Y i H x H2 → Ex S H H2 ∧ Good K S B' μ' H2 ∧ ∃ d, ds[i]? = some d ∧ Rp K (off B' μ' H2) x d
def LI (K : PySem.W.Frag) (w : WI) : TI := fun σ H R => ∃ S B ρ μ Q2, Sta K S B σ H ρ μ ∧ w ρ μ Q2 ∧ ∀ J H' ds, Ex S H H' → Good K S B μ H' → Wk K S B μ J H' ds → Q2 ds → R J H'
abbrev VI (X : Cx) (tg iter : Expr) (w : WI) : Prop := PI X tg iter (LI X.K w)
def wiT (w : WE) : WI := fun ρ μ Q => w ρ μ fun a => match a with | .dat (.tuple ds) => Q ds | _ => False
def wiL (w : WE) : WI := fun ρ μ Q => w ρ μ fun a => match a with | .dat (.list ds) => Q ds | _ => False
def rng (lo : Int) (n : Nat) : List PyData := (List.range n).map fun i => .int (lo + (i : Nat))
def wiR1 (u : WA) : WI := fun ρ μ Q => u ρ μ fun as => match as with | [.dat (.int n)] => (-(2 ^ 62) ≤ n ∧ n < 2 ^ 62) ∧ Q (rng 0 n.toNat) | _ => False
def wiR2 (u : WA) : WI := fun ρ μ Q => u ρ μ fun as => match as with | [.dat (.int i), .dat (.int j)] => (-(2 ^ 62) ≤ i ∧ i < 2 ^ 62 ∧ -(2 ^ 62) ≤ j ∧ j < 2 ^ 62) ∧ Q (rng i (j - i).toNat) | _ => False
def enumD (ds : List PyData) : List PyData := (List.range ds.length).zipWith (fun i d => .tuple [.int (i : Nat), d]) ds
def zipD (ds es : List PyData) : List PyData := ds.zipWith (fun d e => .tuple [d, e]) es
def wiE (u : WA) : WI := fun ρ μ Q => u ρ μ fun as => match as with | [.dat (.list ds)] => Q (enumD ds) | _ => False
def wiET (u : WA) : WI := fun ρ μ Q => u ρ μ fun as => match as with | [.dat (.tuple ds)] => Q (enumD ds) | _ => False
section
variable {K : PySem.W.Frag} {S B : Hid} {μ : Mem} {H : Hp} {J : It}
theorem wk_at {xs : List V} {ds : List PyData} {G : Hp → Prop} (w : Walk J xs.length G (YAt xs)) (hG : ∀ H2, Same (off B μ H) H2 → G H2) (r : Rps K (off B μ H) xs ds) : Wk K S B μ J H ds := by
  refine ⟨G, YAt xs, by rw [← r.len]; exact w, hG, fun i H1 x H2 B' μ' hi sm g y => ?_⟩
  obtain ⟨rfl, e⟩ := y
  obtain ⟨d, h1, h2⟩ := r.getV e
  exact ⟨.refl, g, d, h1, h2.mono sm _ _⟩
theorem wk_rng {lo : Int} {n : Nat} : Wk K S B μ (Itr lo n) H (rng lo n) := by
  have e : (rng lo n).length = n := by simp [rng]
  refine ⟨fun _ => True, YFn fun i => .int (lo + (i : Nat)), by rw [e]; exact walk_range, fun _ _ => trivial, fun i H1 x H2 B' μ' hi sm g y => ?_⟩
  obtain ⟨rfl, rfl⟩ := y
  have hi : i < n := by simpa [rng] using hi
  exact ⟨.refl, g, .int (lo + (i : Nat)), by simp [rng, hi], .int _⟩
theorem wk_pair {n : Nat} {G : Hp → Prop} {fx fy : Nat → Option V} {ds : List PyData} (hn : ds.length = n) (w : Walk J n G (YPair fx fy)) (hG : ∀ H2, Same (off B μ H) H2 → G H2)
    (h : ∀ i x y, i < n → fx i = some x → fy i = some y → ∃ d e, ds[i]? = some (.tuple [d, e]) ∧ Rp K (off B μ H) x d ∧ Rp K (off B μ H) y e) : Wk K S B μ J H ds := by
  refine ⟨G, YPair fx fy, by rw [hn]; exact w, hG, fun i H1 x H2 B' μ' hi sm g y => ?_⟩
  obtain ⟨T, x1, y1, rfl, nT, rfl, h1, h2⟩ := y
  obtain ⟨d, e, q, r1, r2⟩ := h i x1 y1 (by omega) h1 h2
  obtain ⟨b1, b2⟩ := g.free nT
  have so := (Ex.new (S := S) (o := .tup [x1, y1]) nT).off g
  exact ⟨.new nT, g.new nT, _, q, .tup (.inl (.inl (off_upd b1 b2))) (.cons ((r1.mono sm _ _).mono so _ _) (.cons ((r2.mono sm _ _).mono so _ _) .nil))⟩
theorem enumD_at {ds : List PyData} {i : Nat} {d : PyData} (h : ds[i]? = some d) : (enumD ds)[i]? = some (.tuple [.int (i : Nat), d]) := by
  have hi : i < ds.length := by
    rcases Nat.lt_or_ge i ds.length with q | q
    · exact q
    · rw [List.getElem?_eq_none q] at h; cases h
  unfold enumD
  rw [List.getElem?_zipWith, h, List.getElem?_range hi]
theorem zipD_at {ds es : List PyData} {i : Nat} {d e : PyData} (h : ds[i]? = some d) (h2 : es[i]? = some e) : (zipD ds es)[i]? = some (.tuple [d, e]) := by
  unfold zipD
  rw [List.getElem?_zipWith, h, h2]
end
section
variable {X : Cx} {tg e e2 : Expr} {we : WE} {u : WA} {p pos tpos : Pos} {elts : List Expr} {kk : Nat}
theorem pi_weak {iter : Expr} {t u : TI} (hs : PI X tg iter t) (w : ∀ σ H Q, u σ H Q → t σ H Q) : PI X tg iter u := ⟨fun pins s σ H R I q => hs.run pins s σ H R I (w σ H R q)⟩
theorem vi_tup (h : VE X e we) : VI X tg e (wiT we) := by
  refine pi_weak (pi_tup h) fun σ H R ⟨S, B, ρ, μ, Q2, st, w, k⟩ => ⟨S, B, ρ, μ, _, st, w, fun v H1 a e1 g1 ra q1 => ?_⟩
  cases ra with
  | dat r =>
    cases r with
    | @tup a xs ds h1 h2 => exact ⟨a, rfl, ⟨xs, sqt_same off_same h1⟩, k _ H1 ds e1 g1 (wk_at walk_tup (fun H2 sm => sqt_same sm h1) h2) q1⟩
    | _ => exact q1.elim
  | _ => exact q1.elim
theorem vi_list (h : VE X e we) : VI X tg e (wiL we) := by
  refine pi_weak (pi_list h) fun σ H R ⟨S, B, ρ, μ, Q2, st, w, k⟩ => ⟨S, B, ρ, μ, _, st, w, fun v H1 a e1 g1 ra q1 => ?_⟩
  cases ra with
  | dat r =>
    cases r with
    | @lst a xs ds h1 h2 => exact ⟨a, rfl, ⟨xs, SqL.of (off_same _ _ h1)⟩, k _ H1 ds e1 g1 (wk_at walk_list (fun H2 sm => SqL.of (sm _ _ h1)) h2) q1⟩
    | _ => exact q1.elim
  | _ => exact q1.elim
theorem vi_range1 (hg : Gl X "range") (hm : X.mg "range" = none) (ha : VA X [e] u) (hs : starEach [e] X.env = [(false, eval e X.env)] := by rfl) : VI X tg (.Call (.Name "range" p) [e] [] pos) (wiR1 u) := by
  refine pi_weak (pi_range1 hg hm ha hs) fun σ H R ⟨S, B, ρ, μ, Q2, st, w, k⟩ => ⟨S, B, ρ, μ, _, st, w, fun vs H1 as e1 g1 rs q1 => ?_⟩
  split at q1
  · rename_i n
    cases rs with
    | cons r rs =>
      cases rs
      cases r with | dat r => cases r; exact ⟨n, rfl, q1.1.1, q1.1.2, k _ H1 _ e1 g1 wk_rng q1.2⟩
  · exact q1.elim
theorem vi_range2 (hg : Gl X "range") (hm : X.mg "range" = none) (ha : VA X [e, e2] u) (hs : starEach [e, e2] X.env = [(false, eval e X.env), (false, eval e2 X.env)] := by rfl) (hs2 : starEach [e2] X.env = [(false, eval e2 X.env)] := by rfl) :
    VI X tg (.Call (.Name "range" p) [e, e2] [] pos) (wiR2 u) := by
  refine pi_weak (pi_range2 hg hm ha hs hs2) fun σ H R ⟨S, B, ρ, μ, Q2, st, w, k⟩ => ⟨S, B, ρ, μ, _, st, w, fun vs H1 as e1 g1 rs q1 => ?_⟩
  split at q1
  · rename_i i j
    exact ⟨i, j, two_ints rs rfl, q1.1, k _ H1 _ e1 g1 wk_rng q1.2⟩
  · exact q1.elim
theorem vi_enum (hg : Gl X "enumerate") (hm : X.mg "enumerate" = none) (ha : VA X [e] u) (hs : starEach [e] X.env = [(false, eval e X.env)] := by rfl) : VI X (.Tuple elts kk tpos) (.Call (.Name "enumerate" p) [e] [] pos) (wiE u) := by
  refine pi_weak (pi_enum hg hm ha hs) fun σ H R ⟨S, B, ρ, μ, Q2, st, w, k⟩ => ⟨S, B, ρ, μ, _, st, w, fun vs H1 as e1 g1 rs q1 => ?_⟩
  split at q1
  · rename_i ds
    cases rs with
    | cons r rs =>
      cases rs
      cases r with
      | dat r =>
        cases r with
        | @lst a xs ds h1 h2 =>
          refine ⟨a, xs, rfl, SqL.of (off_same _ _ h1), k _ H1 _ e1 g1 (wk_pair (by simp [enumD, h2.len]) walk_enum (fun H2 sm => SqL.of (sm _ _ h1)) fun i x y hi f1 f2 => ?_) q1⟩
          obtain ⟨d, q1, q2⟩ := h2.getV f2
          cases f1
          exact ⟨_, _, enumD_at q1, .int _, q2⟩
  · exact q1.elim
theorem vi_enumT (hg : Gl X "enumerate") (hm : X.mg "enumerate" = none) (ha : VA X [e] u) (hs : starEach [e] X.env = [(false, eval e X.env)] := by rfl) : VI X (.Tuple elts kk tpos) (.Call (.Name "enumerate" p) [e] [] pos) (wiET u) := by
  refine pi_weak (pi_enumT hg hm ha hs) fun σ H R ⟨S, B, ρ, μ, Q2, st, w, k⟩ => ⟨S, B, ρ, μ, _, st, w, fun vs H1 as e1 g1 rs q1 => ?_⟩
  split at q1
  · rename_i ds
    cases rs with
    | cons r rs =>
      cases rs
      cases r with
      | dat r =>
        cases r with
        | @tup a xs ds h1 h2 =>
          refine ⟨a, xs, rfl, sqt_same off_same h1, k _ H1 _ e1 g1 (wk_pair (by simp [enumD, h2.len]) walk_enumT (fun H2 sm => sqt_same sm h1) fun i x y hi f1 f2 => ?_) q1⟩
          obtain ⟨d, q1, q2⟩ := h2.getV f2
          cases f1
          exact ⟨_, _, enumD_at q1, .int _, q2⟩
  · exact q1.elim
end
/-! ### comprehensions -/
def lcW (f : PyData → (Option PyData → Prop) → Prop) : List PyData → (List PyData → Prop) → Prop
  | [], Q => Q []
  | d :: ds, Q => f d fun o => lcW f ds fun es => Q (o.toList ++ es)
def wYes : WT := fun _ _ Q => Q true
def lcF (p : Pat) (wt : WT) (we : WE) (ρ : Rho) (μ : Mem) : PyData → (Option PyData → Prop) → Prop := fun d Q => match bindP p d ρ with
  | some ρ' => wt ρ' μ fun b => if b = true then we ρ' μ (fun a => match a with | .dat e => Q (some e) | _ => False) else Q none
  | none => False
def wLc (wi : WI) (p : Pat) (wt : WT) (we : WE) (vs : List Nat) : WE := fun ρ μ Q => wi ρ μ fun ds => ds.length ≤ 1000000 ∧ lcW (lcF p wt we (wipeA ρ vs) μ) ds fun es => Q (.dat (.list es))
theorem million {n : Nat} (h : n < 1000000) : n < sizeLine := Nat.lt_of_lt_of_le h (by decide)
section
variable {K : PySem.W.Frag} {S B : Hid} {μ : Mem} {H : Hp}
def plus (B : Hid) (D : Addr) : Hid := fun a => B a || decide (a = D)
theorem plus_off {D : Addr} {o : HO} : off (plus B D) μ (upd H D o) = off (plus B D) μ H := by
  funext a
  unfold off plus
  by_cases h : a = D
  · simp [h]
  · rw [upd_ne h]
theorem plus_sub {D : Addr} : Same (off (plus B D) μ H) (off B μ H) := fun a o h => by
  obtain ⟨h1, h2, h3⟩ := off_some h
  have h1 : (B a || decide (a = D)) = false := h1
  rw [Bool.or_eq_false_iff] at h1
  rw [off_of h1.1 h2]
  exact h3
theorem Good.upd_hid {D : Addr} {o : HO} (g : Good K S (plus B D) μ H) (sD : S D = false) : Good K S (plus B D) μ (upd H D o) := by
  refine ⟨fun a sa => ?_, fun a ba => ?_, fun a xs q => ?_⟩
  · obtain ⟨h1, c, ns, i, big, seed, h2, h3⟩ := g.dr a sa
    have ne : a ≠ D := fun e => by rw [e, sD] at sa; cases sa
    exact ⟨h1, c, ns, i, big, seed, by rw [upd_ne ne]; exact h2, by rw [plus_off]; exact h3⟩
  · by_cases e : a = D
    · rw [e, upd_same]; exact fun z => nomatch z
    · rw [upd_ne e]; exact g.bd a ba
  · obtain ⟨h1, vs, h2, h3⟩ := g.ce a xs q
    have ne : a ≠ D := fun e => by
      have h1 : (B a || decide (a = D)) = false := h1
      rw [Bool.or_eq_false_iff] at h1
      exact absurd e (of_decide_eq_false h1.2)
    exact ⟨h1, vs, by rw [upd_ne ne]; exact h2, by rw [plus_off]; exact h3⟩
theorem Good.plus_new {D : Addr} {o : HO} (g : Good K S B μ H) (nD : H D = none) : Good K S (plus B D) μ (upd H D o) := by
  obtain ⟨b1, b2⟩ := g.free nD
  have so : Same (off B μ H) (off (plus B D) μ (upd H D o)) := fun a u h => by
    obtain ⟨h1, h2, h3⟩ := off_some h
    have ne : a ≠ D := ne_of_none h3 nD
    rw [off_of (by simp [plus, h1, ne]) h2, upd_ne ne]
    exact h3
  refine ⟨fun a sa => ?_, fun a ba => ?_, fun a xs q => ?_⟩
  · obtain ⟨h1, c, ns, i, big, seed, h2, h3, h4⟩ := g.dr a sa
    exact ⟨by simp [plus, h1], c, ns, i, big, seed, by rw [upd_ne (ne_of_none h2 nD)]; exact h2, so _ _ h3, h4⟩
  · by_cases e : a = D
    · rw [e, upd_same]; exact fun z => nomatch z
    · rw [upd_ne e]
      have ba : (B a || decide (a = D)) = true := ba
      rw [decide_eq_false e, Bool.or_false] at ba
      exact g.bd a ba
  · obtain ⟨h1, vs, h2, h3⟩ := g.ce a xs q
    have ne : a ≠ D := ne_of_none h2 nD
    exact ⟨by simp [plus, h1, ne], vs, by rw [upd_ne ne]; exact h2, h3.mono so⟩
theorem lf_lc {wi : WI} {p : Pat} {wt : WT} {we : WE} {vs : List Nat} (hv : p.sub vs = true) (σ : L2.St) (H : Hp) (Q : VK) (h : LF K (wLc wi p wt we vs) σ H Q) : tLc (LI K wi) (gOf K p) (LT K wt) (LE K we) vs σ H Q := by
  obtain ⟨S, B, ρ, μ, Q2, st, w, k⟩ := h
  refine ⟨S, B, ρ, μ, _, st, w, fun J H1 ds e1 g1 ⟨G, Y, wk, hG, hY⟩ ⟨hz, q1⟩ D nD => ?_⟩
  obtain ⟨bD, mD⟩ := g1.free nD
  have sD : S D = false := g1.sb bD
  have so : ∀ {H2 : Hp}, Ex S H1 H2 → Same (off B μ H1) (off (plus B D) μ H2) := fun {H2} ex a o h => by
    obtain ⟨h1, h2, h3⟩ := off_some h
    have ne : a ≠ D := ne_of_none h3 nD
    rw [off_of (by simp [plus, h1, ne]) h2]
    exact ex.keep a o (g1.sb h1) h3
  have sl0 := (st.ex e1 g1).sl.wipe vs
  refine lc_it (n := ds.length) wk (fun i H2 => Ex S H1 H2 ∧ Good K S (plus B D) μ H2 ∧ ∃ acc accD, H2 D = some (.lst acc) ∧ Rps K (off (plus B D) μ H2) acc accD ∧ accD.length ≤ i ∧ lcW (lcF p wt we (wipeA ρ vs) μ) (ds.drop i) fun es => Q2 (.dat (.list (accD ++ es)))) ?_ ?_ ?_ ?_
  · exact ⟨.new nD, g1.plus_new nD, [], [], upd_same, .nil, Nat.le_refl _, q1⟩
  · exact fun i H2 hi ⟨ex, g2, _⟩ => hG H2 fun a o h => off_same _ _ (so ex a o h)
  · rintro i x H2 H3 hi ⟨ex, g2, acc, accD, hD, hacc, hlen, q⟩ y
    obtain ⟨ex3, g3, d, hd, rd⟩ := hY i H2 x H3 (plus B D) μ hi (so ex) g2 y
    have hdr : ds.drop i = d :: ds.drop (i + 1) := by
      have q := (List.getElem?_eq_some_iff.mp hd)
      obtain ⟨h1, h2⟩ := q
      rw [List.drop_eq_getElem_cons h1, h2]
    rw [hdr] at q
    have q : lcF p wt we (wipeA ρ vs) μ d fun o => lcW (lcF p wt we (wipeA ρ vs) μ) (ds.drop (i + 1)) fun es => Q2 (.dat (.list (accD ++ (o.toList ++ es)))) := q
    unfold lcF at q
    split at q
    · rename_i ρ' hb
      have exT := ex.trans ex3
      refine gOf_ok (S := S) (μ := μ) (G := off (plus B D) μ H3) off_same p d (wipeA ρ vs) ρ' x (wipe σ vs) _ hb rd (sl0.mono (so exT)) fun σ2 s2 w2 => ⟨by rw [w2 vs hv, wipe_wipe], ?_⟩
      refine ⟨S, plus B D, ρ', μ, _, ⟨g3, s2⟩, q, fun b H4 e4 g4 q4 => ?_⟩
      have hD4 : H4 D = some (.lst acc) := e4.keep _ _ sD (ex3.keep _ _ sD hD)
      have hacc4 := (hacc.mono (ex3.off g2) _ _).mono (e4.off g3) _ _
      cases b with
      | false =>
        refine ⟨exT.trans e4, g4, acc, accD, hD4, hacc4, by omega, ?_⟩
        exact q4
      | true =>
        refine ⟨S, plus B D, ρ', μ, _, ⟨g4, s2.mono (e4.off g3)⟩, q4, fun v5 H5 a5 e5 g5 r5 q5 => ?_⟩
        cases r5 with
        | @dat _ d5 r5 =>
          have hacc5 := hacc4.mono (e5.off g4) _ _
          refine ⟨acc, e5.keep _ _ sD hD4, million (by rw [hacc.len]; omega), ?_, g5.upd_hid sD, acc ++ [v5], accD ++ [d5], upd_same, ?_, by simp; omega, ?_⟩
          · have ex5 := (exT.trans e4).trans e5
            exact ⟨fun a o s h => by rw [upd_ne (ne_of_none h nD)]; exact ex5.keep a o s h, fun a h => by
                by_cases z : a = D
                · rw [z]; exact nD
                · rw [upd_ne z] at h; exact ex5.dom a h, fun a c r s h => by
                rw [upd_ne (ne_of_none h nD)]; exact ex5.dr a c r s h⟩
          · rw [plus_off]
            exact hacc5.app (.cons r5 .nil)
          · have e : ∀ es, accD ++ [d5] ++ es = accD ++ ((some d5).toList ++ es) := fun es => by simp
            simp only [e]
            exact q5
        | _ => exact q5.elim
    · exact q.elim
  · rintro H2 ⟨ex, g2, acc, accD, hD, hacc, hlen, q⟩
    rw [List.drop_length] at q
    have q : Q2 (.dat (.list (accD ++ []))) := q
    rw [List.append_nil] at q
    exact k _ _ _ (e1.trans ex) (g1.step ex g2) (.dat (.lst (by rw [off_of bD mD]; exact hD) (hacc.mono plus_sub _ _))) (fun z _ e _ => by cases e; exact e1.dom _ nD) q
end
section
variable {X : Cx}
abbrev VTs (X : Cx) (ifs : List Expr) (w : WT) : Prop := PTs X ifs (LT X.K w)
theorem pts_weak {ifs : List Expr} {t u : TT} (hs : PTs X ifs t) (w : ∀ σ H Q, u σ H Q → t σ H Q) : PTs X ifs u := ⟨fun pins s σ H R I q => hs.run pins s σ H R I (w σ H R q)⟩
theorem vts_nil : VTs X [] wYes := pts_weak pts_nil fun σ H Q ⟨S, B, ρ, μ, Q2, st, w, k⟩ => k true H .refl st.gd w
theorem vts_one {c : Expr} {w : WT} (h : VT X c w) : VTs X [c] w := pts_one h
theorem vf_lc {elt tg iter : Expr} {ifs : List Expr} {scope : Scope} {own : List (Str × Nat)} {pos : Pos} {wi : WI} {wt : WT} {we : WE} (p : Pat) (hc : X.calm = true) (hN : X.N.Nodup) (hi : VI X tg iter wi) (ok : BlkOk X.N X.env.scope scope own)
    (hg : ∀ (s : Shared) (H : Hp) (C : Addr) (cl : List (Str × Addr)) (fp : List Addr), PG (X.blk s H scope (compEnvC scope cl C X.env) fp) tg (gOf X.K p)) (ht : ∀ (s : Shared) (H : Hp) (C : Addr) (cl : List (Str × Addr)) (fp : List Addr), VTs (X.blk s H scope (compEnvC scope cl C X.env) fp) ifs wt)
    (he : ∀ (s : Shared) (H : Hp) (C : Addr) (cl : List (Str × Addr)) (fp : List Addr), VE (X.blk s H scope (compEnvC scope cl C X.env) fp) elt we) (hv : p.sub (own.map (·.2)) = true := by rfl) (hs : ∀ x, foldedSetIterable iter X.env x = pure x := by intro _; rfl) :
    VF X (.ListComp elt [⟨tg, iter, ifs, 0⟩] scope pos) (wLc wi p wt we (own.map (·.2))) := pe_weak (pe_lc hc hN hi ok hg ht he hs) (lf_lc hv)
end
end Hv

set_option Elab.async false
set_option linter.all false
set_option maxRecDepth 100000
namespace Hv
open PySem PySem.Spec PyProof.Rows L2 Hod
structure Ends2 where
  nx : Rho → Mem → Prop
  rt : PyData → Prop
  bk : Rho → Mem → Prop := fun _ _ => False
  ct : Rho → Mem → Prop := fun _ _ => False
  fr : Bool := false
abbrev WS := Ends2 → Rho → Mem → Prop
/-- the state of a body: H0 at its entry, G0 what is to be seen as it was -/
structure Sts (K : PySem.W.Frag) (S B : Hid) (H0 G0 : Hp) (σ : L2.St) (H : Hp) (ρ : Rho) (μ : Mem) : Prop where
  st : Sta K S B σ H ρ μ
  old : Ex S H0 H
  fre : ∀ a, H0 a ≠ none → μ a = none
  vis : Same G0 (off B μ H)
structure Ref (K : PySem.W.Frag) (S B : Hid) (H0 G0 : Hp) (D : Ends) (E : Ends2) : Prop where
  nx : ∀ σ H ρ μ, Sts K S B H0 G0 σ H ρ μ → E.nx ρ μ → D.nx σ H
  bk : ∀ σ H ρ μ, Sts K S B H0 G0 σ H ρ μ → E.bk ρ μ → D.bk σ H
  ct : ∀ σ H ρ μ, Sts K S B H0 G0 σ H ρ μ → E.ct ρ μ → D.ct σ H
  rt : ∀ v H d, Ex S H0 H → Good K S B emp H → Rp K (off B emp H) v d → (E.fr = true → ∀ p ds, v = .ref p → d = .list ds → H0 p = none) → E.rt d → D.rt v H
def LS (K : PySem.W.Frag) (W : WS) : TS := fun D σ H => ∃ S B H0 G0 ρ μ E, Sts K S B H0 G0 σ H ρ μ ∧ W E ρ μ ∧ Ref K S B H0 G0 D E
abbrev VS (X : Cx) (st : Stmt) (W : WS) : Prop := PS X st (LS X.K W)
abbrev VSs (X : Cx) (st : List Stmt) (W : WS) : Prop := PSs X st (LS X.K W)
section
variable {K : PySem.W.Frag} {S B : Hid} {H0 G0 H H' : Hp} {σ : L2.St} {ρ : Rho} {μ : Mem}
theorem Sts.ex (s : Sts K S B H0 G0 σ H ρ μ) (e : Ex S H H') (g : Good K S B μ H') : Sts K S B H0 G0 σ H' ρ μ := ⟨s.st.ex e g, s.old.trans e, s.fre, fun a o h => e.off s.st.gd a o (s.vis a o h)⟩
theorem Sts.set (s : Sts K S B H0 G0 σ H ρ μ) (i : Nat) {v : V} {a : A} (r : Ra K S μ (off B μ H) v a) : Sts K S B H0 G0 (σ.set i (some v)) H (ρ.set i (some a)) μ := ⟨⟨s.st.gd, s.st.sl.set i r⟩, s.old, s.fre, s.vis⟩
end
section
variable {X : Cx} {st : Stmt} {rest : List Stmt} {W W2 : WS} {e a b : Expr} {pos : Pos} {w wa wb : WE}
def wNext : WS := fun E ρ μ => E.nx ρ μ
def wSeq (W W2 : WS) : WS := fun E ρ μ => W { E with nx := fun ρ μ => W2 E ρ μ } ρ μ
theorem vss_nil : VSs X [] wNext := pss_weak pss_nil fun D σ H ⟨S, B, H0, G0, ρ, μ, E, s, w, r⟩ => r.nx σ H ρ μ s w
theorem vss_one (h : VS X st W) : VSs X [st] W := pss_one h
theorem vss_cons (h1 : VS X st W) (h2 : VSs X rest W2) : VSs X (st :: rest) (wSeq W W2) :=
  pss_weak (pss_cons h1 h2) fun D σ H ⟨S, B, H0, G0, ρ, μ, E, s, w, r⟩ => ⟨S, B, H0, G0, ρ, μ, _, s, w, ⟨fun σ H ρ μ s q => ⟨S, B, H0, G0, ρ, μ, E, s, q, r⟩, r.bk, r.ct, r.rt⟩⟩
theorem vs_pass : VS X (.Pass pos) wNext := ps_weak ps_pass fun D σ H ⟨S, B, H0, G0, ρ, μ, E, s, w, r⟩ => r.nx σ H ρ μ s w
theorem vs_break : VS X (.Break pos) (fun E ρ μ => E.bk ρ μ) := ps_weak ps_break fun D σ H ⟨S, B, H0, G0, ρ, μ, E, s, w, r⟩ => r.bk σ H ρ μ s w
theorem vs_continue : VS X (.Continue pos) (fun E ρ μ => E.ct ρ μ) := ps_weak ps_continue fun D σ H ⟨S, B, H0, G0, ρ, μ, E, s, w, r⟩ => r.ct σ H ρ μ s w
theorem vs_never : VS X st (fun _ _ _ => False) := ps_weak ps_never fun D σ H ⟨S, B, H0, G0, ρ, μ, E, s, w, r⟩ => w
/-! assignments -/
def wSet (i : Nat) (w : WE) : WS := fun E ρ μ => w ρ μ fun a => E.nx (ρ.set i (some a)) μ
theorem ls_set {K : PySem.W.Frag} {i : Nat} {D : Ends} {σ : L2.St} {H : Hp} (h : LS K (wSet i w) D σ H) : LE K w σ H fun x H1 => gName i x σ H1 D.nx := by
  obtain ⟨S, B, H0, G0, ρ, μ, E, s, w, r⟩ := h
  exact ⟨S, B, ρ, μ, _, s.st, w, fun v H1 a e1 g1 ra q1 => r.nx _ _ _ _ ((s.ex e1 g1).set i ra) q1⟩
theorem le_lf {K : PySem.W.Frag} {σ : L2.St} {H : Hp} {Q : VK} (h : LE K w σ H Q) : LF K w σ H Q := by
  obtain ⟨S, B, ρ, μ, Q2, s, w, k⟩ := h
  exact ⟨S, B, ρ, μ, Q2, s, w, fun v H' a e g r _ q => k v H' a e g r q⟩
mutual
def nol : PyData → Bool
  | .list _ => false
  | .tuple ds => nols ds
  | .dict _ => false
  | _ => true
def nols : List PyData → Bool
  | [] => true
  | d :: ds => nol d && nols ds
end
mutual
/-- data without lists doesn't stand on the lists of the heap -/
theorem nol_ok {K : PySem.W.Frag} {G G2 : Hp} (s : ∀ a o, G a = some o → (∀ xs, o ≠ .lst xs) → G2 a = some o) : ∀ (d : PyData) (v : V), nol d = true → Rp K G v d → Rp K G2 v d
  | .none, _, _, h => by cases h; exact .non
  | .bool b, _, _, h => by cases h; exact .bl b
  | .int b, _, _, h => by cases h; exact .int b
  | .str b, _, _, h => by cases h; exact .str b
  | .list _, _, e, _ => by cases e
  | .dict _, _, e, _ => by cases e
  | .tuple ds, _, e, h => by
    cases h with
    | tup h1 h2 =>
      refine .tup ?_ (nols_ok s ds _ (by unfold nol at e; exact e) h2)
      rcases h1 with (h1 | ⟨o, h1⟩) | h1
      · exact .inl (.inl (s _ _ h1 fun _ z => nomatch z))
      · exact .inl (.inr ⟨o, s _ _ h1 fun _ z => nomatch z⟩)
      · exact .inr h1
theorem nols_ok {K : PySem.W.Frag} {G G2 : Hp} (s : ∀ a o, G a = some o → (∀ xs, o ≠ .lst xs) → G2 a = some o) : ∀ (ds : List PyData) (vs : List V), nols ds = true → Rps K G vs ds → Rps K G2 vs ds
  | [], _, _, h => by cases h; exact .nil
  | d :: ds, _, e, h => by
    cases h with
    | cons h1 h2 =>
      have e : (nol d && nols ds) = true := by unfold nols at e; exact e
      rw [Bool.and_eq_true] at e
      exact .cons (nol_ok s d _ e.1 h1) (nols_ok s ds _ e.2 h2)
end
theorem nols_int : ∀ ns : List Int, nols (ns.map PyData.int) = true
  | [] => rfl
  | n :: ns => by
    show (nol (.int n) && nols (ns.map PyData.int)) = true
    rw [nols_int ns]; rfl
def wOwn (i : Nat) (w : WE) : WS := fun E ρ μ => w ρ μ fun a => match a with
  | .dat (.list ds) => nols ds = true ∧ ∀ p, μ p = none → E.nx (ρ.set i (some (.own p))) (put μ p (ds.map .dat))
  | .dat d => E.nx (ρ.set i (some (.dat d))) μ
  | _ => False
theorem put_some {μ : Mem} {p a : Addr} {xs : List A} (h : (μ a).isSome = true) : (put μ p xs a).isSome = true := by
  unfold put
  split
  · rfl
  · exact h
/-- a new list becomes one's own -/
theorem own_new {K : PySem.W.Frag} {S B : Hid} {H0 G0 H H1 : Hp} {σ : L2.St} {ρ : Rho} {μ : Mem} {p : Addr} {xs : List V} {ds : List PyData} (s : Sts K S B H0 G0 σ H ρ μ) (e : Ex S H H1) (g : Good K S B μ H1) (n : H p = none) (hp : off B μ H1 p = some (.lst xs)) (r : Rps K (off B μ H1) xs ds) (hn : nols ds = true) (i : Nat) :
    Sts K S B H0 G0 (σ.set i (some (.ref p))) H1 (ρ.set i (some (.own p))) (put μ p (ds.map .dat)) := by
  obtain ⟨b1, b2, b3⟩ := off_some hp
  have so : Same (off B μ H) (off B (put μ p (ds.map .dat)) H1) := fun a o h => by
    obtain ⟨h1, h2, h3⟩ := off_some h
    have ne : a ≠ p := ne_of_none h3 n
    rw [off_of h1 (by rw [put_ne ne]; exact h2)]
    exact e.keep a o (s.st.gd.sb h1) h3
  have gw : Gw μ (put μ p (ds.map .dat)) (off B μ H) (off B (put μ p (ds.map .dat)) H1) := ⟨so, fun a h => put_some h⟩
  refine ⟨⟨⟨fun a sa => ?_, g.bd, fun a ys q => ?_⟩, ?_⟩, s.old.trans e, fun a h => ?_, fun a o h => so a o (s.vis a o h)⟩
  · obtain ⟨h1, c, ns, j, bg, seed, h2, h3, h4⟩ := g.dr a sa
    obtain ⟨_, c0, ns0, j0, bg0, seed0, k2, k3, k4⟩ := s.st.gd.dr a sa
    obtain ⟨r', z⟩ := e.dr a c0 _ sa k2
    rw [h2] at z
    have ec : c = c0 := V.ref.inj (List.cons.inj (HO.lst.inj (Option.some.inj z))).1
    subst ec
    exact ⟨h1, c, ns0, j, bg, seed, h2, so _ _ k3, h4⟩
  · by_cases ea : a = p
    · subst ea
      rw [put_same] at q
      cases q
      refine ⟨b1, xs, b3, ?_⟩
      refine Rps.ras (nols_ok (fun c o hc hl => ?_) ds xs hn r)
      have ne : c ≠ a := fun z => by rw [z, hp] at hc; exact hl xs (Option.some.inj hc).symm
      obtain ⟨h1, h2, h3⟩ := off_some hc
      rw [off_of h1 (by rw [put_ne ne]; exact h2)]
      exact h3
    · rw [put_ne ea] at q
      obtain ⟨h1, vs, h2, h3⟩ := s.st.gd.ce a ys q
      exact ⟨h1, vs, e.keep a _ (s.st.gd.sb h1) h2, h3.gw gw⟩
  · exact (s.st.sl.gw gw).set i (.own (by rw [put_same]; rfl))
  · have ne : a ≠ p := fun z => h (by rw [z]; exact s.old.dom _ n)
    rw [put_ne ne]
    exact s.fre a h
theorem ls_own {K : PySem.W.Frag} {i : Nat} {D : Ends} {σ : L2.St} {H : Hp} (h : LS K (wOwn i w) D σ H) : LF K w σ H fun x H1 => gName i x σ H1 D.nx := by
  obtain ⟨S, B, H0, G0, ρ, μ, E, s, w, r⟩ := h
  refine ⟨S, B, ρ, μ, _, s.st, w, fun v H1 a e1 g1 ra n q1 => ?_⟩
  cases ra with
  | dat ra =>
    cases ra with
    | @lst p xs ds h1 h2 => exact r.nx _ _ _ _ (own_new s e1 g1 (n p ds rfl rfl) h1 h2 q1.1 i) (q1.2 p (off_some h1).2.1)
    | non => exact r.nx _ _ _ _ ((s.ex e1 g1).set i (.dat .non)) q1
    | bl z => exact r.nx _ _ _ _ ((s.ex e1 g1).set i (.dat (.bl z))) q1
    | int z => exact r.nx _ _ _ _ ((s.ex e1 g1).set i (.dat (.int z))) q1
    | str z => exact r.nx _ _ _ _ ((s.ex e1 g1).set i (.dat (.str z))) q1
    | tup h1 h2 => exact r.nx _ _ _ _ ((s.ex e1 g1).set i (.dat (.tup h1 h2))) q1
  | _ => exact q1.elim
theorem vs_set {i : Nat} {x : Str} {pos' : Pos} (hN : X.N.Nodup) (hi : X.N[i]? = some x) (hx : Loc X.env.scope x) (he : VE X e w) (hs : swapsWith e (some (.Name x pos')) pos.line X.env = pure false := by rfl) (hf : X.fn x = true ∨ X.env.scope.names.lookup x = some .local := by first | exact .inl rfl | exact .inr rfl | assumption) :
    VS X (.Assign [.Name x pos'] e pos) (wSet i w) := ps_weak (ps_set hN hi hx he hs hf) fun D σ H h => ls_set h
theorem vs_own {i : Nat} {x : Str} {pos' : Pos} (hN : X.N.Nodup) (hi : X.N[i]? = some x) (hx : Loc X.env.scope x) (he : VF X e w) (hs : swapsWith e (some (.Name x pos')) pos.line X.env = pure false := by rfl) (hf : X.fn x = true ∨ X.env.scope.names.lookup x = some .local := by first | exact .inl rfl | exact .inr rfl | assumption) :
    VS X (.Assign [.Name x pos'] e pos) (wOwn i w) := ps_weak (ps_set hN hi hx he hs hf) fun D σ H h => ls_own h
section
variable {i : Nat} {y : Str} {py : Pos} {elt tg iter : Expr} {ifs : List Expr} {scope : Scope} {own : List (Str × Nat)} {spos : Pos} {wi : WI} {wt : WT} {we : WE}
theorem vs_setLc (p : Pat) (hc : X.calm = true) (hN : X.N.Nodup) (hy : X.N[i]? = some y) (hyl : X.env.scope.names.lookup y = some .local)
    (hsw : swapsWith (.ListComp elt [⟨tg, iter, ifs, 0⟩] scope pos) (some (.Name y py)) spos.line X.env = pure true) (hi : VI X tg iter wi) (ok : BlkOk X.N X.env.scope scope own)
    (hg : ∀ (s : Shared) (H : Hp) (C : Addr) (cl : List (Str × Addr)) (fp : List Addr), PG (X.blk s H scope (compEnvC scope cl C X.env) fp) tg (gOf X.K p)) (ht : ∀ (s : Shared) (H : Hp) (C : Addr) (cl : List (Str × Addr)) (fp : List Addr), VTs (X.blk s H scope (compEnvC scope cl C X.env) fp) ifs wt)
    (he : ∀ (s : Shared) (H : Hp) (C : Addr) (cl : List (Str × Addr)) (fp : List Addr), VE (X.blk s H scope (compEnvC scope cl C X.env) fp) elt we) (hv : p.sub (own.map (·.2)) = true := by rfl) (hs : ∀ x, foldedSetIterable iter X.env x = pure x := by intro _; rfl) :
    VS X (.Assign [.Name y py] (.ListComp elt [⟨tg, iter, ifs, 0⟩] scope pos) spos) (wSet i (wLc wi p wt we (own.map (·.2)))) := ps_weak (ps_setLc hc hN hy hyl hsw hi ok hg ht he hs) fun D σ H h => lf_lc hv σ H _ (le_lf (ls_set h))
theorem vs_ownLc (p : Pat) (hc : X.calm = true) (hN : X.N.Nodup) (hy : X.N[i]? = some y) (hyl : X.env.scope.names.lookup y = some .local)
    (hsw : swapsWith (.ListComp elt [⟨tg, iter, ifs, 0⟩] scope pos) (some (.Name y py)) spos.line X.env = pure true) (hi : VI X tg iter wi) (ok : BlkOk X.N X.env.scope scope own)
    (hg : ∀ (s : Shared) (H : Hp) (C : Addr) (cl : List (Str × Addr)) (fp : List Addr), PG (X.blk s H scope (compEnvC scope cl C X.env) fp) tg (gOf X.K p)) (ht : ∀ (s : Shared) (H : Hp) (C : Addr) (cl : List (Str × Addr)) (fp : List Addr), VTs (X.blk s H scope (compEnvC scope cl C X.env) fp) ifs wt)
    (he : ∀ (s : Shared) (H : Hp) (C : Addr) (cl : List (Str × Addr)) (fp : List Addr), VE (X.blk s H scope (compEnvC scope cl C X.env) fp) elt we) (hv : p.sub (own.map (·.2)) = true := by rfl) (hs : ∀ x, foldedSetIterable iter X.env x = pure x := by intro _; rfl) :
    VS X (.Assign [.Name y py] (.ListComp elt [⟨tg, iter, ifs, 0⟩] scope pos) spos) (wOwn i (wLc wi p wt we (own.map (·.2)))) := ps_weak (ps_setLc hc hN hy hyl hsw hi ok hg ht he hs) fun D σ H h => lf_lc hv σ H _ (ls_own h)
end
/-- a, b = e -/
def wAsg (p : Pat) (w : WE) : WS := fun E ρ μ => w ρ μ fun a => match a with | .dat d => (match bindP p d ρ with | some ρ' => E.nx ρ' μ | none => False) | _ => False
theorem vs_asg {tg : Expr} (p : Pat) (he : VE X e w) (hg : PG X tg (gOf X.K p)) (hs : swapsWithSole [tg] e pos.line X.env = pure false := by rfl) (hw : swappedStores [tg] e X.env = pure none := by rfl) (h1 : (assignEach [tg] X.env).map (·.2) = [assign tg X.env] := by rfl) : VS X (.Assign [tg] e pos) (wAsg p w) := by
  refine ps_weak (ps_asg he hg hs hw h1) fun D σ H ⟨S, B, H0, G0, ρ, μ, E, s, w, r⟩ => ⟨S, B, ρ, μ, _, s.st, w, fun v H1 a e1 g1 ra q1 => ?_⟩
  cases ra with
  | dat ra =>
    dsimp only at q1
    split at q1
    · rename_i ρ' hb
      have s1 := s.ex e1 g1
      exact gOf_ok (S := S) (μ := μ) (G := off B μ H1) off_same p _ ρ ρ' v σ _ hb ra s1.st.sl fun σ' sl _ => r.nx _ _ _ _ ⟨⟨g1, sl⟩, s1.old, s1.fre, s1.vis⟩ q1
    · exact q1.elim
  | _ => exact q1.elim
/-- a, b = c, d -/
def wPar (i j : Nat) (u : WA) : WS := fun E ρ μ => u ρ μ fun as => match as with | [a, b] => E.nx ((ρ.set i (some a)).set j (some b)) μ | _ => False
theorem vs_par {i j : Nat} {x y : Str} {u : WA} {px py pt : Pos} {kt k2 pt2} (hc : X.calm = true) (hN : X.N.Nodup) (hi : X.N[i]? = some x) (hj : X.N[j]? = some y) (hij : i ≠ j)
    (hx : X.env.scope.names.lookup x = some .local) (hy : X.env.scope.names.lookup y = some .local) (ha : VA X [a, b] u)
    (hw : swappedStores [.Tuple [.Name x px, .Name y py] kt pt] (.Tuple [a, b] k2 pt2) X.env = pure (some [x, y])) : VS X (.Assign [.Tuple [.Name x px, .Name y py] kt pt] (.Tuple [a, b] k2 pt2) pos) (wPar i j u) := by
  refine ps_weak (ps_par hc hN hi hj hij hx hy ha hw) fun D σ H ⟨S, B, H0, G0, ρ, μ, E, s, w, r⟩ => ⟨S, B, ρ, μ, _, s.st, w, fun vs H1 as e1 g1 ra q1 => ?_⟩
  unfold wPar at w
  split at q1
  · rename_i a b
    cases ra with
    | cons r1 ra =>
      cases ra with
      | cons r2 ra =>
        cases ra
        exact ⟨_, _, rfl, r.nx _ _ _ _ (((s.ex e1 g1).set i r1).set j r2) q1⟩
  · exact q1.elim
/-- x += e of ints -/
def wAug (i : Nat) (w : WE) : WS := fun E ρ μ => match ρ[i]? with | some (some (.dat (.int x))) => w ρ μ fun a => (match a with | .dat (.int y) => E.nx (ρ.set i (some (.dat (.int (x + y))))) μ | _ => False) | _ => False
theorem vs_aug {i : Nat} {x : Str} {pos' : Pos} (hN : X.N.Nodup) (hi : X.N[i]? = some x) (hx : Loc X.env.scope x) (he : VE X e w) (hf : X.fn x = true ∨ X.env.scope.names.lookup x = some .local := by first | exact .inl rfl | exact .inr rfl | assumption) :
    VS X (.AugAssign (.Name x pos') .Add e pos) (wAug i w) := by
  refine ps_weak (ps_aug hN hi hx he ip_add hf) fun D σ H ⟨S, B, H0, G0, ρ, μ, E, s, w, r⟩ => ?_
  unfold wAug at w
  split at w
  · rename_i x hx
    obtain ⟨v, h1, h2⟩ := s.st.sl.get hx
    cases h2 with
    | dat h2 =>
      cases h2
      refine ⟨_, h1, S, B, ρ, μ, _, s.st, w, fun v2 H1 a e1 g1 ra q1 => ?_⟩
      cases ra with
      | dat ra =>
        cases ra with
        | int y => exact ⟨_, _, rfl, rfl, r.nx _ _ _ _ ((s.ex e1 g1).set i (.dat (.int _))) q1⟩
        | _ => exact q1.elim
      | _ => exact q1.elim
  · exact w.elim
/-! own lists changed -/
theorem own_off {B : Hid} {μ : Mem} {H : Hp} {p : Addr} {o : HO} {xs : List A} (h : (μ p).isSome = true) : off B (put μ p xs) (upd H p o) = off B μ H := by
  funext a
  unfold off
  by_cases e : a = p
  · subst e
    rw [h, put_same]
    simp
  · rw [put_ne e, upd_ne e]
theorem own_set {K : PySem.W.Frag} {S B : Hid} {H0 G0 H : Hp} {σ : L2.St} {ρ : Rho} {μ : Mem} {p : Addr} {xs ys : List A} {zs : List V} (s : Sts K S B H0 G0 σ H ρ μ) (hp : μ p = some xs) (r : Ras K S μ (off B μ H) zs ys) :
    Sts K S B H0 G0 σ (upd H p (.lst zs)) ρ (put μ p ys) := by
  have hm : (μ p).isSome = true := by rw [hp]; rfl
  obtain ⟨bp, vs, hv, _⟩ := s.st.gd.ce p xs hp
  have sp : S p = false := s.st.gd.sb bp
  have oo := own_off (B := B) (H := H) (o := .lst zs) (xs := ys) hm
  have gw : Gw μ (put μ p ys) (off B μ H) (off B (put μ p ys) (upd H p (.lst zs))) := ⟨by rw [oo]; exact Same.refl _, fun a h => put_some h⟩
  refine ⟨⟨⟨fun a sa => ?_, fun a ba => ?_, fun a ws q => ?_⟩, s.st.sl.gw gw⟩, ⟨fun a o sa h => ?_, fun a h => ?_, fun a c r sa h => ?_⟩, fun a h => ?_, fun a o h => by rw [oo]; exact s.vis a o h⟩
  · obtain ⟨h1, c, ns, i, bg, seed, h2, h3, h4⟩ := s.st.gd.dr a sa
    have ne : a ≠ p := fun e => by rw [e, sp] at sa; cases sa
    exact ⟨h1, c, ns, i, bg, seed, by rw [upd_ne ne]; exact h2, by rw [oo]; exact h3, h4⟩
  · by_cases e : a = p
    · rw [e, upd_same]; exact fun z => nomatch z
    · rw [upd_ne e]; exact s.st.gd.bd a ba
  · by_cases e : a = p
    · subst e
      rw [put_same] at q
      cases q
      exact ⟨bp, zs, upd_same, r.gw gw⟩
    · rw [put_ne e] at q
      obtain ⟨h1, vs, h2, h3⟩ := s.st.gd.ce a ws q
      exact ⟨h1, vs, by rw [upd_ne e]; exact h2, h3.gw gw⟩
  · have ne : a ≠ p := fun e => by
      have := s.fre a (by rw [h]; exact fun z => nomatch z)
      rw [e, hp] at this
      cases this
    rw [upd_ne ne]
    exact s.old.keep a o sa h
  · by_cases e : a = p
    · rw [e, upd_same] at h; cases h
    · rw [upd_ne e] at h; exact s.old.dom a h
  · have ne : a ≠ p := fun e => by rw [e, sp] at sa; cases sa
    rw [upd_ne ne]
    exact s.old.dr a c r sa h
  · have ne : a ≠ p := fun e => by
      have := s.fre a h
      rw [e, hp] at this
      cases this
    rw [put_ne ne]
    exact s.fre a h
/-- the items of one's own list -/
def cel (μ : Mem) : A → Option (Addr × List A)
  | .own p => match μ p with | some xs => some (p, xs) | none => none
  | _ => none
theorem cel_ok {K : PySem.W.Frag} {S B : Hid} {μ : Mem} {H : Hp} {v : V} {a : A} {p : Addr} {xs : List A} (g : Good K S B μ H) (r : Ra K S μ (off B μ H) v a) (h : cel μ a = some (p, xs)) : v = .ref p ∧ μ p = some xs ∧ ∃ vs, H p = some (.lst vs) ∧ Ras K S μ (off B μ H) vs xs := by
  cases r with
  | dat _ => cases h
  | drw _ => cases h
  | ty => cases h
  | @own q _ =>
    unfold cel at h
    dsimp only at h
    cases e : μ q with
    | none => rw [e] at h; cases h
    | some ys =>
      rw [e] at h
      cases h
      obtain ⟨_, vs, h1, h2⟩ := g.ce p xs e
      exact ⟨rfl, e, vs, h1, h2⟩
def wApp (wo we : WE) : WS := fun E ρ μ => wo ρ μ fun o => match cel μ o with | some (p, xs) => we ρ μ fun a => xs.length < 1000000 ∧ E.nx ρ (put μ p (xs ++ [a])) | none => False
theorem vs_app {o : Expr} {wo : WE} {cpos apos : Pos} (ho : VE X o wo) (he : VE X e w)
    (hbase : attributeBase o "append" X.env (eval o X.env) = eval o X.env := by rfl)
    (hfew : ((backTo cpos (starEach [e] X.env)).all (fun x => !x.1) && (backToKw cpos (keywordEach [] X.env)).all (fun x => x.1.isSome)
      && decide ([e].length + ([] : List Keyword).length + (if ([] : List Keyword).isEmpty then 0 else 1) < 30)) = true := by rfl)
    (hline : (apos.endLine == cpos.line) = true := by rfl) (hs : starEach [e] X.env = (false, eval e X.env) :: starEach [] X.env := by rfl)
    (hsw : swapsWith (.Call (.Attribute o "append" apos) [e] [] cpos) none pos.line X.env = pure false := by rfl) : VS X (.Expr (.Call (.Attribute o "append" apos) [e] [] cpos) pos) (wApp wo w) := by
  refine ps_weak (ps_expr (pe_bm PySem.F.plainAttrs_list PySem.F.slot_list_append PySem.F.type_list_append mt_append ho (pa_cons he pa_nil hs) hbase hfew hline hs) hsw) fun D σ H ⟨S, B, H0, G0, ρ, μ, E, s, w, r⟩ => ?_
  refine ⟨S, B, ρ, μ, _, s.st, w, fun v H1 a e1 g1 ra q1 => ?_⟩
  have s1 := s.ex e1 g1
  split at q1
  · rename_i p xs hc
    obtain ⟨rfl, hm, vs, h1, h2⟩ := cel_ok g1 ra hc
    refine ⟨.inl ⟨rfl, _, SqL.of h1⟩, S, B, ρ, μ, _, s1.st, q1, fun v2 H2 a2 e2 g2 r2 q2 => ?_⟩
    have s2 := s1.ex e2 g2
    obtain ⟨_, vs2, h3, h4⟩ := g2.ce p xs hm
    exact ⟨p, vs2, v2, rfl, rfl, h3, million (by rw [h4.len]; exact q2.1), r.nx _ _ _ _ (own_set s2 hm (h4.app (.cons r2 .nil))) q2.2⟩
  · exact q1.elim
/-- xs.extend(ys), ys a list of data -/
def wExt (wo we : WE) : WS := fun E ρ μ => wo ρ μ fun o => match cel μ o with | some (p, xs) => we ρ μ fun a => (match a with | .dat (.list ds) => xs.length + ds.length ≤ 1000000 ∧ E.nx ρ (put μ p (xs ++ ds.map .dat)) | _ => False) | none => False
theorem vs_ext {o : Expr} {wo : WE} {cpos apos : Pos} (ho : VE X o wo) (he : VE X e w)
    (hbase : attributeBase o "extend" X.env (eval o X.env) = eval o X.env := by rfl)
    (hfew : ((backTo cpos (starEach [e] X.env)).all (fun x => !x.1) && (backToKw cpos (keywordEach [] X.env)).all (fun x => x.1.isSome)
      && decide ([e].length + ([] : List Keyword).length + (if ([] : List Keyword).isEmpty then 0 else 1) < 30)) = true := by rfl)
    (hline : (apos.endLine == cpos.line) = true := by rfl) (hs : starEach [e] X.env = (false, eval e X.env) :: starEach [] X.env := by rfl)
    (hsw : swapsWith (.Call (.Attribute o "extend" apos) [e] [] cpos) none pos.line X.env = pure false := by rfl) : VS X (.Expr (.Call (.Attribute o "extend" apos) [e] [] cpos) pos) (wExt wo w) := by
  refine ps_weak (ps_expr (pe_bm PySem.F.plainAttrs_list PySem.F.slot_list_extend PySem.F.type_list_extend mt_extend ho (pa_cons he pa_nil hs) hbase hfew hline hs) hsw) fun D σ H ⟨S, B, H0, G0, ρ, μ, E, s, w, r⟩ => ?_
  refine ⟨S, B, ρ, μ, _, s.st, w, fun v H1 a e1 g1 ra q1 => ?_⟩
  have s1 := s.ex e1 g1
  split at q1
  · rename_i p xs hc
    obtain ⟨rfl, hm, vs, h1, h2⟩ := cel_ok g1 ra hc
    refine ⟨.inl ⟨rfl, _, SqL.of h1⟩, S, B, ρ, μ, _, s1.st, q1, fun v2 H2 a2 e2 g2 r2 q2 => ?_⟩
    have s2 := s1.ex e2 g2
    obtain ⟨_, vs2, h3, h4⟩ := g2.ce p xs hm
    cases r2 with
    | dat r2 =>
      cases r2 with
      | @lst p2 ys ds k1 k2 =>
        exact ⟨p, p2, vs2, ys, rfl, rfl, h3, off_same _ _ k1, big (by rw [h4.len, k2.len]; exact q2.1), r.nx _ _ _ _ (own_set s2 hm (h4.app k2.ras)) q2.2⟩
      | _ => exact q2.elim
    | _ => exact q2.elim
  · exact q1.elim
/-- xs[i] = e -/
def wSto (wo wi we : WE) : WS := fun E ρ μ => we ρ μ fun a => wo ρ μ fun o => wi ρ μ fun i => match cel μ o, i with
  | some (p, xs), .dat (.int k) => (match ixN xs.length k with | some j => E.nx ρ (put μ p (xs.set j a)) | none => False)
  | _, _ => False
theorem vs_sto {o i : Expr} {wo wi : WE} {tp : Pos} (he : VE X e w) (ho : VE X o wo) (hi : VE X i wi) (hg : ∀ {to ti : TE} {t : TSet}, PE X o to → PE X i ti → PSet X t → PG X (.Subscript o i tp) (L2.gSub to ti t))
    (hs : swapsWithSole [.Subscript o i tp] e pos.line X.env = pure false := by rfl) (hw : swappedStores [.Subscript o i tp] e X.env = pure none := by rfl) (h1 : (assignEach [.Subscript o i tp] X.env).map (·.2) = [assign (.Subscript o i tp) X.env] := by rfl) : VS X (.Assign [.Subscript o i tp] e pos) (wSto wo wi w) := by
  refine ps_weak (ps_asg he (hg ho hi set_list) hs hw h1) fun D σ H ⟨S, B, H0, G0, ρ, μ, E, s, w, r⟩ => ⟨S, B, ρ, μ, _, s.st, w, fun v H1 a e1 g1 ra q1 => ?_⟩
  have s1 := s.ex e1 g1
  refine ⟨S, B, ρ, μ, _, s1.st, q1, fun v2 H2 a2 e2 g2 r2 q2 => ?_⟩
  have s2 := s1.ex e2 g2
  refine ⟨S, B, ρ, μ, _, s2.st, q2, fun v3 H3 a3 e3 g3 r3 q3 => ?_⟩
  have s3 := s2.ex e3 g3
  split at q3
  · rename_i p xs k hc
    obtain ⟨rfl, hm, vs, h1, h2⟩ := cel_ok g2 r2 hc
    split at q3
    · rename_i j hj
      cases r3 with
      | dat r3 =>
        cases r3
        obtain ⟨_, vs3, h3, h4⟩ := g3.ce p xs hm
        exact ⟨p, vs3, k, j, rfl, rfl, h3, by rw [h4.len]; exact hj, r.nx _ _ _ _ (own_set s3 hm (h4.set j ((ra.mono (e2.off g1)).mono (e3.off g2)))) q3⟩
    · exact q3.elim
  · exact q3.elim
/-! ### other statements -/
def wDrop (w : WE) : WS := fun E ρ μ => w ρ μ fun _ => E.nx ρ μ
theorem vs_expr (he : VE X e w) (hs : swapsWith e none pos.line X.env = pure false := by rfl) : VS X (.Expr e pos) (wDrop w) :=
  ps_weak (ps_expr he hs) fun D σ H ⟨S, B, H0, G0, ρ, μ, E, s, w, r⟩ => ⟨S, B, ρ, μ, _, s.st, w, fun v H1 a e1 g1 ra q1 => r.nx _ _ _ _ (s.ex e1 g1) q1⟩
def wIfS (u : WT) (W W2 : WS) : WS := fun E ρ μ => u ρ μ fun b => if b = true then W E ρ μ else W2 E ρ μ
theorem vs_if {c : Expr} {s1 s2 : List Stmt} {u : WT} (hc : VT X c u) (ha : VSs X s1 W) (hb : VSs X s2 W2) : VS X (.If c s1 s2 pos) (wIfS u W W2) := by
  refine ps_weak (ps_if hc ha hb) fun D σ H ⟨S, B, H0, G0, ρ, μ, E, s, w, r⟩ => ⟨S, B, ρ, μ, _, s.st, w, fun b H1 e1 g1 q1 => ?_⟩
  cases b with
  | true => exact ⟨S, B, H0, G0, ρ, μ, E, s.ex e1 g1, q1, r⟩
  | false => exact ⟨S, B, H0, G0, ρ, μ, E, s.ex e1 g1, q1, r⟩
def retA (E : Ends2) (μ : Mem) : A → Prop
  | .dat (.list ds) => E.fr = false ∧ E.rt (.list ds)
  | .dat d => E.rt d
  | .own p => match μ p with | some xs => (match dats xs with | some ds => E.rt (.list ds) | none => False) | none => False
  | _ => False
theorem ret_ok {K : PySem.W.Frag} {S B : Hid} {H0 G0 H : Hp} {σ : L2.St} {ρ : Rho} {μ : Mem} {D : Ends} {E : Ends2} {v : V} {a : A} (s : Sts K S B H0 G0 σ H ρ μ) (r : Ref K S B H0 G0 D E) (ra : Ra K S μ (off B μ H) v a) (q : retA E μ a) : D.rt v H := by
  have g := s.st.gd
  cases ra with
  | dat ra =>
    cases ra with
    | @lst p xs ds h1 h2 => exact r.rt _ _ _ s.old g.open (Rp.mono same_open _ _ (.lst h1 h2)) (fun f => by rw [q.1] at f; cases f) q.2
    | non => exact r.rt _ _ _ s.old g.open .non (fun _ _ _ e => nomatch e) q
    | bl z => exact r.rt _ _ _ s.old g.open (.bl z) (fun _ _ _ e => nomatch e) q
    | int z => exact r.rt _ _ _ s.old g.open (.int z) (fun _ _ _ e => nomatch e) q
    | str z => exact r.rt _ _ _ s.old g.open (.str z) (fun _ _ _ e => nomatch e) q
    | tup h1 h2 => exact r.rt _ _ _ s.old g.open (Rp.mono same_open _ _ (.tup h1 h2)) (fun _ _ _ _ e => nomatch e) q
  | @own p h =>
    unfold retA at q
    dsimp only at q
    split at q
    · rename_i xs hx
      split at q
      · rename_i ds hd
        obtain ⟨b1, vs, h1, h2⟩ := g.ce p xs hx
        refine r.rt _ _ _ s.old g.open (.lst (by rw [off_of b1 rfl]; exact h1) ((h2.rps hd).mono same_open _ _)) (fun _ p2 _ e _ => ?_) q
        cases e
        cases hz : H0 p with
        | none => rfl
        | some o => have := s.fre p (by rw [hz]; exact fun z => nomatch z); rw [hx] at this; cases this
      · exact q.elim
    · exact q.elim
  | drw h => exact q.elim
  | ty => exact q.elim
def wRet (w : WE) : WS := fun E ρ μ => w ρ μ fun a => retA E μ a
theorem vs_ret (he : VE X e w) : VS X (.Return (some e) pos) (wRet w) :=
  ps_weak (ps_ret he) fun D σ H ⟨S, B, H0, G0, ρ, μ, E, s, w, r⟩ => ⟨S, B, ρ, μ, _, s.st, w, fun v H1 a e1 g1 ra q1 => ret_ok (s.ex e1 g1) r ra q1⟩
def wRetF (w : WE) : WS := fun E ρ μ => w ρ μ fun a => match a with | .dat d => E.rt d | _ => False
theorem vs_retF (he : VF X e w) : VS X (.Return (some e) pos) (wRetF w) := by
  refine ps_weak (ps_ret he) fun D σ H ⟨S, B, H0, G0, ρ, μ, E, s, w, r⟩ => ⟨S, B, ρ, μ, _, s.st, w, fun v H1 a e1 g1 ra n q1 => ?_⟩
  have s1 := s.ex e1 g1
  cases ra with
  | dat ra => exact r.rt _ _ _ s1.old g1.open (ra.mono same_open _ _) (fun _ p ds h1 h2 => s.old.dom _ (n p ds h1 (by rw [h2]))) q1
  | _ => exact q1.elim
theorem vs_retN : VS X (.Return none pos) (fun E _ _ => E.rt .none) :=
  ps_weak ps_retN fun D σ H ⟨S, B, H0, G0, ρ, μ, E, s, w, r⟩ => r.rt _ _ _ s.old s.st.gd.open .non (fun _ _ _ e => nomatch e) w
/-! loops -/
def forW (p : Pat) (W : WS) : List PyData → Ends2 → Rho → Mem → Prop
  | [], E, ρ, μ => E.nx ρ μ
  | d :: ds, E, ρ, μ => match bindP p d ρ with
    | some ρ' => W { E with nx := fun ρ μ => forW p W ds E ρ μ, ct := fun ρ μ => forW p W ds E ρ μ, bk := E.nx } ρ' μ
    | none => False
def wFor (wi : WI) (p : Pat) (W : WS) : WS := fun E ρ μ => wi ρ μ fun ds => forW p W ds E ρ μ
theorem vs_for {tg iter : Expr} {body : List Stmt} {wi : WI} (p : Pat) (hp : PassesOwn (model X.prog X.w) X.A X.env X.xe) (hc : X.calm = true) (hi : VI X tg iter wi) (hg : PG X tg (gOf X.K p)) (hb : VSs X body W)
    (hs : ∀ x, foldedSetIterable iter X.env x = pure x := by intro _; rfl) : VS X (.For tg iter body [] pos) (wFor wi p W) := by
  refine ps_weak (ps_for hp hc hi hg hb hs) fun D σ H ⟨S, B, H0, G0, ρ, μ, E, s, w, r⟩ => ⟨S, B, ρ, μ, _, s.st, w, fun J H1 ds e1 g1 ⟨G, Y, wk, hG, hY⟩ q1 => ?_⟩
  have s1 := s.ex e1 g1
  have key : ∀ {σ' H' ρ' μ'}, Sts X.K S B H0 (off B μ H1) σ' H' ρ' μ' → Sts X.K S B H0 G0 σ' H' ρ' μ' := fun z => ⟨z.st, z.old, z.fre, fun a o h => z.vis a o (s1.vis a o h)⟩
  refine for_it (n := ds.length) wk (fun i σ' H' => ∃ ρ' μ', Sts X.K S B H0 (off B μ H1) σ' H' ρ' μ' ∧ forW p W (ds.drop i) E ρ' μ') ⟨ρ, μ, ⟨s1.st, s1.old, s1.fre, Same.refl _⟩, q1⟩ ?_ ?_ ?_
  · rintro i σ' H' hi ⟨ρ', μ', z, _⟩
    exact hG H' fun a o h => off_same _ _ (z.vis a o h)
  · rintro i x σ' H' H2 hi ⟨ρ', μ', z, q⟩ y
    obtain ⟨ex2, g2, d, hd, rd⟩ := hY i H' x H2 B μ' hi z.vis z.st.gd y
    have z2 := z.ex ex2 g2
    have hdr : ds.drop i = d :: ds.drop (i + 1) := by
      obtain ⟨h1, h2⟩ := List.getElem?_eq_some_iff.mp hd
      rw [List.drop_eq_getElem_cons h1, h2]
    rw [hdr] at q
    unfold forW at q
    split at q
    · rename_i ρ2 hb
      refine gOf_ok (S := S) (μ := μ') (G := off B μ' H2) off_same p d ρ' ρ2 x σ' _ hb rd z2.st.sl fun σ2 sl _ => ?_
      refine ⟨S, B, H0, off B μ H1, ρ2, μ', _, ⟨⟨g2, sl⟩, z2.old, z2.fre, z2.vis⟩, q, ⟨?_, ?_, ?_, ?_⟩⟩
      · exact fun σ3 H3 ρ3 μ3 s3 q3 => ⟨ρ3, μ3, s3, q3⟩
      · exact fun σ3 H3 ρ3 μ3 s3 q3 => r.nx _ _ _ _ (key s3) q3
      · exact fun σ3 H3 ρ3 μ3 s3 q3 => ⟨ρ3, μ3, s3, q3⟩
      · exact r.rt
    · exact q.elim
  · rintro σ' H' ⟨ρ', μ', z, q⟩
    rw [List.drop_length] at q
    exact r.nx _ _ _ _ (key z) q
def wWhile (u : WT) (W : WS) : WS := fun E ρ μ => ∃ (I : Rho → Mem → Prop) (m : Rho → Mem → Nat), I ρ μ ∧ ∀ ρ μ, I ρ μ → u ρ μ fun b => if b = true then W { E with nx := fun ρ' μ' => I ρ' μ' ∧ m ρ' μ' < m ρ μ, ct := fun ρ' μ' => I ρ' μ' ∧ m ρ' μ' < m ρ μ, bk := E.nx } ρ μ else E.nx ρ μ
theorem vs_while {c : Expr} {body : List Stmt} {u : WT} (hp : PassesOwn (model X.prog X.w) X.A X.env X.xe) (hc : VT X c u) (hb : VSs X body W) : VS X (.While c body [] pos) (wWhile u W) := by
  refine ps_weak (ps_while hp hc hb) fun D σ H ⟨S, B, H0, G0, ρ, μ, E, s, ⟨I, m, i0, turn⟩, r⟩ => ?_
  refine ⟨fun n σ' H' => ∃ ρ' μ', Sts X.K S B H0 G0 σ' H' ρ' μ' ∧ I ρ' μ' ∧ n = m ρ' μ', ⟨_, ρ, μ, s, i0, rfl⟩, ?_⟩
  rintro n σ' H' ⟨ρ', μ', z, hI, rfl⟩
  refine ⟨S, B, ρ', μ', _, z.st, turn ρ' μ' hI, fun b H1 e1 g1 q1 => ?_⟩
  cases b with
  | false => exact r.nx _ _ _ _ (z.ex e1 g1) q1
  | true =>
    refine ⟨fun σ2 H2 => ∃ ρ2 μ2, Sts X.K S B H0 G0 σ2 H2 ρ2 μ2 ∧ I ρ2 μ2 ∧ m ρ2 μ2 < m ρ' μ', fun σ2 H2 ⟨ρ2, μ2, z2, h1, h2⟩ => ⟨_, h2, ρ2, μ2, z2, h1, rfl⟩, ?_⟩
    exact ⟨S, B, H0, G0, ρ', μ', _, z.ex e1 g1, q1, ⟨fun σ3 H3 ρ3 μ3 s3 q3 => ⟨ρ3, μ3, s3, q3⟩, fun σ3 H3 ρ3 μ3 s3 q3 => r.nx _ _ _ _ s3 q3, fun σ3 H3 ρ3 μ3 s3 q3 => ⟨ρ3, μ3, s3, q3⟩, r.rt⟩⟩
/-- a word of one's own for a statement -/
theorem vs_weak {U : WS} (h : VS X st W) (k : ∀ E ρ μ, U E ρ μ → W E ρ μ) : VS X st U := ps_weak h fun D σ H ⟨S, B, H0, G0, ρ, μ, E, s, w, r⟩ => ⟨S, B, H0, G0, ρ, μ, E, s, k E ρ μ w, r⟩
theorem vss_weak {U : WS} (h : VSs X rest W) (k : ∀ E ρ μ, U E ρ μ → W E ρ μ) : VSs X rest U := pss_weak h fun D σ H ⟨S, B, H0, G0, ρ, μ, E, s, w, r⟩ => ⟨S, B, H0, G0, ρ, μ, E, s, k E ρ μ w, r⟩
/-- slots are forgotten -/
theorem forget (i : Nat) {K : PySem.W.Frag} {S B : Hid} {H0 G0 H : Hp} {σ : L2.St} {ρ : Rho} {μ : Mem} (s : Sts K S B H0 G0 σ H ρ μ) : Sts K S B H0 G0 σ H (ρ.set i none) μ := ⟨⟨s.st.gd, s.st.sl.forget i⟩, s.old, s.fre, s.vis⟩
end
/-! ### a def -/
def startA (N : List Str) (as : List A) : Rho := as.map some ++ List.replicate (N.length - as.length) none
theorem fnD {P : Program} {w : World} {K : PySem.W.Frag} {mg : Str → Option Value} {base : Heap} {x qual : Str} {st : Stmt} {f : Addr} {fd : FuncData} {N ps : List Str} {k : Nat} {fr : Bool} {F : FS} {W : WS}
    (Fn : Fun K x qual st f fd) (Sc : FnScope N ps (defScope st)) (len : ∀ as Q, F as Q → as.length = ps.length)
    (hbody : ∀ (cdv : Value) (A : Around) (outer : List Env) (s : Shared) (H : Hp) (E : XK), Room k (A.deeper (envOfC qual (defScope st) s.heap.objs.size f cdv)) → VSs (cxOf CX0 P w K mg base N qual (defScope st) f cdv A outer s H E).nox (defBody st) W)
    (hw : ∀ as Q, F as Q → W { nx := fun _ _ => Q .none, rt := Q, fr := fr } (startA N as) emp) : FnOk P w K mg base CX0 (k + 1) f fd ps (spD K fr F) := by
  refine Fn.ok Sc (fun vs H Q E h => ?_) (fun cdv A outer s H vs Q E hr h => ?_)
  · obtain ⟨S, B, as, Q2, _, h2, h3, _⟩ := h
    rw [h2.len]
    exact len _ _ h3
  · obtain ⟨S, B, as, Q2, h1, h2, h3, h4⟩ := h
    refine ⟨_, hbody cdv A outer s H E hr, S, B, H, off B emp H, startA N as, emp, _, ⟨⟨h1, ?_⟩, .refl, fun _ _ => rfl, Same.refl _⟩, hw as Q2 h3, ⟨?_, ?_, ?_, ?_⟩⟩
    · have q := Sls.start (N.length - vs.length) h2
      unfold L2.start startA
      rw [h2.len] at q ⊢
      exact q
    · intro σ' H' ρ' μ' z q
      exact h4 _ _ _ z.old z.st.gd.open .non (fun _ _ _ e => nomatch e) q
    · exact fun _ _ _ _ _ q => q.elim
    · exact fun _ _ _ _ _ q => q.elim
    · exact fun v H' d e g r n q => h4 v H' d e g r n q
end Hv

set_option Elab.async false
set_option linter.all false
set_option maxRecDepth 100000
namespace Hv
open PySem PySem.Spec PyProof.Rows L2 Hod
/-! ### the law's own draws -/
def DrawC (H : Hp) (d c : Addr) (ns : List Int) : Prop := ∃ (i : Nat) (big seed : Int), H d = some (.lst [.ref c, .int i, .int big, .int seed]) ∧ H c = some (.lst (ns.map V.int)) ∧ 0 ≤ big ∧ 0 ≤ seed ∧ seed < 2147483647
def spPull : Sp := fun vs H Q _ => ∃ (d : Addr) (n : Int) (c : Addr) (ns : List Int), vs = [.ref d, .int n] ∧ 0 < n ∧ n < 1073741824 ∧ DrawC H d c ns ∧ ∀ (r : Int) (H2 : Hp), Sb d H H2 → DrawC H2 d c ns → 0 ≤ r → r < n → Q (.int r) H2
def spOpen (K : PySem.W.Frag) : Sp := fun vs H Q _ => ∃ (a : Addr) (ns : List Int), vs = [.ref a] ∧ SqL K H a (ns.map V.int) ∧ ns.length ≤ 63 ∧ ∀ (d c : Addr) (H2 : Hp), Same H H2 → H d = none → H c = none → DrawC H2 d c ns → Q (.ref d) H2
/-- a number below n -/
def Fpull : FS := fun as Q => ∃ n : Int, as = [.drw, .dat (.int n)] ∧ 0 < n ∧ n < 1073741824 ∧ ∀ r : Int, 0 ≤ r → r < n → Q (.int r)
theorem pull_spD {K : PySem.W.Frag} (vs : List V) (H : Hp) (Q : VK) (E : XK) (h : spD K false Fpull vs H Q E) : spPull vs H Q E := by
  obtain ⟨S, B, as, Q2, g, rs, ⟨n, rfl, n0, n1, k⟩, fin⟩ := h
  cases rs with
  | cons r1 rs =>
    cases rs with
    | cons r2 rs =>
      cases rs
      cases r1 with
      | @drw d sd =>
        cases r2 with
        | dat r2 =>
          cases r2
          obtain ⟨bd, c, ns, i, big, seed, h1, h2, h3⟩ := g.dr d sd
          obtain ⟨bc, mc, hc⟩ := off_some h2
          refine ⟨d, n, c, ns, rfl, n0, n1, ⟨i, big, seed, h1, hc, h3⟩, fun r H2 sb ⟨i2, big2, seed2, k1, k2, k3⟩ r0 r1 => ?_⟩
          have ex : Ex S H H2 := by
            refine ⟨fun a o sa ha => sb a o (fun e => by rw [e, sd] at sa; cases sa) ha, fun a ha => ?_, fun a c2 r2 sa ha => ?_⟩
            · cases q : H a with
              | none => rfl
              | some o =>
                by_cases e : a = d
                · rw [e, k1] at ha; cases ha
                · rw [sb a o e q] at ha; cases ha
            · by_cases e : a = d
              · subst e
                rw [h1] at ha
                cases ha
                exact ⟨_, k1⟩
              · exact ⟨r2, sb a _ e ha⟩
          have g2 : Good K S B emp H2 := by
            have so := ex.off g
            refine ⟨fun a sa => ?_, fun a ba hn => g.bd a ba (ex.dom a hn), fun a xs q => nomatch q⟩
            by_cases e : a = d
            · subst e
              exact ⟨bd, c, ns, i2, big2, seed2, k1, so _ _ h2, k3⟩
            · obtain ⟨ba, c', ns', i', big', seed', q1, q2, q3⟩ := g.dr a sa
              exact ⟨ba, c', ns', i', big', seed', sb a _ e q1, so _ _ q2, q3⟩
          exact fin _ _ _ ex g2 (.int r) (fun e => nomatch e) (k r r0 r1)
/-! ### defs as their callers know them -/
def Dfn (P : Program) (w : World) (K : PySem.W.Frag) (mg : Str → Option Value) (base : Heap) (k : Nat) (x : Str) (ps : List Str) (sp : Sp) : Prop :=
  ∃ f fd, FnOk P w K mg base CX0 k f fd ps sp ∧ mg x = some (.ref f) ∧ PySem.W.keepIn K (.ref f) = true ∧ Binds K fd ps []
/-- where a def stands -/
def Raw (K : PySem.W.Frag) (mg : Str → Option Value) (x : Str) (st : Stmt) (ps : List Str) (f : Addr) (fd : FuncData) : Prop := Fun K x x st f fd ∧ mg x = some (.ref f) ∧ Binds K fd ps []
/-! ### like -/
mutual
def like : PyData → PyData → Bool
  | .none, .none => true
  | .bool a, .bool b => decide (a = b)
  | .int a, .int b => decide (a = b)
  | .str a, .str b => decide (a = b)
  | .list as, .list bs => likes as bs
  | .tuple as, .tuple bs => likes as bs
  | _, _ => false
def likes : List PyData → List PyData → Bool
  | [], [] => true
  | a :: as, b :: bs => like a b && likes as bs
  | _, _ => false
end
mutual
def dep : PyData → Nat
  | .list ds => if ds.length ≤ 100000 then deps ds + 1 else 1000
  | .tuple ds => if ds.length ≤ 100000 then deps ds + 1 else 1000
  | .dict _ => 1000
  | _ => 0
def deps : List PyData → Nat
  | [] => 0
  | d :: ds => max (dep d) (deps ds)
end
mutual
theorem like_refl : ∀ d : PyData, dep d < 1000 → like d d = true
  | .none, _ => rfl
  | .bool a, _ => by simp [like]
  | .int a, _ => by simp [like]
  | .str a, _ => by simp [like]
  | .list as, h => by unfold like; exact likes_refl as (by unfold dep at h; split at h <;> omega)
  | .tuple as, h => by unfold like; exact likes_refl as (by unfold dep at h; split at h <;> omega)
  | .dict _, h => by unfold dep at h; omega
theorem likes_refl : ∀ ds : List PyData, deps ds < 1000 → likes ds ds = true
  | [], _ => rfl
  | d :: ds, h => by
    unfold likes
    unfold deps at h
    rw [like_refl d (by omega), likes_refl ds (by omega)]
    rfl
end
theorem deps_le {ds : List PyData} {n : Nat} (h : deps ds ≤ n) : ∀ d ∈ ds, dep d ≤ n := by
  induction ds with
  | nil => intro d hd; cases hd
  | cons e es ih =>
    unfold deps at h
    intro d hd
    rcases List.mem_cons.mp hd with rfl | hd
    · omega
    · exact ih (by omega) d hd
theorem dep_lst {ds : List PyData} {n : Nat} (h : dep (.list ds) < n) (hn : n ≤ 1000) : ds.length ≤ 100000 ∧ deps ds < n - 1 := by
  unfold dep at h
  split at h
  · rename_i hl; exact ⟨hl, by omega⟩
  · omega
theorem dep_tup {ds : List PyData} {n : Nat} (h : dep (.tuple ds) < n) (hn : n ≤ 1000) : ds.length ≤ 100000 ∧ deps ds < n - 1 := by
  unfold dep at h
  split at h
  · rename_i hl; exact ⟨hl, by omega⟩
  · omega
theorem dep_lst_of {ds : List PyData} {n : Nat} (h1 : ds.length ≤ 100000) (h2 : deps ds < n) : dep (.list ds) < n + 1 := by
  unfold dep
  rw [if_pos h1]
  omega
theorem dep_tup_of {ds : List PyData} {n : Nat} (h1 : ds.length ≤ 100000) (h2 : deps ds < n) : dep (.tuple ds) < n + 1 := by
  unfold dep
  rw [if_pos h1]
  omega
theorem deps_lt {ds : List PyData} {n : Nat} (h : ∀ d ∈ ds, dep d < n) (h0 : 0 < n) : deps ds < n := by
  induction ds with
  | nil => exact h0
  | cons e es ih =>
    unfold deps
    have h1 := h e (by simp)
    have h2 := ih fun d hd => h d (by simp [hd])
    omega
theorem likes_len : ∀ {as bs : List PyData}, likes as bs = true → as.length = bs.length
  | [], [], _ => rfl
  | a :: as, b :: bs, h => by
    unfold likes at h
    rw [Bool.and_eq_true] at h
    simp [likes_len h.2]
  | [], _ :: _, h => by cases h
  | _ :: _, [], h => by cases h
/-- _law_like: of pure things, the due ones of depth n at most -/
def Flike (n : Nat) : FS := fun as Q => ∃ f d, as = [.dat f, .dat d] ∧ dep d < n ∧ dep f < 1000 ∧ Q (.bool (like f d))
def Fnum : FS := fun as Q => ∃ d, as = [.dat d] ∧ dep d < 1000 ∧ Q (.bool (match d with | .int _ => true | _ => false))
theorem lcF_yes {p : Pat} {we : WE} {ρ ρ' : Rho} {μ : Mem} {d : PyData} {R : Option PyData → Prop} (hb : bindP p d ρ = some ρ') (h : we ρ' μ (fun a => match a with | .dat e => R (some e) | _ => False)) : lcF p wYes we ρ μ d R := by
  unfold lcF
  rw [hb]
  exact h
theorem lcF_if {p : Pat} {wt : WT} {we : WE} {ρ ρ' : Rho} {μ : Mem} {d : PyData} {R : Option PyData → Prop} (hb : bindP p d ρ = some ρ') (h : wt ρ' μ fun b => if b = true then we ρ' μ (fun a => match a with | .dat e => R (some e) | _ => False) else R none) : lcF p wt we ρ μ d R := by
  unfold lcF
  rw [hb]
  exact h
/-- by the number -/
def onI (f : Nat → PyData) : PyData → PyData
  | .int i => f i.toNat
  | _ => .none
theorem map_onI (f : Nat → PyData) (n : Nat) : (rng 0 n).map (onI f) = (List.range n).map f := by
  unfold rng
  rw [List.map_map]
  refine List.map_congr_left fun i _ => ?_
  show f ((0 + (i : Int)).toNat) = f i
  rw [show (0 + (i : Int)).toNat = i by omega]
theorem mem_rng {n : Nat} {d : PyData} (h : d ∈ rng 0 n) : ∃ i : Nat, i < n ∧ d = .int (i : Nat) := by
  unfold rng at h
  obtain ⟨i, hi, rfl⟩ := List.mem_map.mp h
  exact ⟨i, List.mem_range.mp hi, by rw [show (0 : Int) + (i : Nat) = (i : Nat) by omega]⟩
@[simp] theorem rng_len {lo : Int} {n : Nat} : (rng lo n).length = n := by simp [rng]
/-- what a comprehension over i in range(n) makes by a plain function -/
theorem lcW_map {f : PyData → (Option PyData → Prop) → Prop} {g : PyData → PyData} {ds : List PyData} {Q : List PyData → Prop} (hf : ∀ d ∈ ds, ∀ R : Option PyData → Prop, R (some (g d)) → f d R) (h : Q (ds.map g)) : lcW f ds Q := by
  induction ds generalizing Q with
  | nil => exact h
  | cons d ds ih =>
    refine hf d (by simp) _ ?_
    exact ih (fun e he R => hf e (by simp [he]) R) h
/-- .. with a test -/
theorem lcW_fm {f : PyData → (Option PyData → Prop) → Prop} {g : PyData → Option PyData} {ds : List PyData} {Q : List PyData → Prop} (hf : ∀ d ∈ ds, ∀ R : Option PyData → Prop, R (g d) → f d R) (h : Q (ds.filterMap g)) : lcW f ds Q := by
  induction ds generalizing Q with
  | nil => exact h
  | cons d ds ih =>
    refine hf d (by simp) _ ?_
    refine ih (fun e he R => hf e (by simp [he]) R) ?_
    cases q : g d with
    | none => rw [List.filterMap_cons_none q] at h; exact h
    | some e => rw [List.filterMap_cons_some q] at h; exact h
/-- .. of some things of a kind -/
theorem lcW_all {f : PyData → (Option PyData → Prop) → Prop} {P : PyData → Prop} {ds : List PyData} {Q : List PyData → Prop} (hf : ∀ d ∈ ds, ∀ R : Option PyData → Prop, (∀ e, P e → R (some e)) → f d R) (h : ∀ es : List PyData, es.length = ds.length → (∀ e ∈ es, P e) → Q es) : lcW f ds Q := by
  induction ds generalizing Q with
  | nil => exact h [] rfl (by simp)
  | cons d ds ih =>
    refine hf d (by simp) _ fun e pe => ?_
    refine ih (fun e he R => hf e (by simp [he]) R) fun es hl ha => ?_
    refine h (e :: es) (by simp [hl]) fun z hz => ?_
    rcases List.mem_cons.mp hz with rfl | hz
    · exact pe
    · exact ha z hz
end Hv

set_option Elab.async false
set_option linter.all false
set_option maxRecDepth 100000
namespace Hv
open PySem PySem.Spec PyProof.Rows L2 Hod
/-! ### what surely evaluates to what -/
def Evs (w : WE) (ρ : Rho) (μ : Mem) (a : A) : Prop := ∀ Q : A → Prop, Q a → w ρ μ Q
def EvAs (w : WA) (ρ : Rho) (μ : Mem) (as : List A) : Prop := ∀ Q : List A → Prop, Q as → w ρ μ Q
def EvTs (w : WT) (ρ : Rho) (μ : Mem) (b : Bool) : Prop := ∀ Q : Bool → Prop, Q b → w ρ μ Q
def EvIs (w : WI) (ρ : Rho) (μ : Mem) (ds : List PyData) : Prop := ∀ Q : List PyData → Prop, Q ds → w ρ μ Q
def EvOs (w : WO) (ρ : Rho) (μ : Mem) (o : Option Int) : Prop := ∀ Q : Option Int → Prop, Q o → w ρ μ Q
section
variable {ρ : Rho} {μ : Mem} {w wa wb wc : WE} {a b : A} {i j : Int} {d e : PyData} {ds es : List PyData} {t u : WT} {k l : Bool}
theorem EvTs.eq (h : EvTs t ρ μ k) (e : k = l) : EvTs t ρ μ l := e ▸ h
theorem EvIs.eq {w : WI} (h : EvIs w ρ μ ds) (e : ds = es) : EvIs w ρ μ es := e ▸ h
theorem Evs.eq (h : Evs w ρ μ a) (e : a = b) : Evs w ρ μ b := e ▸ h
theorem ev_v {n : Nat} (h : ρ[n]? = some (some a) := by rfl) : Evs (wVar n) ρ μ a := fun Q q => by unfold wVar; rw [h]; exact q
theorem ev_k : Evs (wC d) ρ μ (.dat d) := fun Q q => q
theorem ev_ty {n : String} : Evs (wTy n) ρ μ (.ty n) := fun Q q => q
theorem ev_I {f : Int → Int → PyData} (h1 : Evs wa ρ μ (.dat (.int i))) (h2 : Evs wb ρ μ (.dat (.int j))) : Evs (wOp (gI f) wa wb) ρ μ (.dat (f i j)) := fun Q q => h1 _ (h2 _ q)
theorem ev_C {C : Int → Int → Prop} {f : Int → Int → PyData} (h1 : Evs wa ρ μ (.dat (.int i))) (h2 : Evs wb ρ μ (.dat (.int j))) (c : C i j) : Evs (wOp (gC C f) wa wb) ρ μ (.dat (f i j)) := fun Q q => h1 _ (h2 _ ⟨c, q⟩)
theorem ev_neg (h1 : Evs wa ρ μ (.dat (.int i))) : Evs (wUn (fun i => -i) wa) ρ μ (.dat (.int (-i))) := fun Q q => h1 _ q
theorem ev_eq (h1 : Evs wa ρ μ (.dat d)) (h2 : Evs wb ρ μ (.dat e)) (h : eqF d e = some k) : Evs (wOp gEq wa wb) ρ μ (.dat (.bool k)) := fun Q q => h1 _ (h2 _ (by show (match eqF d e with | some k => _ | none => False); rw [h]; exact q))
theorem ev_ne (h1 : Evs wa ρ μ (.dat d)) (h2 : Evs wb ρ μ (.dat e)) (h : eqF d e = some k) : Evs (wOp gNe wa wb) ρ μ (.dat (.bool (!k))) := fun Q q => h1 _ (h2 _ (by show (match eqF d e with | some k => _ | none => False); rw [h]; exact q))
theorem ev_eqI (h1 : Evs wa ρ μ (.dat (.int i))) (h2 : Evs wb ρ μ (.dat (.int j))) : Evs (wOp gEq wa wb) ρ μ (.dat (.bool (decide (i = j)))) := ev_eq h1 h2 rfl
theorem ev_neI (h1 : Evs wa ρ μ (.dat (.int i))) (h2 : Evs wb ρ μ (.dat (.int j))) : Evs (wOp gNe wa wb) ρ μ (.dat (.bool (!decide (i = j)))) := ev_ne h1 h2 rfl
theorem ev_eqD (h1 : Evs wa ρ μ a) (h2 : Evs wb ρ μ b) (r1 : rsv μ a = some d) (r2 : rsv μ b = some e) (s1 : SeqAt.shaped d = true) (s2 : SeqAt.shaped e = true) : Evs (wOp gEqD wa wb) ρ μ (.dat (.bool (PyData.eqv d e))) := fun Q q => h1 _ (h2 _ ⟨d, e, r1, r2, s1, s2, q⟩)
theorem ev_neD (h1 : Evs wa ρ μ a) (h2 : Evs wb ρ μ b) (r1 : rsv μ a = some d) (r2 : rsv μ b = some e) (s1 : SeqAt.shaped d = true) (s2 : SeqAt.shaped e = true) : Evs (wOp gNeD wa wb) ρ μ (.dat (.bool (!PyData.eqv d e))) := fun Q q => h1 _ (h2 _ ⟨d, e, r1, r2, s1, s2, q⟩)
theorem ev_isN (h1 : Evs wa ρ μ a) : Evs (wOp gIsN wa (wC .none)) ρ μ (.dat (.bool (isNoneA a))) := fun Q q => h1 _ q
theorem ev_notN (h1 : Evs wa ρ μ a) : Evs (wOp gNotN wa (wC .none)) ρ μ (.dat (.bool (!isNoneA a))) := fun Q q => h1 _ q
theorem ev_ixL (h1 : Evs wa ρ μ (.dat (.list ds))) (h2 : Evs wb ρ μ (.dat (.int i))) (h : atI ds i = some d) : Evs (wOp gIx wa wb) ρ μ (.dat d) := fun Q q => h1 _ (h2 _ (by show (match atI ds i with | some d => _ | none => False); rw [h]; exact q))
theorem ev_ixT (h1 : Evs wa ρ μ (.dat (.tuple ds))) (h2 : Evs wb ρ μ (.dat (.int i))) (h : atI ds i = some d) : Evs (wOp gIx wa wb) ρ μ (.dat d) := fun Q q => h1 _ (h2 _ (by show (match atI ds i with | some d => _ | none => False); rw [h]; exact q))
theorem ev_ixO {p : Addr} {xs : List A} (h1 : Evs wa ρ μ (.own p)) (h2 : Evs wb ρ μ (.dat (.int i))) (hp : μ p = some xs) (h : atI xs i = some a) : Evs (wOp gIx wa wb) ρ μ a := fun Q q => h1 _ (h2 _ (by show (match μ p with | some xs => (match atI xs i with | some d => _ | none => False) | none => False); rw [hp]; show (match atI xs i with | some d => _ | none => False); rw [h]; exact q))
theorem ev_in {neg : Bool} (h1 : Evs wa ρ μ (.dat d)) (h2 : Evs wb ρ μ b) (h : seqA μ b = some ds) (f1 : flatD d = true) (f2 : ds.all flatD = true) : Evs (wOp (gIn neg) wa wb) ρ μ (.dat (.bool (if neg then !(ds.any fun z => PyData.eqv z d) else ds.any fun z => PyData.eqv z d))) :=
  fun Q q => h1 _ (h2 _ (by show (match seqA μ b with | some ds => _ | none => False); rw [h]; exact ⟨f1, f2, q⟩))
theorem ev_cat (h1 : Evs wa ρ μ (.dat (.list ds))) (h2 : Evs wb ρ μ (.dat (.list es))) (h : ds.length + es.length ≤ 1000000) : Evs (wOp gCat wa wb) ρ μ (.dat (.list (ds ++ es))) := fun Q q => h1 _ (h2 _ ⟨h, q⟩)
theorem ev_and (h1 : Evs wa ρ μ (.dat (.bool k))) (h2 : k = true → Evs wb ρ μ (.dat (.bool l))) : Evs (wAndE wa wb) ρ μ (.dat (.bool (k && l))) := fun Q q => h1 _ (by
  cases k with
  | true => exact h2 rfl _ q
  | false => exact q)
theorem ev_or (h1 : Evs wa ρ μ (.dat (.bool k))) (h2 : k = false → Evs wb ρ μ (.dat (.bool l))) : Evs (wOrE wa wb) ρ μ (.dat (.bool (k || l))) := fun Q q => h1 _ (by
  cases k with
  | false => exact h2 rfl _ q
  | true => exact q)
theorem ev_not (h1 : Evs wa ρ μ (.dat (.bool k))) : Evs (wNotE wa) ρ μ (.dat (.bool (!k))) := fun Q q => h1 _ q
theorem ev_if (h : EvTs t ρ μ k) (h1 : k = true → Evs wa ρ μ a) (h2 : k = false → Evs wb ρ μ a) : Evs (wIf t wa wb) ρ μ a := fun Q q => h _ (by
  cases k with
  | true => exact h1 rfl _ q
  | false => exact h2 rfl _ q)
theorem ev_chain {f g : Int → Int → Bool} {m : Int} (h1 : Evs wa ρ μ (.dat (.int i))) (h2 : Evs wb ρ μ (.dat (.int j))) (h3 : f i j = true → Evs wc ρ μ (.dat (.int m))) : Evs (wChain (gI fun i j => .bool (f i j)) (gI fun i j => .bool (g i j)) wa wb wc) ρ μ (.dat (.bool (f i j && g j m))) := fun Q q => h1 _ (h2 _ (by
  show (match A.dat (.bool (f i j)) with | .dat (.bool true) => wc ρ μ fun c => gI (fun i j => .bool (g i j)) μ (.dat (.int j)) c Q | .dat (.bool false) => Q (.dat (.bool false)) | _ => False)
  cases e : f i j with
  | true => rw [e] at q; exact h3 e _ q
  | false => rw [e] at q; exact q))
theorem et_B (h : Evs w ρ μ (.dat (.bool k))) : EvTs (wB w) ρ μ k := fun Q q => h _ q
theorem et_and (h1 : EvTs t ρ μ k) (h2 : k = true → EvTs u ρ μ l) : EvTs (wAndT t u) ρ μ (k && l) := fun Q q => h1 _ (by
  cases k with
  | true => exact h2 rfl _ q
  | false => exact q)
theorem et_or (h1 : EvTs t ρ μ k) (h2 : k = false → EvTs u ρ μ l) : EvTs (wOrT t u) ρ μ (k || l) := fun Q q => h1 _ (by
  cases k with
  | false => exact h2 rfl _ q
  | true => exact q)
theorem et_not (h1 : EvTs t ρ μ k) : EvTs (wNotT t) ρ μ (!k) := fun Q q => h1 _ q
theorem et_tru (h : Evs w ρ μ a) (hk : truA μ a = some k) : EvTs (wTru w) ρ μ k := fun Q q => h _ (by show (match truA μ a with | some k => Q k | none => False); rw [hk]; exact q)
theorem ea_nil : EvAs waNil ρ μ [] := fun Q q => q
theorem ea_cons {v : WA} {as : List A} (h1 : Evs w ρ μ a) (h2 : EvAs v ρ μ as) : EvAs (waCons w v) ρ μ (a :: as) := fun Q q => h1 _ (h2 _ q)
theorem ev_tup {v : WA} {as : List A} (h : EvAs v ρ μ as) (hd : dats as = some ds := by rfl) (hl : as.length ≤ 1000 := by exact Nat.le_of_ble_eq_true rfl) : Evs (wTup v) ρ μ (.dat (.tuple ds)) := fun Q q => h _ (by show (match dats as with | some ds => _ | none => False); rw [hd]; exact ⟨hl, q⟩)
theorem ev_lst {v : WA} {as : List A} (h : EvAs v ρ μ as) (hd : dats as = some ds := by rfl) (hl : as.length ≤ 1000 := by exact Nat.le_of_ble_eq_true rfl) : Evs (wLst v) ρ μ (.dat (.list ds)) := fun Q q => h _ (by show (match dats as with | some ds => _ | none => False); rw [hd]; exact ⟨hl, q⟩)
theorem ev_len {n : Nat} (h : Evs w ρ μ a) (hn : lenA μ a = some n) : Evs (wCB gLen (waCons w waNil)) ρ μ (.dat (.int n)) := fun Q q => h _ (by show (match lenA μ a with | some n => _ | none => False); rw [hn]; exact q)
theorem ev_list (h : Evs w ρ μ a) (hn : seqA μ a = some ds) : Evs (wCB gList (waCons w waNil)) ρ μ (.dat (.list ds)) := fun Q q => h _ (by show (match seqA μ a with | some n => _ | none => False); rw [hn]; exact q)
theorem ev_tuple (h : Evs w ρ μ a) (hn : seqA μ a = some ds) : Evs (wCB gTuple (waCons w waNil)) ρ μ (.dat (.tuple ds)) := fun Q q => h _ (by show (match seqA μ a with | some n => _ | none => False); rw [hn]; exact q)
theorem ev_all {bs : List Bool} (h : Evs w ρ μ (.dat (.list (bs.map PyData.bool)))) : Evs (wCB gAll (waCons w waNil)) ρ μ (.dat (.bool (bs.all id))) := fun Q q => h _ (by show (match boolsD (bs.map PyData.bool) with | some bs => Q (.dat (.bool (bs.all id))) | none => False); rw [bools_map]; exact q)
theorem ev_sum {bs : List Int} (h : Evs w ρ μ (.dat (.list (bs.map PyData.int)))) : Evs (wCB gSum (waCons w waNil)) ρ μ (.dat (.int bs.sum)) := fun Q q => h _ (by show (match intsD (bs.map PyData.int) with | some bs => Q (.dat (.int bs.sum)) | none => False); rw [ints_map]; exact q)
theorem ev_min (h1 : Evs wa ρ μ (.dat (.int i))) (h2 : Evs wb ρ μ (.dat (.int j))) : Evs (wCB gMin2 (waCons wa (waCons wb waNil))) ρ μ (.dat (.int (if j < i then j else i))) := fun Q q => h1 _ (h2 _ q)
theorem ev_max (h1 : Evs wa ρ μ (.dat (.int i))) (h2 : Evs wb ρ μ (.dat (.int j))) : Evs (wCB gMax2 (waCons wa (waCons wb waNil))) ρ μ (.dat (.int (if j > i then j else i))) := fun Q q => h1 _ (h2 _ q)
theorem x_call {F : FS} {v : WA} {as : List A} {Q : A → Prop} (h : EvAs v ρ μ as) (hF : F as fun d => Q (.dat d)) (hn : noOwn as = true := by rfl) : wCall F v ρ μ Q := h _ (by show wF F μ as Q; unfold wF; rw [if_pos hn]; exact hF)
/-- a call that is given lists of one's own: its answer is a flat thing -/
theorem x_callO {F : FS} {v : WA} {as bs : List A} {Q : A → Prop} (h : EvAs v ρ μ as) (hr : rsvs μ as = some bs) (hF : F bs fun d => flatD d = true ∧ Q (.dat d)) (hn : noOwn as = false := by rfl) : wCall F v ρ μ Q := h _ (by show wF F μ as Q; unfold wF; rw [hn, if_neg (by decide), hr]; exact hF)
theorem ev_call {F : FS} {v : WA} {as : List A} (h : EvAs v ρ μ as) (hF : ∀ Q : PyData → Prop, Q d → F as Q) (hn : noOwn as = true := by rfl) : Evs (wCall F v) ρ μ (.dat d) := fun Q q => x_call h (hF _ q) hn
theorem ev_callO {F : FS} {v : WA} {as bs : List A} (h : EvAs v ρ μ as) (hr : rsvs μ as = some bs) (hF : ∀ Q : PyData → Prop, Q d → F bs Q) (hd : flatD d = true) (hn : noOwn as = false := by rfl) : Evs (wCall F v) ρ μ (.dat d) := fun Q q => x_callO h hr (hF _ ⟨hd, q⟩) hn
theorem ei_T (h : Evs w ρ μ (.dat (.tuple ds))) : EvIs (wiT w) ρ μ ds := fun Q q => h _ q
theorem ei_L (h : Evs w ρ μ (.dat (.list ds))) : EvIs (wiL w) ρ μ ds := fun Q q => h _ q
theorem ei_R1 (h : Evs w ρ μ (.dat (.int i))) (h1 : -1000000 ≤ i) (h2 : i ≤ 1000000) : EvIs (wiR1 (waCons w waNil)) ρ μ (rng 0 i.toNat) := fun Q q => h _ ⟨⟨by omega, by omega⟩, q⟩
theorem ei_R2 (h : Evs wa ρ μ (.dat (.int i))) (h' : Evs wb ρ μ (.dat (.int j))) (h1 : -1000000 ≤ i ∧ i ≤ 1000000) (h2 : -1000000 ≤ j ∧ j ≤ 1000000) : EvIs (wiR2 (waCons wa (waCons wb waNil))) ρ μ (rng i (j - i).toNat) := fun Q q => h _ (h' _ ⟨⟨by omega, by omega, by omega, by omega⟩, q⟩)
theorem ei_E (h : Evs w ρ μ (.dat (.list ds))) : EvIs (wiE (waCons w waNil)) ρ μ (enumD ds) := fun Q q => h _ q
theorem ei_ET (h : Evs w ρ μ (.dat (.tuple ds))) : EvIs (wiET (waCons w waNil)) ρ μ (enumD ds) := fun Q q => h _ q
theorem eo_n : EvOs woNone ρ μ none := fun Q q => q
theorem eo_s (h : Evs w ρ μ (.dat (.int i))) : EvOs (woSome w) ρ μ (some i) := fun Q q => h _ q
theorem ev_slL {wl wh : WO} {lo hi : Option Int} (h : Evs w ρ μ (.dat (.list ds))) (h1 : EvOs wl ρ μ lo) (h2 : EvOs wh ρ μ hi) : Evs (wSlL w wl wh) ρ μ (.dat (.list (cutD ds lo hi))) := fun Q q => h _ (h1 _ (h2 _ q))
theorem ev_slT {wl wh : WO} {lo hi : Option Int} (h : Evs w ρ μ (.dat (.tuple ds))) (h1 : EvOs wl ρ μ lo) (h2 : EvOs wh ρ μ hi) (hn : ¬ (HT.sIx ds.length 0 lo = 0 ∧ HT.sIx ds.length ds.length hi = ds.length)) : Evs (wSlT w wl wh) ρ μ (.dat (.tuple (cutD ds lo hi))) := fun Q q => h _ (h1 _ (h2 _ ⟨hn, q⟩))
/-- a comprehension of a plain function -/
theorem ev_lcm {wi : WI} {p : Pat} {we : WE} {vs : List Nat} {g : PyData → PyData} (hi : EvIs wi ρ μ ds) (hl : ds.length ≤ 1000000) (h : ∀ d ∈ ds, ∃ ρ', bindP p d (wipeA ρ vs) = some ρ' ∧ Evs we ρ' μ (.dat (g d))) : Evs (wLc wi p wYes we vs) ρ μ (.dat (.list (ds.map g))) :=
  fun Q q => hi _ ⟨hl, lcW_map (g := g) (fun d hd R r => by obtain ⟨ρ', h1, h2⟩ := h d hd; exact lcF_yes h1 (h2 _ r)) q⟩
theorem ev_lcf {wi : WI} {p : Pat} {wt : WT} {we : WE} {vs : List Nat} {g : PyData → Option PyData} (hi : EvIs wi ρ μ ds) (hl : ds.length ≤ 1000000) (h : ∀ d ∈ ds, ∃ ρ', bindP p d (wipeA ρ vs) = some ρ' ∧ ((∃ e, g d = some e ∧ EvTs wt ρ' μ true ∧ Evs we ρ' μ (.dat e)) ∨ (g d = none ∧ EvTs wt ρ' μ false))) : Evs (wLc wi p wt we vs) ρ μ (.dat (.list (ds.filterMap g))) :=
  fun Q q => hi _ ⟨hl, lcW_fm (g := g) (fun d hd R r => by
    obtain ⟨ρ', h1, h2⟩ := h d hd
    rcases h2 with ⟨e, h2, h3, h4⟩ | ⟨h2, h3⟩
    · rw [h2] at r; exact lcF_if h1 (h3 _ (h4 _ r))
    · rw [h2] at r; exact lcF_if h1 (h3 _ r)) q⟩
/-- things of a kind, whatever was drawn -/
theorem x_lca {wi : WI} {p : Pat} {we : WE} {vs : List Nat} {P : PyData → Prop} {Q : A → Prop} (hi : EvIs wi ρ μ ds) (hl : ds.length ≤ 1000000) (h : ∀ d ∈ ds, ∃ ρ', bindP p d (wipeA ρ vs) = some ρ' ∧ ∀ R : A → Prop, (∀ e, P e → R (.dat e)) → we ρ' μ R) (q : ∀ es : List PyData, es.length = ds.length → (∀ e ∈ es, P e) → Q (.dat (.list es))) : wLc wi p wYes we vs ρ μ Q :=
  hi _ ⟨hl, lcW_all (P := P) (fun d hd R r => by obtain ⟨ρ', h1, h2⟩ := h d hd; exact lcF_yes h1 (h2 _ r)) q⟩
/-! ### statements -/
variable {E : Ends2} {W W2 : WS}
theorem x_set {n : Nat} (h : Evs w ρ μ a) (q : E.nx (ρ.set n (some a)) μ) : wSet n w E ρ μ := h _ q
theorem x_if (h : EvTs t ρ μ k) (h1 : k = true → W E ρ μ) (h2 : k = false → W2 E ρ μ) : wIfS t W W2 E ρ μ := h _ (by
  cases k with
  | true => exact h1 rfl
  | false => exact h2 rfl)
theorem x_ret (h : Evs w ρ μ a) (q : retA E μ a) : wRet w E ρ μ := h _ q
theorem x_retF (h : Evs w ρ μ (.dat d)) (q : E.rt d) : wRetF w E ρ μ := h _ q
theorem x_own {n : Nat} (h : Evs w ρ μ (.dat (.list ds))) (hn : nols ds = true) (q : ∀ p, μ p = none → E.nx (ρ.set n (some (.own p))) (put μ p (ds.map .dat))) : wOwn n w E ρ μ := h _ ⟨hn, q⟩
theorem x_app {p : Addr} {xs : List A} (h : Evs wa ρ μ (.own p)) (hp : μ p = some xs) (h2 : Evs wb ρ μ a) (hl : xs.length < 1000000) (q : E.nx ρ (put μ p (xs ++ [a]))) : wApp wa wb E ρ μ := h _ (by
  have e : cel μ (.own p) = some (p, xs) := by unfold cel; dsimp only; rw [hp]
  show (match cel μ (.own p) with | some (p, xs) => _ | none => False)
  rw [e]
  exact h2 _ ⟨hl, q⟩)
/-- a for by what holds between its turns -/
theorem x_for {wi : WI} {p : Pat} (I : Nat → Rho → Mem → Prop) (hi : EvIs wi ρ μ ds) (h0 : I 0 ρ μ) (hs : ∀ n d ρ μ (N : Rho → Mem → Prop), ds[n]? = some d → I n ρ μ → (∀ ρ μ, I (n + 1) ρ μ → N ρ μ) → ∃ ρ', bindP p d ρ = some ρ' ∧ W { E with nx := N, ct := N, bk := E.nx } ρ' μ) (hd : ∀ ρ μ, I ds.length ρ μ → E.nx ρ μ) : wFor wi p W E ρ μ := by
  refine hi _ ?_
  have gen : ∀ (es : List PyData) (n : Nat) (ρ : Rho) (μ : Mem), ds.drop n = es → I n ρ μ → n ≤ ds.length → forW p W es E ρ μ := by
    intro es
    induction es with
    | nil =>
      intro n ρ μ h hI hn
      have : n = ds.length := by
        have := congrArg List.length h
        simp at this
        omega
      subst this
      exact hd ρ μ hI
    | cons d es ih =>
      intro n ρ μ h hI hn
      have hlt : n < ds.length := by
        have := congrArg List.length h
        simp at this
        omega
      have e1 : ds[n]? = some d := by
        rw [List.drop_eq_getElem_cons hlt] at h
        rw [List.getElem?_eq_getElem hlt, (List.cons.inj h).1]
      have e2 : ds.drop (n + 1) = es := by
        rw [List.drop_eq_getElem_cons hlt] at h
        exact (List.cons.inj h).2
      obtain ⟨ρ', h1, h2⟩ := hs n d ρ μ (fun ρ μ => forW p W es E ρ μ) e1 hI (fun ρ μ q => ih (n + 1) ρ μ e2 q hlt)
      unfold forW
      rw [h1]
      exact h2
  exact gen ds 0 ρ μ rfl h0 (Nat.zero_le _)
end
end Hv

set_option Elab.async false
set_option linter.all false
set_option maxRecDepth 100000
namespace Hv
open PySem PySem.Spec PyProof.Rows L2 Hod
def spLaw (K : PySem.W.Frag) : Sp := fun vs H Q _ => ∃ (a : Addr) (ns : List Int), vs = [.ref a] ∧ SqL K H a (ns.map V.int) ∧ ns.length ≤ 63 ∧ ∀ H', Q (.bl true) H'
def lawE : Ends2 := { nx := fun _ _ => False, rt := fun d => d = .bool true }
/-- behind draw = open(script): the rest by values -/
theorem law_start {K : PySem.W.Frag} {i n : Nat} {W : WS} {D : Ends} {H : Hp} {a : Addr} {ns : List Int} {E : XK} (hi : i < n) (hS : SqL K H a (ns.map V.int)) (hl : ns.length ≤ 63) (hrt : ∀ H', D.rt (.bl true) H')
    (hw : W lawE ((List.replicate (n + 1) none).set (i + 1) (some .drw)) emp) : tSeq (tAsg (tCall (spOpen K) [] E (tCons (tVar 0) tNil)) (gName (i + 1))) (LS K W) D (some (.ref a) :: List.replicate n none) H := by
  refine ⟨.ref a, rfl, a, ns, rfl, hS, hl, fun d c H2 sm nd nc dc => ?_⟩
  obtain ⟨j, big, seed, h1, h2, h3⟩ := dc
  have ncd : c ≠ d := cell_ne h1 h2
  have vis : ∀ b, b ≠ d → off (fun x => decide (x = d)) emp H2 b = H2 b := fun b hb => off_of (by simpa using hb) rfl
  refine ⟨fun x => decide (x = d), fun x => decide (x = d), H2, off (fun x => decide (x = d)) emp H2, _, emp, lawE, ⟨⟨⟨fun b hb => ?_, fun b hb => ?_, fun b xs q => nomatch q⟩, ?_⟩, .refl, fun _ _ => rfl, Same.refl _⟩, hw, ⟨?_, ?_, ?_, ?_⟩⟩
  · have e : b = d := of_decide_eq_true hb
    subst e
    exact ⟨decide_eq_true rfl, c, ns, j, big, seed, h1, by rw [vis c ncd]; exact h2, h3⟩
  · have e : b = d := of_decide_eq_true hb
    subst e
    rw [h1]
    exact fun z => nomatch z
  · have base : Sls K (fun x => decide (x = d)) emp (off (fun x => decide (x = d)) emp H2) (some (.ref a) :: List.replicate n none) (List.replicate (n + 1) none) := by
      rw [List.replicate_succ]
      refine .any ?_
      have q := Sls.start (K := K) (S := fun x => decide (x = d)) (μ := emp) (G := off (fun x => decide (x = d)) emp H2) (as := []) (vs := []) n .nil
      simpa using q
    exact base.set (i + 1) (.drw (decide_eq_true rfl))
  · exact fun _ _ _ _ _ q => q.elim
  · exact fun _ _ _ _ _ q => q.elim
  · exact fun _ _ _ _ _ q => q.elim
  · intro v H' dd _ _ r _ q
    have q : dd = .bool true := q
    subst q
    cases r
    exact hrt H'
theorem raw_mk {K : PySem.W.Frag} {h : Heap} {mg : Str → Option Value} {x : Str} {st : Stmt} {ps : List Str} {f : Addr} {oc : Value} {od an : Option Addr} {osl : Array (Option Value)} {kV doc pm cdv ct : Value} (X : K.In h) (G : h.Ns mainGlobals mg)
    (a : PySem.W.nsIn K mainGlobals x = some (some (.ref f))) (l : K.lookup f = some ⟨oc, od, .func (PySem.W.fnOf x x (defArgs st) (defBody st) (defScope st) .none kV doc pm an cdv ct), osl⟩) (c : PySem.W.codeIn K cdv x = true) (k : PySem.W.keepIn K (.ref f) = true)
    (hb : ∀ (kV doc pm : Value) (an : Option Addr) (cdv ct : Value) (us : List Value), us.length = ps.length → bindArgs (PySem.W.fnOf x x (defArgs st) (defBody st) (defScope st) .none kV doc pm an cdv ct) ⟨us, []⟩ = pure (ps.zip us)) :
    Raw K mg x st ps f (PySem.W.fnOf x x (defArgs st) (defBody st) (defScope st) .none kV doc pm an cdv ct) := by
  have F := fun_mk (st := st) l c k
  exact ⟨F, PySem.W.mg_of X G a, F.binds hb⟩
/-! ### comprehensions over numbers, over what is counted -/
section
variable {ρ : Rho} {μ : Mem} {n : Nat} {wi : WI} {p : Pat} {wt : WT} {we : WE} {vs : List Nat}
theorem ev_lcr {g : Nat → PyData} (hi : EvIs wi ρ μ (rng 0 n)) (hl : n ≤ 1000000) (h : ∀ i : Nat, i < n → ∃ ρ', bindP p (.int i) (wipeA ρ vs) = some ρ' ∧ Evs we ρ' μ (.dat (g i))) : Evs (wLc wi p wYes we vs) ρ μ (.dat (.list ((List.range n).map g))) := by
  rw [← map_onI]
  refine ev_lcm hi (by simpa using hl) fun d hd => ?_
  obtain ⟨i, hn, rfl⟩ := mem_rng hd
  exact h i hn
theorem ev_lcrf {g : Nat → Option PyData} (hi : EvIs wi ρ μ (rng 0 n)) (hl : n ≤ 1000000) (h : ∀ i : Nat, i < n → ∃ ρ', bindP p (.int i) (wipeA ρ vs) = some ρ' ∧ ((∃ e, g i = some e ∧ EvTs wt ρ' μ true ∧ Evs we ρ' μ (.dat e)) ∨ (g i = none ∧ EvTs wt ρ' μ false))) : Evs (wLc wi p wt we vs) ρ μ (.dat (.list ((List.range n).filterMap g))) := by
  have e : (List.range n).filterMap g = (rng 0 n).filterMap fun d => match d with | .int i => g i.toNat | _ => none := by
    unfold rng
    rw [List.filterMap_map]
    refine congrArg (fun f => List.filterMap f (List.range n)) (funext fun i => ?_)
    show g i = g ((0 + (i : Int)).toNat)
    rw [show (0 + (i : Int)).toNat = i by omega]
  rw [e]
  refine ev_lcf hi (by simpa using hl) fun d hd => ?_
  obtain ⟨i, hn, rfl⟩ := mem_rng hd
  exact h i hn
theorem enumD_eq (ds : List PyData) : enumD ds = (List.range ds.length).map fun i => .tuple [.int (i : Nat), ds.getD i .none] := by
  refine List.ext_getElem? fun i => ?_
  by_cases hi : i < ds.length
  · rw [enumD_at (d := ds[i]) (by simp [hi])]
    simp [hi, List.getD]
  · rw [List.getElem?_eq_none (by simp [enumD]; omega), List.getElem?_eq_none (by simp; omega)]
theorem ev_lcef {g : Nat → Option PyData} {ds : List PyData} (hi : EvIs wi ρ μ (enumD ds)) (hl : ds.length ≤ 1000000) (h : ∀ i : Nat, i < ds.length → ∃ ρ', bindP p (.tuple [.int i, ds.getD i .none]) (wipeA ρ vs) = some ρ' ∧ ((∃ e, g i = some e ∧ EvTs wt ρ' μ true ∧ Evs we ρ' μ (.dat e)) ∨ (g i = none ∧ EvTs wt ρ' μ false))) : Evs (wLc wi p wt we vs) ρ μ (.dat (.list ((List.range ds.length).filterMap g))) := by
  have e : (List.range ds.length).filterMap g = (enumD ds).filterMap fun d => match d with | .tuple (.int i :: _) => g i.toNat | _ => none := by
    rw [enumD_eq, List.filterMap_map]
    rfl
  rw [e]
  refine ev_lcf hi (by simpa [enumD] using hl) fun d hd => ?_
  rw [enumD_eq] at hd
  obtain ⟨i, hn, rfl⟩ := List.mem_map.mp hd
  exact h i (List.mem_range.mp hn)
theorem ev_lce {g : Nat → PyData} {ds : List PyData} (hi : EvIs wi ρ μ (enumD ds)) (hl : ds.length ≤ 1000000) (h : ∀ i : Nat, i < ds.length → ∃ ρ', bindP p (.tuple [.int i, ds.getD i .none]) (wipeA ρ vs) = some ρ' ∧ Evs we ρ' μ (.dat (g i))) : Evs (wLc wi p wYes we vs) ρ μ (.dat (.list ((List.range ds.length).map g))) := by
  have e : (List.range ds.length).map g = (enumD ds).map fun d => match d with | .tuple (.int i :: _) => g i.toNat | _ => .none := by
    rw [enumD_eq, List.map_map]
    rfl
  rw [e]
  refine ev_lcm hi (by simpa [enumD] using hl) fun d hd => ?_
  rw [enumD_eq] at hd
  obtain ⟨i, hn, rfl⟩ := List.mem_map.mp hd
  exact h i (List.mem_range.mp hn)
theorem at_nat {ds : List PyData} {i : Nat} {d : PyData} (h : ds[i]? = some d) : atI ds (i : Int) = some d := atI_nat (j := i) h
theorem at_natA {ds : List A} {i : Nat} {d : A} (h : ds[i]? = some d) : atI ds (i : Int) = some d := atI_nat (j := i) h
theorem at_int {ds : List PyData} {i : Int} {d : PyData} (h0 : 0 ≤ i) (h : ds[i.toNat]? = some d) : atI ds i = some d := by
  have e : ((i.toNat : Nat) : Int) = i := by omega
  rw [← e]
  exact atI_nat (j := i.toNat) h
end
/-! ### a step at a time -/
section
variable {ρ : Rho} {μ : Mem} {w wa wb : WE} {u : WA} {Q : A → Prop} {E : Ends2} {W W2 : WS} {n : Nat}
theorem x_seq (h : W { E with nx := fun ρ μ => W2 E ρ μ } ρ μ) : wSeq W W2 E ρ μ := h
theorem x_setN (h : w ρ μ fun a => E.nx (ρ.set n (some a)) μ) : wSet n w E ρ μ := h
theorem x_lc {wi : WI} {p : Pat} {wt : WT} {we : WE} {vs : List Nat} (h : wi ρ μ fun ds => ds.length ≤ 1000000 ∧ lcW (lcF p wt we (wipeA ρ vs) μ) ds fun es => Q (.dat (.list es))) : wLc wi p wt we vs ρ μ Q := h
theorem x_r1 {R : List PyData → Prop} (h : u ρ μ fun as => match as with | [.dat (.int n)] => (-(2 ^ 62) ≤ n ∧ n < 2 ^ 62) ∧ R (rng 0 n.toNat) | _ => False) : wiR1 u ρ μ R := h
theorem x_ac {R : List A → Prop} (h : w ρ μ fun a => u ρ μ fun as => R (a :: as)) : waCons w u ρ μ R := h
theorem x_an {R : List A → Prop} (h : R []) : waNil ρ μ R := h
theorem x_tup (h : u ρ μ fun as => match dats as with | some ds => as.length ≤ 1000 ∧ Q (.dat (.tuple ds)) | none => False) : wTup u ρ μ Q := h
theorem x_lst (h : u ρ μ fun as => match dats as with | some ds => as.length ≤ 1000 ∧ Q (.dat (.list ds)) | none => False) : wLst u ρ μ Q := h
theorem x_cb {g : GC} (h : u ρ μ fun as => g μ as Q) : wCB g u ρ μ Q := h
theorem x_retN (h : w ρ μ fun a => retA E μ a) : wRet w E ρ μ := h
theorem x_retFN (h : w ρ μ fun a => match a with | .dat d => E.rt d | _ => False) : wRetF w E ρ μ := h
theorem x_ifN {t : WT} (h : t ρ μ fun b => if b = true then W E ρ μ else W2 E ρ μ) : wIfS t W W2 E ρ μ := h
theorem x_opN {g : G2} (h : wa ρ μ fun a => wb ρ μ fun b => g μ a b Q) : wOp g wa wb ρ μ Q := h
theorem x_B {R : Bool → Prop} (h : w ρ μ fun a => match a with | .dat (.bool b) => R b | _ => False) : wB w ρ μ R := h
theorem x_ifE {t : WT} (h : t ρ μ fun b => if b = true then wa ρ μ Q else wb ρ μ Q) : wIf t wa wb ρ μ Q := h
end
/-! ### draws, operands one after another -/
section
variable {ρ : Rho} {μ : Mem} {w wa wb : WE} {a b : A} {n : Int} {Q : A → Prop} {E : Ends2}
theorem x_pull {i : Nat} (k : ∀ r : Int, 0 ≤ r → r < n → Q (.dat (.int r))) (h0 : 0 < n := by omega) (h1 : n < 1073741824 := by omega) (hw : Evs w ρ μ (.dat (.int n)) := by exact ev_k) (hd : ρ[i]? = some (some .drw) := by rfl) : wCall Fpull (waCons (wVar i) (waCons w waNil)) ρ μ Q :=
  x_call (ea_cons (ev_v hd) (ea_cons hw ea_nil)) ⟨n, rfl, h0, h1, k⟩
theorem x_op {g : G2} (h1 : Evs wa ρ μ a) (h2 : wb ρ μ fun b => g μ a b Q) : wOp g wa wb ρ μ Q := h1 _ h2
theorem x_ixL {ds : List PyData} {i : Int} {d : PyData} (h : atI ds i = some d) (q : Q (.dat d)) : gIx μ (.dat (.list ds)) (.dat (.int i)) Q := by
  show (match atI ds i with | some d => Q (.dat d) | none => False)
  rw [h]
  exact q
theorem x_ixT {ds : List PyData} {i : Int} {d : PyData} (h : atI ds i = some d) (q : Q (.dat d)) : gIx μ (.dat (.tuple ds)) (.dat (.int i)) Q := by
  show (match atI ds i with | some d => Q (.dat d) | none => False)
  rw [h]
  exact q
theorem x_appN {p : Addr} {xs : List A} (h : Evs wa ρ μ (.own p)) (hp : μ p = some xs) (h2 : wb ρ μ fun a => xs.length < 1000000 ∧ E.nx ρ (put μ p (xs ++ [a]))) : wApp wa wb E ρ μ := h _ (by
  have e : cel μ (.own p) = some (p, xs) := by unfold cel; dsimp only; rw [hp]
  show (match cel μ (.own p) with | some (p, xs) => _ | none => False)
  rw [e]
  exact h2)
end
theorem seqA_own {μ : Mem} {p : Addr} {ds : List PyData} (h : μ p = some (ds.map .dat)) : seqA μ (.own p) = some ds := by
  unfold seqA
  dsimp only
  rw [h]
  exact dats_map ds
theorem rsv_own {μ : Mem} {p : Addr} {ds : List PyData} (h : μ p = some (ds.map .dat)) : rsv μ (.own p) = some (.list ds) := by
  unfold rsv
  dsimp only
  rw [h]
  dsimp only
  rw [dats_map]
  rfl
theorem rsvA_own {μ : Mem} {p : Addr} {ds : List PyData} (h : μ p = some (ds.map .dat)) : rsvA μ (.own p) = some (.dat (.list ds)) := by
  unfold rsvA
  dsimp only
  rw [h]
  dsimp only
  rw [dats_map]
theorem rsvs_own {μ : Mem} {p : Addr} {ds : List PyData} {d : PyData} (h : μ p = some (ds.map .dat)) : rsvs μ [.own p, .dat d] = some [.dat (.list ds), .dat d] := by
  unfold rsvs
  rw [rsvA_own h]
  rfl
theorem nols_of : ∀ {ds : List PyData}, (∀ d ∈ ds, nol d = true) → nols ds = true
  | [], _ => rfl
  | d :: ds, h => by
    unfold nols
    rw [h d (by simp), nols_of fun e he => h e (by simp [he])]
    rfl
theorem list_of {α : Type} {f : α → PyData} : ∀ {es : List PyData}, (∀ e ∈ es, ∃ q, e = f q) → ∃ l : List α, es = l.map f
  | [], _ => ⟨[], rfl⟩
  | e :: es, h => by
    obtain ⟨q, rfl⟩ := h e (by simp)
    obtain ⟨l, rfl⟩ := list_of (es := es) fun z hz => h z (by simp [hz])
    exact ⟨q :: l, rfl⟩
/-! ### shapes -/
theorem shp_all : ∀ {ds : List PyData} {n : Nat}, (∀ d ∈ ds, d.canLay0 = true ∧ d.depth ≤ n) → PyData.canLayAll0 ds = true ∧ PyData.depthAll ds ≤ n
  | [], _, _ => ⟨rfl, Nat.zero_le _⟩
  | d :: ds, n, h => by
    obtain ⟨h1, h2⟩ := h d (by simp)
    obtain ⟨h3, h4⟩ := shp_all (ds := ds) fun z hz => h z (by simp [hz])
    unfold PyData.canLayAll0 PyData.depthAll
    rw [h1, h3]
    exact ⟨rfl, by omega⟩
theorem shp_list {ds : List PyData} (h : ∀ d ∈ ds, d.canLay0 = true ∧ d.depth ≤ 60) : SeqAt.shaped (.list ds) = true := by
  obtain ⟨h1, h2⟩ := shp_all h
  unfold SeqAt.shaped PyData.canLay0 PyData.depth
  rw [h1, decide_eq_true (by omega)]
  rfl
theorem eqv_same {d : PyData} (h : SeqAt.shaped d = true) : PyData.eqv d d = true := SeqAt.eqv_refl d (SeqAt.canLay_of_shaped h)
/-! ### calls by names: the values in the parameters' order -/
def perm {α : Type} (z : α) (π : List Nat) (n m : Nat) : List α → List α → List α := fun us ws => if us.length = n ∧ ws.length = m then π.map (fun i => (us ++ ws).getD i z) else []
theorem perm_rel {K : PySem.W.Frag} {S : Hid} {μ : Mem} {G : Hp} {π : List Nat} {n m : Nat} {vs zs : List V} {as bs : List A} (h1 : Ras K S μ G vs as) (h2 : Ras K S μ G zs bs) : Ras K S μ G (perm .non π n m vs zs) (perm (.dat .none) π n m as bs) := by
  unfold perm
  rw [h1.len, h2.len]
  split
  · have h := h1.app h2
    have at_ : ∀ i, Ra K S μ G ((vs ++ zs).getD i .non) ((as ++ bs).getD i (.dat .none)) := fun i => by
      by_cases hi : i < (as ++ bs).length
      · obtain ⟨v, e1, e2⟩ := h.get (i := i) (List.getElem?_eq_getElem hi)
        rw [List.getD, e1, List.getD, List.getElem?_eq_getElem hi]
        exact e2
      · rw [List.getD, List.getD, List.getElem?_eq_none (by rw [h.len]; omega), List.getElem?_eq_none (by omega)]
        exact .dat .non
    clear h1 h2 h
    induction π with
    | nil => exact .nil
    | cons i π ih => exact .cons (at_ i) ih
  · exact .nil
theorem perm_vals {π : List Nat} {n m : Nat} {vs zs : List V} {us ws : List Value} (h1 : Vals vs us) (h2 : Vals zs ws) : Vals (perm .non π n m vs zs) (perm Value.none π n m us ws) := by
  unfold perm
  rw [h1.length, h2.length]
  split
  · have h := h1.append h2
    have at_ : ∀ i, RelV ((vs ++ zs).getD i .non) ((us ++ ws).getD i Value.none) := fun i => by
      by_cases hi : i < (vs ++ zs).length
      · obtain ⟨v, e1, e2⟩ := h.get (i := i) (List.getElem?_eq_getElem hi)
        rw [List.getD, List.getD, e1, List.getElem?_eq_getElem hi]
        exact e2
      · rw [List.getD, List.getD, List.getElem?_eq_none (by omega), List.getElem?_eq_none (by rw [← h.length]; omega)]
        rfl
    clear h1 h2 h
    induction π with
    | nil => exact .nil
    | cons i π ih => exact .cons (at_ i) ih
  · exact .nil
theorem kb_mk {K : PySem.W.Frag} {mg : Str → Option Value} {x : Str} {st : Stmt} {ps ks : List Str} {f : Addr} {fd : FuncData} {π : List Nat} {n m : Nat} (R : Raw K mg x st ps f fd) (h0 : 0 < ps.length)
    (hb : ∀ (kV doc pm : Value) (an : Option Addr) (cdv ct : Value) (us ws : List Value), us.length = n → ws.length = m → bindArgs (PySem.W.fnOf x x (defArgs st) (defBody st) (defScope st) .none kV doc pm an cdv ct) ⟨us, ks.zip ws⟩ = pure (ps.zip (π.map fun i => (us ++ ws).getD i Value.none))) :
    KBinds K fd ps ks (perm Value.none π n m) (perm .non π n m) := by
  obtain ⟨oc, od, kV, doc, pm, an, cdv, ct, osl, rfl, lk, hcd⟩ := R.1.ex
  refine ⟨fun s us ws _ hl => ?_, fun h1 h2 => perm_vals h1 h2⟩
  unfold perm at hl ⊢
  split at hl
  · rename_i h
    rw [if_pos h]
    exact .of_eq (hb kV doc pm an cdv ct us ws h.1 h.2)
  · exact absurd hl (by show ¬ (0 = ps.length); omega)
theorem ga_mk {π : List Nat} {n m : Nat} : GA (perm .non π n m) (perm (.dat .none) π n m) := fun K S μ G vs as zs bs h1 h2 => perm_rel h1 h2
section
variable {ρ : Rho} {μ : Mem}
theorem x_callK {F : FS} {gA : List A → List A → List A} {u v : WA} {as bs cs : List A} {Q : A → Prop} (h : EvAs u ρ μ as) (h2 : EvAs v ρ μ bs) (hF : F cs fun d => Q (.dat d)) (hc : gA as bs = cs := by rfl) (hn : noOwn cs = true := by rfl) : wCallK F gA u v ρ μ Q := h _ (h2 _ (by show wF F μ (gA as bs) Q; rw [hc]; unfold wF; rw [if_pos hn]; exact hF))
theorem ev_callK {F : FS} {gA : List A → List A → List A} {u v : WA} {as bs cs : List A} {d : PyData} (h : EvAs u ρ μ as) (h2 : EvAs v ρ μ bs) (hF : ∀ Q : PyData → Prop, Q d → F cs Q) (hc : gA as bs = cs := by rfl) (hn : noOwn cs = true := by rfl) : Evs (wCallK F gA u v) ρ μ (.dat d) := fun Q q => x_callK h h2 (hF _ q) hc hn
end
end Hv

set_option Elab.async false
set_option linter.all false
set_option maxRecDepth 100000
namespace HLaw
open PySem PySem.Spec PyProof.Rows L2 Hod Hv
def topS (i : Nat) : Stmt := PySem.Challenge.pw_hodman_k11_works_that_move.main.body.getD i (.Pass ⟨0, 0, 0, 0⟩)
/-! _law_open: 0:_law_script 1:_law_seed 2:_law_cell -/
abbrev s_law_open : Stmt := topS 3
theorem sc_law_open : FnScope ["_law_script", "_law_seed", "_law_cell"] ["_law_script"] (defScope s_law_open) := ⟨rfl, rfl, rfl, by decide +kernel, rfl, by decide +kernel, by decide +kernel⟩
abbrev N_law_open : List Str := ["_law_script", "_law_seed", "_law_cell"]
abbrev ps_law_open : List Str := ["_law_script"]
/-! _law_pull: 0:_law_draw 1:_law_total_of 2:_law_cell 3:_law_got 4:_law_seed -/
abbrev s_law_pull : Stmt := topS 4
theorem sc_law_pull : FnScope ["_law_draw", "_law_total_of", "_law_cell", "_law_got", "_law_seed"] ["_law_draw", "_law_total_of"] (defScope s_law_pull) := ⟨rfl, rfl, rfl, by decide +kernel, rfl, by decide +kernel, by decide +kernel⟩
abbrev N_law_pull : List Str := ["_law_draw", "_law_total_of", "_law_cell", "_law_got", "_law_seed"]
abbrev ps_law_pull : List Str := ["_law_draw", "_law_total_of"]
theorem cut63 {xs : List V} (h : xs.length ≤ 63) : cutV xs none (some 63) = xs := by
  unfold cutV
  rw [HT.sIx_none, show HT.sIx xs.length xs.length (some 63) = min 63 xs.length from HT.sIx_nat xs.length xs.length 63, show min 63 xs.length = xs.length by omega, Nat.sub_zero]
  show List.take xs.length xs = xs
  exact List.take_length
theorem int_at {ns : List Int} {i : Nat} {x : V} (h : (ns.map V.int)[i]? = some x) : ∃ z, x = .int z := by
  rw [List.getElem?_map] at h
  cases e : ns[i]? with
  | none => rw [e] at h; cases h
  | some u => rw [e] at h; exact ⟨u, (Option.some.inj h).symm⟩
section
variable {P : Program} {w : World} {K : PySem.W.Frag} {mg : Str → Option Value} {base : Heap}
/-! ### _law_pull -/
def pullFirst : TS := fun D σ H => ∃ d n c ns, σ = [some (.ref d), some (.int n), none, none, none] ∧ DrawC H d c ns ∧ ∀ y H2, Sb d H H2 → DrawC H2 d c ns → D.nx [some (.ref d), some (.int n), y, none, none] H2
theorem ok_pull {f : Addr} {fd : FuncData} {k : Nat} (F : Fun K "_law_pull" "_law_pull" s_law_pull f fd) (m_len : mg "len" = none) : FnOk P w K mg base CX0 (k + 1) f fd ["_law_draw", "_law_total_of"] Hv.spPull := by
  refine F.ok sc_law_pull (fun vs H Q E h => ?_) (fun cdv Ar outer s H vs Q E hr h => ?_)
  · obtain ⟨d, n, c, ns, rfl, _⟩ := h
    rfl
  · obtain ⟨d, n, c, ns, rfl, n0, n1, hD, q⟩ := h
    refine ⟨_, (pss_cons (ps_weak (u := pullFirst) (ps_if (PW.pt (pw_and (pt_cmpR op_lt (pe_ix ix_list (pv 0) pe_int (fun _ _ => rfl)) (pv 1) (nomark _)) (pw_and1 (pt_cmpR op_lt (pe_ix ix_list (pv 0) pe_int (fun _ _ => rfl)) (pe_callB call_len_seq (by rfl) m_len PySem.boot_len (pa_cons (pe_ix ix_list (pv 0) pe_int (fun _ _ => rfl)) pa_nil)) (nomark _))))) (pss_cons (ps_set (i := 2) sc_law_pull.nd rfl (.inl rfl) (pe_ix ix_list (pe_ix ix_list (pv 0) pe_int (fun _ _ => rfl)) (pe_ix ix_list (pv 0) pe_int (fun _ _ => rfl)) (fun _ _ => rfl)))
    (pss_cons (ps_asg (pe_op op_add (pe_ix ix_list (pv 0) pe_int (fun _ _ => rfl)) pe_int) (pg_sub (pv 0) pe_int set_list))
    (pss_cons (ps_asg pe_int (pg_sub (pv 0) pe_int set_list))
    (pss_one (ps_if (pt_cmpR op_ge (pv 2) (pe_op op_pow pe_int pe_int) (nomark _)) (pss_one (ps_asg (pv 2) (pg_sub (pv 0) pe_int set_list))) (pss_one (ps_asg (pe_op op_mod (pe_op op_add (pe_op op_add (pe_op op_mul (pe_ix ix_list (pv 0) pe_int (fun _ _ => rfl)) pe_int) (pe_op op_mul (pe_op op_mod (pv 2) pe_int) pe_int)) pe_int) pe_int) (pg_sub (pv 0) pe_int set_list)))))))) pss_nil) (fun D σ H hyp => ?first))
    (pss_cons (ps_if (pt_cmpR op_ge (pe_ix ix_list (pv 0) pe_int (fun _ _ => rfl)) (pv 1) (nomark _)) (pss_cons (ps_set (i := 3) sc_law_pull.nd rfl (.inl rfl) (pe_op op_mod (pe_ix ix_list (pv 0) pe_int (fun _ _ => rfl)) (pv 1)))
    (pss_cons (ps_asg (pe_op op_fdiv (pe_ix ix_list (pv 0) pe_int (fun _ _ => rfl)) (pv 1)) (pg_sub (pv 0) pe_int set_list))
    (pss_one (ps_ret (pv 3))))) pss_nil)
    (pss_cons (ps_set (i := 4) sc_law_pull.nd rfl (.inl rfl) (pe_ix ix_list (pv 0) pe_int (fun _ _ => rfl)))
    (pss_cons (ps_asg (pe_op op_mod (pe_op op_add (pe_op op_add (pe_op op_mul (pe_op op_mod (pe_op op_mul (pv 4) (pv 4)) pe_int) pe_int) (pe_op op_mul (pv 4) pe_int)) pe_int) pe_int) (pg_sub (pv 0) pe_int set_list))
    (pss_one (ps_ret (pe_op op_mod (pe_op op_add (pe_op op_fdiv (pe_ix ix_list (pv 0) pe_int (fun _ _ => rfl)) pe_int) (pe_op op_mul (pe_op op_mod (pe_ix ix_list (pv 0) pe_int (fun _ _ => rfl)) pe_int) pe_int)) (pv 1)))))))), ?_⟩
    case first =>
      obtain ⟨d, n, c, ns, rfl, ⟨i, big, seed, hd, hc, b0, s0, s1⟩, q⟩ := hyp
      have ncd := cell_ne hd hc
      refine ⟨_, rfl, d, _, _, _, rfl, rfl, SqL.of hd, atI_nat (j := 2) rfl, _, rfl, _, _, rfl, rfl, _, rfl, ?_⟩
      refine ite2 (fun c1 => ?_) (fun c1 => ?_)
      · refine ⟨_, rfl, d, _, _, _, rfl, rfl, SqL.of hd, atI_nat (j := 1) rfl, _, rfl, d, _, _, _, rfl, rfl, SqL.of hd, atI_nat (j := 0) rfl, c, _, rfl, .inl (SqL.of hc), _, _, rfl, rfl, _, rfl, ?_⟩
        refine ite2 (fun c2 => ?_) (fun c2 => ?_)
        · have c3 : (i : Int) < ((ns.map V.int).length : Int) := of_decide_eq_true c2
          have hi : i < ns.length := by rw [List.length_map] at c3; omega
          have gi : (ns.map V.int)[i]? = some (.int ns[i]) := by rw [List.getElem?_map, List.getElem?_eq_getElem hi]; rfl
          generalize ns[i] = z at gi
          refine ⟨_, rfl, d, _, _, _, rfl, rfl, SqL.of hd, atI_nat (j := 0) rfl, _, rfl, d, _, _, _, rfl, rfl, SqL.of hd, atI_nat (j := 1) rfl, c, _, _, _, rfl, rfl, SqL.of hc, atI_nat gi, ?_⟩
          -- draw[1] = draw[1] + 1
          refine ⟨_, rfl, d, _, _, _, rfl, rfl, SqL.of hd, atI_nat (j := 1) rfl, _, _, rfl, rfl, _, rfl, d, _, _, 1, rfl, rfl, hd, rfl, ?_⟩
          -- draw[2] = 0
          refine ⟨_, rfl, d, _, _, 2, rfl, rfl, upd_same, rfl, ?_⟩
          refine ⟨_, rfl, _, _, rfl, rfl, ⟨by decide, by decide, by decide⟩, _, _, rfl, rfl, _, rfl, ?_⟩
          refine ite2 (fun c4 => ?_) (fun c4 => ?_)
          · have z0 : (0 : Int) ≤ z := by
              have w1 : (10 : Int) ^ (18 : Int).toNat ≤ z := of_decide_eq_true c4
              have w2 : (0 : Int) ≤ (10 : Int) ^ (18 : Int).toNat := by decide
              omega
            refine ⟨_, rfl, _, rfl, d, _, _, 2, rfl, rfl, upd_same, rfl, ?_⟩
            refine q _ _ (((sb_upd).upd).upd) ⟨i + 1, z, seed, ?_, ?_, z0, s0, s1⟩
            · rw [upd_same]
              rfl
            · rw [upd_ne ncd, upd_ne ncd, upd_ne ncd]
              exact hc
          · refine ⟨_, rfl, d, _, _, _, rfl, rfl, SqL.of upd_same, atI_nat (j := 3) rfl, _, _, rfl, rfl, .inr ⟨by decide, by decide⟩, _, rfl, _, _, rfl, rfl, (by show (0 : Int) < 2147483629; decide), _, _, rfl, rfl, .inr ⟨by decide, by decide⟩, _, _, rfl, rfl, _, _, rfl, rfl, _, _, rfl, rfl, (by show (0 : Int) < 2147483647; decide), _, rfl, d, _, _, 3, rfl, rfl, upd_same, rfl, ?_⟩
            refine q _ _ (((sb_upd).upd).upd) ⟨i + 1, 0, (seed * 40692 + z % 2147483629 * 69621 + 104729) % 2147483647, ?_, ?_, Int.le_refl 0, Int.emod_nonneg _ (by decide), Int.emod_lt_of_pos _ (by decide)⟩
            · rw [upd_same]
              rfl
            · rw [upd_ne ncd, upd_ne ncd, upd_ne ncd]
              exact hc
        · exact q _ _ Sb.refl ⟨i, big, seed, hd, hc, b0, s0, s1⟩
      · exact q _ _ Sb.refl ⟨i, big, seed, hd, hc, b0, s0, s1⟩
    refine ⟨d, n, c, ns, rfl, hD, fun y H1 sb1 hD1 => ?_⟩
    obtain ⟨i, big, seed, hd, hc, b0, s0, s1⟩ := hD1
    have ncd := cell_ne hd hc
    refine ⟨_, rfl, d, _, _, _, rfl, rfl, SqL.of hd, atI_nat (j := 2) rfl, _, rfl, _, _, rfl, rfl, _, rfl, ?_⟩
    refine ite2 (fun c1 => ?_) (fun c1 => ?_)
    · refine ⟨_, rfl, d, _, _, _, rfl, rfl, SqL.of hd, atI_nat (j := 2) rfl, _, rfl, _, _, rfl, rfl, n0, ?_⟩
      refine ⟨_, rfl, d, _, _, _, rfl, rfl, SqL.of hd, atI_nat (j := 2) rfl, _, rfl, _, _, rfl, rfl, ⟨n0, n1⟩, _, rfl, d, _, _, 2, rfl, rfl, hd, rfl, ?_⟩
      refine ⟨_, rfl, ?_⟩
      refine q _ _ sb1.upd ⟨i, big / n, seed, ?_, ?_, Int.ediv_nonneg b0 (Int.le_of_lt n0), s0, s1⟩ (Int.emod_nonneg _ (Int.ne_of_gt n0)) (Int.emod_lt_of_pos _ n0)
      · rw [upd_same]
        rfl
      · rw [upd_ne ncd]
        exact hc
    · refine ⟨_, rfl, d, _, _, _, rfl, rfl, SqL.of hd, atI_nat (j := 3) rfl, ?_⟩
      refine ⟨_, rfl, _, rfl, _, _, rfl, rfl, .inl ⟨by omega, by omega⟩, _, _, rfl, rfl, (by show (0 : Int) < 2147483587; decide), _, _, rfl, rfl, .inr ⟨by decide, by decide⟩, _, rfl, _, _, rfl, rfl, .inr ⟨by decide, by decide⟩, _, _, rfl, rfl, _, _, rfl, rfl, _, _, rfl, rfl, (by show (0 : Int) < 2147483647; decide), _, rfl, d, _, _, 3, rfl, rfl, hd, rfl, ?_⟩
      refine ⟨_, rfl, d, _, _, _, rfl, rfl, SqL.of upd_same, atI_nat (j := 3) rfl, _, _, rfl, rfl, ⟨by decide, by decide⟩, _, rfl, d, _, _, _, rfl, rfl, SqL.of upd_same, atI_nat (j := 3) rfl, _, _, rfl, rfl, (by show (0 : Int) < 8191; decide), _, _, rfl, rfl, .inr ⟨by decide, by decide⟩, _, _, rfl, rfl, _, rfl, _, _, rfl, rfl, n0, ?_⟩
      refine q _ _ sb1.upd ⟨i, big, (seed * seed % 2147483587 * 5 + seed * 16807 + 1013904229) % 2147483647, ?_, ?_, b0, Int.emod_nonneg _ (by decide), Int.emod_lt_of_pos _ (by decide)⟩ (Int.emod_nonneg _ (Int.ne_of_gt n0)) (Int.emod_lt_of_pos _ n0)
      · rw [upd_same]
        rfl
      · rw [upd_ne ncd]
        exact hc
/-! ### _law_open -/
theorem ok_open {f : Addr} {fd : FuncData} {k : Nat} (F : Fun K "_law_open" "_law_open" s_law_open f fd) (m_list : mg "list" = none) : FnOk P w K mg base CX0 (k + 1) f fd ["_law_script"] (Hv.spOpen K) := by
  refine F.ok sc_law_open (fun vs H Q E h => ?_) (fun cdv Ar outer s H vs Q E hr h => ?_)
  · obtain ⟨a, ns, rfl, _⟩ := h
    rfl
  · obtain ⟨a, ns, rfl, hS, hlen, q⟩ := h
    refine ⟨_, (pss_cons (ps_set (i := 1) sc_law_open.nd rfl (.inl rfl) pe_int)
    (pss_cons (ps_for PassesOwn.never rfl (pi_list (pe_slice sl_list (pv 0) po_none (po_some pe_int))) (pg_name (i := 2) sc_law_open.nd rfl (.inl rfl))
      (pss_one (ps_set (i := 1) sc_law_open.nd rfl (.inl rfl) (pe_op op_mod (pe_op op_add (pe_op op_add (pe_op op_mul (pv 1) pe_int) (pe_op op_mod (pv 2) pe_int)) pe_int) pe_int))))
    (pss_one (ps_ret (pe_lst (pa_cons (pe_callTy call_list_of (by rfl) m_list (by decide +kernel) (pa_cons (pe_slice sl_list (pv 0) po_none (po_some pe_int)) pa_nil)) (pa_cons pe_int (pa_cons pe_int (pa_cons (pv 1) pa_nil))))))))), ?_⟩
    refine ⟨.ref a, rfl, 63, rfl, a, ns.map V.int, rfl, hS, fun b nb => ?_⟩
    have s1 : Same H (upd H b (.lst (cutV (ns.map V.int) none (some 63)))) := same_new nb
    rw [cut63 (by rw [List.length_map]; exact hlen)] at s1 ⊢
    refine ⟨b, rfl, ⟨_, SqL.of upd_same⟩, for_list (K := K) (a := b) (xs := ns.map V.int) (fun i σ H2 => H2 = upd H b (.lst (ns.map V.int)) ∧ ∃ (seed : Int) (y : Option V), σ = [some (.ref a), some (.int seed), y] ∧ 0 ≤ seed ∧ seed < 2147483647)
      ⟨rfl, 7717, none, rfl, by decide, by decide⟩ (fun i σ H2 _ ⟨e, _⟩ => by rw [e]; exact SqL.of upd_same) ?_ ?_⟩
    · rintro i x σ H2 hx ⟨rfl, seed, y, rfl, s0, s9⟩
      obtain ⟨z, rfl⟩ := int_at hx
      refine ⟨_, rfl, _, _, rfl, rfl, .inr ⟨by decide, by decide⟩, _, rfl, _, _, rfl, rfl, (by show (0 : Int) < 2147483629; decide), _, _, rfl, rfl, _, _, rfl, rfl, _, _, rfl, rfl, (by show (0 : Int) < 2147483647; decide), ?_⟩
      exact ⟨rfl, (seed * 48271 + z % 2147483629 + 5) % 2147483647, _, rfl, Int.emod_nonneg _ (by decide), Int.emod_lt_of_pos _ (by decide)⟩
    · rintro σ H2 ⟨rfl, seed, y, rfl, s0, s9⟩
      refine ⟨.ref a, rfl, 63, rfl, a, ns.map V.int, rfl, s1.seq hS, fun b2 nb2 => ?_⟩
      rw [cut63 (by rw [List.length_map]; exact hlen)]
      refine ⟨b2, _, rfl, .inl (SqL.of upd_same), fun c nc => ?_⟩
      refine ⟨_, rfl, (by show 4 ≤ sizeLine; decide), fun d nd => ?_⟩
      have s2 : Same (upd H b (.lst (ns.map V.int))) (upd (upd H b (.lst (ns.map V.int))) b2 (.lst (ns.map V.int))) := same_new nb2
      have s3 := s1.trans (s2.trans (same_new (o := .lst (ns.map V.int)) nc))
      refine q d c _ (s3.trans (same_new nd)) (s3.free nd) ((s1.trans s2).free nc) ⟨0, 0, seed, upd_same, ?_, Int.le_refl 0, s0, s9⟩
      exact same_new nd _ _ upd_same
end
/-! _law_num: 0:_law_found -/
abbrev s_law_num : Stmt := topS 5
theorem sc_law_num : FnScope ["_law_found"] ["_law_found"] (defScope s_law_num) := ⟨rfl, rfl, rfl, by decide +kernel, rfl, by decide +kernel, by decide +kernel⟩
abbrev N_law_num : List Str := ["_law_found"]
abbrev ps_law_num : List Str := ["_law_found"]
/-! _law_like: 0:_law_found 1:_law_due 2:_law_k -/
abbrev s_law_like : Stmt := topS 6
theorem sc_law_like : FnScope ["_law_found", "_law_due", "_law_k"] ["_law_found", "_law_due"] (defScope s_law_like) := ⟨rfl, rfl, rfl, by decide +kernel, rfl, by decide +kernel, by decide +kernel⟩
abbrev N_law_like : List Str := ["_law_found", "_law_due", "_law_k"]
abbrev ps_law_like : List Str := ["_law_found", "_law_due"]
section
variable {P : Program} {w : World} {K : PySem.W.Frag} {mg : Str → Option Value} {base : Heap}
theorem d_pull {k : Nat} {f : Addr} {fd : FuncData} (R : Raw K mg "_law_pull" s_law_pull ps_law_pull f fd) (m_len : mg "len" = none) : Dfn P w K mg base (k + 1) "_law_pull" ps_law_pull (spD K false Fpull) :=
  ⟨f, fd, (ok_pull R.1 m_len).imp (fun vs H Q E h => pull_spD vs H Q E h), R.2.1, R.1.kp, R.2.2⟩
theorem d_num {k : Nat} {f : Addr} {fd : FuncData} (R : Raw K mg "_law_num" s_law_num ps_law_num f fd) (m_isinstance : mg "isinstance" = none) (m_int : mg "int" = none) (m_bool : mg "bool" = none) : Dfn P w K mg base (k + 1) "_law_num" ps_law_num (spD K false Fnum) := by
  refine ⟨f, fd, fnD R.1 sc_law_num (fun as Q h => ?_) (fun cdv Ar outer s H E hr => (vss_one (vs_ret (ve_and (VF.ve (vf_callB c_isi call_isi (by rfl) m_isinstance (by decide +kernel) (va_cons (ve_var 0) (va_cons (ve_ty (n := "int") (by rfl) m_int (by decide +kernel)) va_nil)))) (ve_one (ve_not (VF.ve (vf_callB c_isi call_isi (by rfl) m_isinstance (by decide +kernel) (va_cons (ve_var 0) (va_cons (ve_ty (n := "bool") (by rfl) m_bool (by decide +kernel)) va_nil)))))))))) (fun as Q h => ?_), R.2.1, R.1.kp, R.2.2⟩
  · obtain ⟨d, rfl, _⟩ := h
    rfl
  · obtain ⟨d, rfl, hd, q⟩ := h
    cases d <;> first | exact q | (simp [dep] at hd; done)
theorem like_eq {f d : PyData} : like f d = (match d with
    | .none => (match f with | .none => true | _ => false)
    | .bool b => (match f with | .bool a => decide (a = b) | _ => false)
    | .int b => (match f with | .int a => decide (a = b) | _ => false)
    | .str b => (match f with | .str a => decide (a = b) | _ => false)
    | .list bs => (match f with | .list as => likes as bs | _ => false)
    | .tuple bs => (match f with | .tuple as => likes as bs | _ => false)
    | .dict _ => false) := by
  cases d <;> cases f <;> simp [like]
theorem likes_all : ∀ {as bs : List PyData}, as.length = bs.length → ((List.range bs.length).map fun i => like (as.getD i .none) (bs.getD i .none)).all id = likes as bs
  | [], [], _ => rfl
  | a :: as, b :: bs, h => by
    have ih := likes_all (as := as) (bs := bs) (by simpa using h)
    rw [List.length_cons, List.range_succ_eq_map, List.map_cons, List.all_cons, List.map_map]
    unfold likes
    rw [← ih]
    rfl
  | [], _ :: _, h => by simp at h
  | _ :: _, [], h => by simp at h
theorem at_getD {ds : List PyData} {i : Nat} (h : i < ds.length) : atI ds (i : Int) = some (ds.getD i .none) := by
  rw [atI_nat (j := i) (v := ds.getD i .none)]
  simp [List.getD, h]
theorem dep_getD {ds : List PyData} {n i : Nat} (h : deps ds ≤ n) : dep (ds.getD i .none) ≤ n := by
  by_cases hi : i < ds.length
  · have e : ds.getD i .none = ds[i] := by simp [List.getD, hi]
    rw [e]
    exact deps_le h _ (List.getElem_mem hi)
  · have e : ds.getD i .none = .none := by simp [List.getD, List.getElem?_eq_none (Nat.le_of_not_lt hi)]
    rw [e]
    exact Nat.zero_le _
theorem d_like {f : Addr} {fd : FuncData} (R : Raw K mg "_law_like" s_law_like ps_law_like f fd) (D_num : Dfn P w K mg base 1 "_law_num" ps_law_num (spD K false Fnum))
    (m_isinstance : mg "isinstance" = none) (m_int : mg "int" = none) (m_bool : mg "bool" = none) (m_str : mg "str" = none) (m_tuple : mg "tuple" = none) (m_list : mg "list" = none) (m_len : mg "len" = none) (m_all : mg "all" = none) (m_range : mg "range" = none) :
    ∀ n, n ≤ 1000 → Dfn P w K mg base (n + 1) "_law_like" ps_law_like (spD K false (Flike n)) := by
  obtain ⟨f_num, fd_num, G_num, m__law_num, k__law_num, b__law_num⟩ := D_num
  intro n hn
  refine ⟨f, fd, ?_, R.2.1, R.1.kp, R.2.2⟩
  have m__law_like := R.2.1; have k__law_like := R.1.kp; have b__law_like := R.2.2
  induction n with
  | zero => exact ⟨fun vs H Q E ⟨_, _, _, _, _, _, ⟨_, _, _, h, _⟩, _⟩ => absurd h (Nat.not_lt_zero _), fun A outer s H args us vs Q E _ _ _ _ ⟨_, _, _, _, _, _, ⟨_, _, _, h, _⟩, _⟩ => absurd h (Nat.not_lt_zero _)⟩
  | succ n ih =>
    have G__law_like := ih (by omega)
    have G__law_num := G_num.mono (show 1 ≤ n + 1 by omega)
    refine fnD R.1 sc_law_like (fun as Q h => ?_) (fun cdv Ar outer s H E hr => (vss_cons (vs_if (vt_cmp op_isN r_isN (ve_var 1) ve_non (nomark _)) (vss_one (vs_ret (ve_cmp op_isN r_isN (ve_var 0) ve_non (nomark _)))) vss_nil)
    (vss_cons (vs_if (vt_val (VF.ve (vf_callB c_isi call_isi (by rfl) m_isinstance (by decide +kernel) (va_cons (ve_var 1) (va_cons (ve_ty (n := "bool") (by rfl) m_bool (by decide +kernel)) va_nil))))) (vss_one (vs_ret (ve_and (VF.ve (vf_callB c_isi call_isi (by rfl) m_isinstance (by decide +kernel) (va_cons (ve_var 0) (va_cons (ve_ty (n := "bool") (by rfl) m_bool (by decide +kernel)) va_nil)))) (ve_one (ve_cmp op_eq r_eq (ve_var 0) (ve_var 1) (nomark _)))))) vss_nil)
    (vss_cons (vs_if (vt_val (VF.ve (vf_callB c_isi call_isi (by rfl) m_isinstance (by decide +kernel) (va_cons (ve_var 1) (va_cons (ve_ty (n := "int") (by rfl) m_int (by decide +kernel)) va_nil))))) (vss_one (vs_ret (ve_and (ve_call G__law_num (hr.mono (by omega)) (by rfl) m__law_num k__law_num b__law_num (va_cons (ve_var 0) va_nil)) (ve_one (ve_cmp op_eq r_eq (ve_var 0) (ve_var 1) (nomark _)))))) vss_nil)
    (vss_cons (vs_if (vt_val (VF.ve (vf_callB c_isi call_isi (by rfl) m_isinstance (by decide +kernel) (va_cons (ve_var 1) (va_cons (ve_ty (n := "str") (by rfl) m_str (by decide +kernel)) va_nil))))) (vss_one (vs_ret (ve_and (VF.ve (vf_callB c_isi call_isi (by rfl) m_isinstance (by decide +kernel) (va_cons (ve_var 0) (va_cons (ve_ty (n := "str") (by rfl) m_str (by decide +kernel)) va_nil)))) (ve_one (ve_cmp op_eq r_eq (ve_var 0) (ve_var 1) (nomark _)))))) vss_nil)
    (vss_cons (vs_if (VW.vt (vw_or (vt_cmp op_ne r_ne (VF.ve (vf_callB c_isi call_isi (by rfl) m_isinstance (by decide +kernel) (va_cons (ve_var 1) (va_cons (ve_ty (n := "tuple") (by rfl) m_tuple (by decide +kernel)) va_nil)))) (VF.ve (vf_callB c_isi call_isi (by rfl) m_isinstance (by decide +kernel) (va_cons (ve_var 0) (va_cons (ve_ty (n := "tuple") (by rfl) m_tuple (by decide +kernel)) va_nil)))) (nomark _)) (vw_or1 (vt_cmp op_ne r_ne (VF.ve (vf_callB c_isi call_isi (by rfl) m_isinstance (by decide +kernel) (va_cons (ve_var 1) (va_cons (ve_ty (n := "list") (by rfl) m_list (by decide +kernel)) va_nil)))) (VF.ve (vf_callB c_isi call_isi (by rfl) m_isinstance (by decide +kernel) (va_cons (ve_var 0) (va_cons (ve_ty (n := "list") (by rfl) m_list (by decide +kernel)) va_nil)))) (nomark _))))) (vss_one (vs_ret ve_bl)) vss_nil)
    (vss_cons (vs_if (vt_cmp op_ne r_ne (VF.ve (vf_callB c_len call_len_seq (by rfl) m_len PySem.boot_len (va_cons (ve_var 0) va_nil))) (VF.ve (vf_callB c_len call_len_seq (by rfl) m_len PySem.boot_len (va_cons (ve_var 1) va_nil))) (nomark _)) (vss_one (vs_ret ve_bl)) vss_nil)
    (vss_one (vs_retF (vf_callB c_all (cr_all rfl) (by rfl) m_all (by decide +kernel) (va_cons (VF.ve (vf_lc (own := [("_law_k", 2)]) (.nm 2) (by rfl) sc_law_like.nd (vi_range1 (by rfl) m_range (va_cons (VF.ve (vf_callB c_len call_len_seq (by rfl) m_len PySem.boot_len (va_cons (ve_var 1) va_nil))) va_nil)) (blkOk_by (own := [("_law_k", 2)]) (N := ["_law_found", "_law_due", "_law_k"]) (sc := defScope s_law_like) (by decide +kernel)) (fun _ _ _ _ _ => (pg_name (i := 2) sc_law_like.nd rfl (.inl rfl))) (fun _ _ _ _ _ => vts_nil) (fun _ _ _ _ _ => (ve_call G__law_like (hr.mono (by omega)) (by rfl) m__law_like k__law_like b__law_like (va_cons (ve_ix ix_seq r_ix (ve_var 0) (ve_var 2) (fun _ _ => rfl)) (va_cons (ve_ix ix_seq r_ix (ve_var 1) (ve_var 2) (fun _ _ => rfl)) va_nil)))))) va_nil))))))))))) (fun as Q h => ?_)
    · obtain ⟨f, d, rfl, _⟩ := h
      rfl
    · obtain ⟨f, d, rfl, hd, hf, q⟩ := h
      have seq : ∀ (get : List PyData → PyData), (∀ (wa wb : WE) (ρ : Rho) (ds : List PyData) (i : Int) (v : PyData), Evs wa ρ emp (.dat (get ds)) → Evs wb ρ emp (.dat (.int i)) → atI ds i = some v → Evs (wOp gIx wa wb) ρ emp (.dat v)) → ∀ as bs : List PyData, as.length = bs.length → bs.length ≤ 100000 → deps bs < n → deps as < 1000 → Q (.bool (likes as bs)) →
          lcW (lcF (.nm 2) wYes (wCall (Flike n) (waCons (wOp gIx (wVar 0) (wVar 2)) (waCons (wOp gIx (wVar 1) (wVar 2)) waNil))) [some (.dat (get as)), some (.dat (get bs)), none] emp) (rng 0 bs.length) (fun es => gAll emp [.dat (.list es)] fun a => match a with | .dat d => Q d | _ => False) := by
        intro get hget as bs hl hb db da q
        refine lcW_map (g := onI fun i => .bool (like (as.getD i .none) (bs.getD i .none))) (fun d hd R hR => ?_) ?_
        · obtain ⟨i, hi, rfl⟩ := mem_rng hd
          refine lcF_yes rfl (x_call (ea_cons (hget _ _ _ as i _ ev_v ev_v (at_getD (by omega))) (ea_cons (hget _ _ _ bs i _ ev_v ev_v (at_getD hi)) ea_nil)) ⟨_, _, rfl, ?_, ?_, hR⟩)
          · have := dep_getD (i := i) (show deps bs ≤ n - 1 by omega)
            omega
          · have := dep_getD (i := i) (show deps as ≤ 999 by omega)
            omega
        · rw [map_onI, show (List.range bs.length).map (fun i => PyData.bool (like (as.getD i .none) (bs.getD i .none))) = ((List.range bs.length).map fun i => like (as.getD i .none) (bs.getD i .none)).map PyData.bool by rw [List.map_map]; rfl]
          show (match boolsD (((List.range bs.length).map fun i : Nat => like (as.getD i .none) (bs.getD i .none)).map PyData.bool) with | some bs => _ | none => False)
          rw [bools_map]
          show Q _
          rw [likes_all hl]
          exact q
      rw [like_eq] at q
      have uneq : ∀ as bs : List PyData, as.length ≠ bs.length → likes as bs = false := fun as bs h => by
        cases e : likes as bs with
        | false => rfl
        | true => exact absurd (likes_len e) h
      cases d with
      | none => cases f <;> exact q
      | bool b => cases f <;> first | exact q | (simp [dep] at hf; done)
      | int b => cases f <;> first | exact ⟨_, rfl, hf, q⟩ | (simp [dep] at hf; done)
      | str b => cases f <;> first | exact q | (simp [dep] at hf; done)
      | dict b => simp [dep] at hd; omega
      | list bs =>
        cases f with
        | list as =>
          obtain ⟨h1, h2⟩ := dep_lst hd (by omega)
          obtain ⟨h3, h4⟩ := dep_lst hf (Nat.le_refl _)
          by_cases hl : as.length = bs.length
          · have e1 : decide (((as.length : Nat) : Int) = (bs.length : Nat)) = true := decide_eq_true (by omega)
            show if (!decide (((as.length : Nat) : Int) = (bs.length : Nat))) = true then _ else _
            rw [e1]
            refine ⟨⟨by omega, by omega⟩, by rw [rng_len]; omega, ?_⟩
            exact seq .list (fun _ _ _ _ _ _ => ev_ixL) as bs hl h1 (by omega) (by omega) q
          · have e1 : decide (((as.length : Nat) : Int) = (bs.length : Nat)) = false := decide_eq_false (by omega)
            show if (!decide (((as.length : Nat) : Int) = (bs.length : Nat))) = true then _ else _
            rw [e1]
            have q : Q (.bool (likes as bs)) := q
            rw [uneq as bs hl] at q
            exact q
        | dict _ => simp [dep] at hf
        | _ => exact q
      | tuple bs =>
        cases f with
        | tuple as =>
          obtain ⟨h1, h2⟩ := dep_tup hd (by omega)
          obtain ⟨h3, h4⟩ := dep_tup hf (Nat.le_refl _)
          by_cases hl : as.length = bs.length
          · have e1 : decide (((as.length : Nat) : Int) = (bs.length : Nat)) = true := decide_eq_true (by omega)
            show if (!decide (((as.length : Nat) : Int) = (bs.length : Nat))) = true then _ else _
            rw [e1]
            refine ⟨⟨by omega, by omega⟩, by rw [rng_len]; omega, ?_⟩
            exact seq .tuple (fun _ _ _ _ _ _ => ev_ixT) as bs hl h1 (by omega) (by omega) q
          · have e1 : decide (((as.length : Nat) : Int) = (bs.length : Nat)) = false := decide_eq_false (by omega)
            show if (!decide (((as.length : Nat) : Int) = (bs.length : Nat))) = true then _ else _
            rw [e1]
            have q : Q (.bool (likes as bs)) := q
            rw [uneq as bs hl] at q
            exact q
        | dict _ => simp [dep] at hf
        | _ => exact q
end
/-! moved: 0:plan 1:kept 2:work 3:pair -/
abbrev smoved : Stmt := topS 1
theorem scmoved : FnScope ["plan", "kept", "work", "pair"] ["plan", "kept"] (defScope smoved) := ⟨rfl, rfl, rfl, by decide +kernel, rfl, by decide +kernel, by decide +kernel⟩
abbrev Nmoved : List Str := ["plan", "kept", "work", "pair"]
abbrev psmoved : List Str := ["plan", "kept"]
/-! law: 0:_law_script 1:_law_draw 2:_law_turn 3:_law_course 4:_law_old 5:_law_at 6:_law_mode 7:_law_some 8:_law_due 9:_law_handed 10:_law_step 11:_law_found 12:_law_k -/
abbrev slaw : Stmt := topS 7
theorem sclaw : FnScope ["_law_script", "_law_draw", "_law_turn", "_law_course", "_law_old", "_law_at", "_law_mode", "_law_some", "_law_due", "_law_handed", "_law_step", "_law_found", "_law_k"] ["_law_script"] (defScope slaw) := ⟨rfl, rfl, rfl, by decide +kernel, rfl, by decide +kernel, by decide +kernel⟩
abbrev Nlaw : List Str := ["_law_script", "_law_draw", "_law_turn", "_law_course", "_law_old", "_law_at", "_law_mode", "_law_some", "_law_due", "_law_handed", "_law_step", "_law_found", "_law_k"]
abbrev pslaw : List Str := ["_law_script"]
section
variable {P : Program} {w : World} {K : PySem.W.Frag} {mg : Str → Option Value} {base : Heap}
def pr (q : Int × Int) : PyData := .tuple [.int q.1, .int q.2]
def prO : Option (Int × Int) → PyData
  | none => .none
  | some q => pr q
/-- the k-th moves -/
def mv (pl : List (Int × Int)) (ol : List (Option (Int × Int))) (k : Nat) : Option PyData := match ol[k]?, pl[k]? with
  | some (some q), some r => if q = r then none else some (.int k)
  | _, _ => none
theorem mv_eq {pl : List (Int × Int)} {ol : List (Option (Int × Int))} {i : Nat} (hi : i < ol.length) (hp : i < pl.length) : mv pl ol i = match ol[i] with | some q => (if q = pl[i] then none else some (.int i)) | none => none := by
  unfold mv
  rw [List.getElem?_eq_getElem hi, List.getElem?_eq_getElem hp]
  cases ol[i] <;> rfl
theorem mv_mem {pl : List (Int × Int)} {ol : List (Option (Int × Int))} {d : PyData} (h : d ∈ (List.range ol.length).filterMap (mv pl ol)) : ∃ k : Nat, d = .int k := by
  obtain ⟨k, _, e⟩ := List.mem_filterMap.mp h
  unfold mv at e
  split at e
  · split at e
    · cases e
    · exact ⟨k, (Option.some.inj e).symm⟩
  · cases e
theorem mv_same (pl : List (Int × Int)) : (List.range (pl.map some).length).filterMap (mv pl (pl.map some)) = [] := by
  refine List.filterMap_eq_nil_iff.mpr fun k hk => ?_
  have hk : k < pl.length := by simpa using hk
  rw [mv_eq (by simpa using hk) hk]
  simp
def Fmoved : FS := fun as Q => ∃ (pl : List (Int × Int)) (ol : List (Option (Int × Int))), as = [.dat (.list (pl.map pr)), .dat (.tuple (ol.map prO))] ∧ ol.length ≤ pl.length ∧ pl.length ≤ 1000 ∧ Q (.list ((List.range ol.length).filterMap (mv pl ol)))
theorem pr_shaped (q : Int × Int) : SeqAt.shaped (pr q) = true := rfl
theorem pr_eqv (q r : Int × Int) : PyData.eqv (pr q) (pr r) = decide (q = r) := by
  obtain ⟨a, b⟩ := q
  obtain ⟨c, d⟩ := r
  simp only [pr, PyData.eqv, PyData.eqvAll, Bool.and_true]
  by_cases h1 : a = c <;> by_cases h2 : b = d <;> simp [h1, h2]
theorem ok_moved {k : Nat} {f : Addr} {fd : FuncData} (R : Raw K mg "moved" smoved psmoved f fd) (m_enumerate : mg "enumerate" = none) : FnOk P w K mg base CX0 (k + 1) f fd psmoved (spD K true Fmoved) := by
  refine fnD R.1 scmoved (fun as Q h => ?_) (fun cdv Ar outer s H E hr => (vss_one (vs_retF (vf_lc (own := [("work", 2), ("pair", 3)]) (.tp [(.nm 2), (.nm 3)]) (by rfl) scmoved.nd (vi_enumT (by rfl) m_enumerate (va_cons (ve_var 1) va_nil)) (blkOk_by (own := [("work", 2), ("pair", 3)]) (N := ["plan", "kept", "work", "pair"]) (sc := defScope smoved) (by decide +kernel)) (fun _ _ _ _ _ => (pg_tup rfl (pgs_cons (pg_name (i := 2) scmoved.nd rfl (.inl rfl)) (pgs_cons (pg_name (i := 3) scmoved.nd rfl (.inl rfl)) pgs_nil)))) (fun _ _ _ _ _ => (vts_one (VW.vt (vw_and (vt_cmp op_notN r_notN (ve_var 3) ve_non (nomark _)) (vw_and1 (vt_cmp (op_neD hr.units) r_neD (ve_var 3) (ve_ix ix_seq r_ix (ve_var 0) (ve_var 2) (fun _ _ => rfl)) (nomark _))))))) (fun _ _ _ _ _ => (ve_var 2)))))) (fun as Q h => ?_)
  · obtain ⟨pl, ol, rfl, _⟩ := h
    rfl
  · obtain ⟨pl, ol, rfl, hl, h1, q⟩ := h
    refine x_retF (ev_lcef (g := mv pl ol) (ei_ET ev_v) (by simp; omega) fun i hi => ⟨_, rfl, ?_⟩) (by simpa using q)
    have hi : i < ol.length := by simpa using hi
    have hp : i < pl.length := by omega
    have e1 : (ol.map prO).getD i .none = prO ol[i] := by simp [List.getD, hi]
    have e2 : (pl.map pr)[i]? = some (pr pl[i]) := by simp [hp]
    rw [e1]
    rw [mv_eq hi hp]
    cases ol[i] with
    | none => exact .inr ⟨rfl, EvTs.eq (et_and (k := false) (l := true) (EvTs.eq (et_B (ev_notN (ev_v (n := 3)))) rfl) (fun z => nomatch z)) rfl⟩
    | some q =>
      have key : ∀ b, decide (q = pl[i]) = b → EvTs (wAndT (wB (wOp gNotN (wVar 3) (wC .none))) (wB (wOp gNeD (wVar 3) (wOp gIx (wVar 0) (wVar 2))))) [some (.dat (.list (pl.map pr))), some (.dat (.tuple (ol.map prO))), some (.dat (.int i)), some (.dat (pr q))] emp (!b) := fun b hb =>
        EvTs.eq (et_and (et_B (ev_notN (ev_v (n := 3)))) fun _ => et_B (ev_neD (ev_v (n := 3)) (ev_ixL (ev_v (n := 0)) (ev_v (n := 2)) (at_nat e2)) rfl rfl (pr_shaped q) (pr_shaped _))) (by rw [pr_eqv, hb]; rfl)
      by_cases e : q = pl[i]
      · exact .inr ⟨if_pos e, key true (decide_eq_true e)⟩
      · exact .inl ⟨_, if_neg e, key false (decide_eq_false e), ev_v⟩
abbrev sh13 (s : Fin 13 → Option A) : Rho := [s 0, some .drw, s 2, s 3, s 4, s 5, s 6, s 7, s 8, s 9, s 10, s 11, s 12]
theorem law_ok {f fo : Addr} {fd fdo : FuncData} (R : Raw K mg "law" slaw pslaw f fd) (R_open : Raw K mg "_law_open" s_law_open ps_law_open fo fdo) (m_list : mg "list" = none) (m_tuple : mg "tuple" = none) (m_len : mg "len" = none) (m_range : mg "range" = none)
    (D_pull : Dfn P w K mg base 1 "_law_pull" ps_law_pull (spD K false Fpull)) (D_like : Dfn P w K mg base 4 "_law_like" ps_law_like (spD K false (Flike 3)))
    {fm : Addr} {fdm : FuncData} (R_moved : Raw K mg "moved" smoved psmoved fm fdm) (G_moved0 : FnOk P w K mg base CX0 1 fm fdm psmoved (spD K true Fmoved)) : FnOk P w K mg base CX0 5 f fd pslaw (spLaw K) := by
  obtain ⟨f1, fd1, G__law_pull, m__law_pull, k__law_pull, b__law_pull⟩ := D_pull
  obtain ⟨f2, fd2, G__law_like, m__law_like, k__law_like, b__law_like⟩ := D_like
  have G_moved := G_moved0; have m_moved := R_moved.2.1; have k_moved := R_moved.1.kp; have b_moved := R_moved.2.2
  have b_moved_kept_plan_0 : KBinds K fdm psmoved ["kept", "plan"] (perm Value.none [1, 0] 0 2) (perm .non [1, 0] 0 2) := kb_mk R_moved (by decide) fun _ _ _ _ _ _ us ws h1 h2 => match us, ws, h1, h2 with | [], [_, _], _, _ => rfl
  have ga_moved_kept_plan_0 : GA (perm .non [1, 0] 0 2) (perm (.dat .none) [1, 0] 0 2) := ga_mk
  have G_open : FnOk P w K mg base CX0 1 fo fdo ps_law_open (Hv.spOpen K) := ok_open R_open.1 m_list
  refine R.1.ok sclaw (fun vs H Q E h => ?_) (fun cdv Ar outer s H vs Q E hr h => ?_)
  · obtain ⟨a, ns, rfl, _⟩ := h
    rfl
  · obtain ⟨a, ns, rfl, hS, hl, q⟩ := h
    refine ⟨_, pss_cons (ps_set (i := 1) sclaw.nd rfl (.inr rfl) (pe_call G_open (hr.mono (by omega)) (by rfl) R_open.2.1 R_open.1.kp R_open.2.2 .nil pass0 (pa_cons (pv 0) pa_nil)))
      (vss_cons (vs_for (.nm 2) PassesOwn.never rfl (vi_range1 (by rfl) m_range (va_cons ve_int va_nil)) (pg_name (i := 2) sclaw.nd rfl (.inl rfl))
      (vss_cons (vs_set (i := 3) sclaw.nd rfl (.inr rfl) (VF.ve (vf_lc (own := [("_law_k", 12)]) (.nm 12) (by rfl) sclaw.nd (vi_range1 (by rfl) m_range (va_cons (ve_call G__law_pull (hr.mono (by omega)) (by rfl) m__law_pull k__law_pull b__law_pull (va_cons (ve_var 1) (va_cons ve_int va_nil))) va_nil)) (blkOk_by (own := [("_law_k", 12)]) (N := ["_law_script", "_law_draw", "_law_turn", "_law_course", "_law_old", "_law_at", "_law_mode", "_law_some", "_law_due", "_law_handed", "_law_step", "_law_found", "_law_k"]) (sc := defScope slaw) (by decide +kernel)) (fun _ _ _ _ _ => (pg_name (i := 12) sclaw.nd rfl (.inl rfl))) (fun _ _ _ _ _ => vts_nil) (fun _ _ _ _ _ => (ve_tup (va_cons (ve_call G__law_pull (hr.mono (by omega)) (by rfl) m__law_pull k__law_pull b__law_pull (va_cons (ve_var 1) (va_cons ve_int va_nil))) (va_cons (ve_call G__law_pull (hr.mono (by omega)) (by rfl) m__law_pull k__law_pull b__law_pull (va_cons (ve_var 1) (va_cons ve_int va_nil))) va_nil)))))))
    (vss_cons (vs_own (i := 4) sclaw.nd rfl (.inr rfl) (vf_lst va_nil))
    (vss_cons (vs_for (.tp [(.nm 5), (.nm 6)]) PassesOwn.never rfl (vi_list (ve_var 3)) (pg_tup rfl (pgs_cons (pg_name (i := 5) sclaw.nd rfl (.inl rfl)) (pgs_cons (pg_name (i := 6) sclaw.nd rfl (.inl rfl)) pgs_nil)))
      (vss_cons (vs_set (i := 7) sclaw.nd rfl (.inl rfl) (VF.ve (vf_lst (va_cons (ve_tup (va_cons (ve_var 5) (va_cons (ve_var 6) va_nil))) (va_cons (ve_tup (va_cons (ve_op op_add r_add (ve_var 5) ve_int) (va_cons (ve_var 6) va_nil))) (va_cons (ve_tup (va_cons (ve_var 5) (va_cons (ve_op op_add r_add (ve_var 6) ve_int) va_nil))) (va_cons (ve_tup (va_cons (ve_var 6) (va_cons (ve_var 5) va_nil))) (va_cons ve_non (va_cons (ve_tup (va_cons (ve_var 5) (va_cons (ve_var 6) va_nil))) va_nil)))))))))
    (vss_one (vs_app (ve_var 4) (ve_ix ix_seq r_ix (ve_var 7) (ve_call G__law_pull (hr.mono (by omega)) (by rfl) m__law_pull k__law_pull b__law_pull (va_cons (ve_var 1) (va_cons ve_int va_nil))) (fun _ _ => rfl))))))
    (vss_cons (vs_setLc (i := 8) (own := [("_law_k", 12)]) (.nm 12) (by rfl) sclaw.nd rfl rfl (sw_true rfl rfl rfl (by decide +kernel)) (vi_range1 (by rfl) m_range (va_cons (VF.ve (vf_callB c_len call_len_seq (by rfl) m_len PySem.boot_len (va_cons (ve_var 3) va_nil))) va_nil)) (blkOk_by (own := [("_law_k", 12)]) (N := ["_law_script", "_law_draw", "_law_turn", "_law_course", "_law_old", "_law_at", "_law_mode", "_law_some", "_law_due", "_law_handed", "_law_step", "_law_found", "_law_k"]) (sc := defScope slaw) (by decide +kernel)) (fun _ _ _ _ _ => (pg_name (i := 12) sclaw.nd rfl (.inl rfl))) (fun _ _ _ _ _ => (vts_one (VW.vt (vw_and (vt_cmp op_notN r_notN (ve_ix ix_seq r_ix (ve_var 4) (ve_var 12) (fun _ _ => rfl)) ve_non (nomark _)) (vw_and1 (vt_cmp (op_neD hr.units) r_neD (ve_ix ix_seq r_ix (ve_var 4) (ve_var 12) (fun _ _ => rfl)) (ve_ix ix_seq r_ix (ve_var 3) (ve_var 12) (fun _ _ => rfl)) (nomark _))))))) (fun _ _ _ _ _ => (ve_var 12)))
    (vss_cons (vs_set (i := 9) sclaw.nd rfl (.inl rfl) (VF.ve (vf_callTy c_list call_list_of (by rfl) m_list (by decide +kernel) (va_cons (ve_var 3) va_nil))))
    (vss_cons (vs_for (.nm 10) PassesOwn.never rfl (vi_range1 (by rfl) m_range (va_cons ve_int va_nil)) (pg_name (i := 10) sclaw.nd rfl (.inl rfl))
      (vss_cons (vs_own (i := 11) sclaw.nd rfl (.inl rfl) (vf_call G_moved (hr.mono (by omega)) (by rfl) m_moved k_moved b_moved (va_cons (ve_var 9) (va_cons (VF.ve (vf_callTy c_tuple call_tuple_of (by rfl) m_tuple (by decide +kernel) (va_cons (ve_var 4) va_nil))) va_nil))))
    (vss_cons (vs_if (VW.vt (vw_or (vt_not (vt_val (ve_call G__law_like (hr.mono (by omega)) (by rfl) m__law_like k__law_like b__law_like (va_cons (ve_var 11) (va_cons (ve_var 8) va_nil))))) (vw_or1 (vt_cmp (op_neD hr.units) r_neD (ve_var 9) (ve_var 3) (nomark _))))) (vss_one (vs_ret ve_bl)) vss_nil)
    (vss_one (vs_app (ve_var 11) ve_int)))))
    (vss_one (vs_if (vt_not (vt_val (ve_call G__law_like (hr.mono (by omega)) (by rfl) m__law_like k__law_like b__law_like (va_cons (VF.ve (vf_lst (va_cons (VF.ve (vf_call G_moved (hr.mono (by omega)) (by rfl) m_moved k_moved b_moved (va_cons (ve_var 3) (va_cons (ve_tup va_nil) va_nil)))) (va_cons (VF.ve (vf_callK0 G_moved (hr.mono (by omega)) (by rfl) m_moved k_moved b_moved_kept_plan_0 ga_moved_kept_plan_0 (vk_cons (VF.ve (vf_callTy c_tuple call_tuple_of (by rfl) m_tuple (by decide +kernel) (va_cons (ve_var 3) va_nil))) (vk_cons (ve_var 3) vk_nil)))) va_nil)))) (va_cons (VF.ve (vf_lst (va_cons (VF.ve (vf_lst va_nil)) (va_cons (VF.ve (vf_lst va_nil)) va_nil)))) va_nil))))) (vss_one (vs_ret ve_bl)) vss_nil)))))))))
    (vss_one (vs_ret ve_bl))), ?_⟩
    refine law_start (i := 0) (n := 12) (by decide) hS hl q ?_
    refine x_for (I := fun _ ρ _ => ∃ s, ρ = sh13 s) (ei_R1 ev_k (by decide) (by decide)) ⟨fun _ => none, rfl⟩ ?_ (fun ρ μ _ => rfl)
    rintro n d ρ μ N hd ⟨s, rfl⟩ hN
    refine ⟨_, rfl, ?_⟩
    -- course
    refine x_seq (x_setN (x_lc (x_r1 (x_ac (x_pull (n := 7) fun r r0 r1 => ⟨⟨by omega, by omega⟩, by rw [rng_len]; omega, lcW_all (P := fun e => ∃ q, e = pr q) (fun d hd R hR => ?_) fun es hl hP => ?_⟩)))))
    · exact lcF_yes rfl (x_tup (x_ac (x_pull (n := 20) fun a _ _ => x_ac (x_pull (n := 3) fun b _ _ => ⟨Nat.le_of_ble_eq_true rfl, hR _ ⟨(a, b), rfl⟩⟩))))
    obtain ⟨pl, rfl⟩ := list_of hP
    have hpl : pl.length ≤ 7 := by
      rw [List.length_map, rng_len] at hl
      omega
    -- old = []
    refine x_seq (x_own (ev_lst ea_nil) rfl fun p np => ?_)
    -- for at, mode in course
    dsimp only
    refine x_seq (x_for (I := fun n ρ μ => ∃ s5 s6 s7, ∃ ol : List (Option (Int × Int)), ol.length = n ∧ ρ = [s 0, some .drw, some (.dat d), some (.dat (.list (pl.map pr))), some (.own p), s5, s6, s7, s 8, s 9, s 10, s 11, s 12] ∧ μ p = some ((ol.map prO).map .dat)) (ei_L ev_v) ⟨s 5, s 6, s 7, [], rfl, rfl, put_same⟩ ?_ ?_)
    · rintro n e ρ μ2 N2 he ⟨s5, s6, s7, ol, hn, rfl, hm⟩ hN2
      obtain ⟨i, hi, rfl⟩ : ∃ q, pl[n]? = some q ∧ e = pr q := by
        rw [List.getElem?_map] at he
        cases h : pl[n]? with
        | none => rw [h] at he; cases he
        | some q => rw [h] at he; exact ⟨q, rfl, (Option.some.inj he).symm⟩
      obtain ⟨at_, mode⟩ := i
      have hlt : n < pl.length := by
        rcases Nat.lt_or_ge n pl.length with h | h
        · exact h
        · rw [List.getElem?_eq_none h] at hi; cases hi
      refine ⟨_, rfl, x_seq (x_set (ev_lst (ea_cons (ev_tup (ea_cons ev_v (ea_cons ev_v ea_nil))) (ea_cons (ev_tup (ea_cons (ev_I ev_v ev_k) (ea_cons ev_v ea_nil))) (ea_cons (ev_tup (ea_cons ev_v (ea_cons (ev_I ev_v ev_k) ea_nil))) (ea_cons (ev_tup (ea_cons ev_v (ea_cons ev_v ea_nil))) (ea_cons ev_k (ea_cons (ev_tup (ea_cons ev_v (ea_cons ev_v ea_nil))) ea_nil))))))) ?_)⟩
      dsimp only
      refine x_appN (p := p) ev_v hm (x_op ev_v (x_pull (n := 6) fun r r0 r1 => ?_))
      obtain ⟨o, ho⟩ : ∃ o, atI [pr (at_, mode), pr (at_ + 1, mode), pr (at_, mode + 1), pr (mode, at_), .none, pr (at_, mode)] r = some (prO o) := by
        rcases (show r = 0 ∨ r = 1 ∨ r = 2 ∨ r = 3 ∨ r = 4 ∨ r = 5 by omega) with rfl | rfl | rfl | rfl | rfl | rfl
        · exact ⟨some _, rfl⟩
        · exact ⟨some _, rfl⟩
        · exact ⟨some _, rfl⟩
        · exact ⟨some _, rfl⟩
        · exact ⟨none, rfl⟩
        · exact ⟨some _, rfl⟩
      refine x_ixL ho ⟨by simp; omega, hN2 _ _ ⟨_, _, _, ol ++ [o], by simp [hn], rfl, ?_⟩⟩
      rw [put_same]
      simp
    · rintro ρ μ2 ⟨s5, s6, s7, ol, hn, rfl, hm⟩
      have hol : ol.length = pl.length := by simpa using hn
      have ato : ∀ i (h : i < pl.length), atI ((ol.map prO).map A.dat) (i : Int) = some (.dat (prO (ol[i]'(by omega)))) := fun i h => at_natA (by simp [show i < ol.length by omega])
      have atp : ∀ i (h : i < pl.length), atI (pl.map pr) (i : Int) = some (pr pl[i]) := fun i h => at_nat (by simp [h])
      -- due
      dsimp only
      refine x_seq (x_set (ev_lcrf (n := ol.length) (g := mv pl ol) (EvIs.eq (ei_R1 (ev_len ev_v rfl) (by omega) (by simp; omega)) (by simp [hol])) (by omega) fun i hi => ⟨_, rfl, ?_⟩) ?_)
      · have hp : i < pl.length := by omega
        rw [mv_eq hi hp]
        have e1 := ato i hp
        have e2 := atp i hp
        cases ho : ol[i] with
        | none =>
          rw [ho] at e1
          exact .inr ⟨rfl, EvTs.eq (et_and (k := false) (l := true) (EvTs.eq (et_B (ev_notN (ev_ixO ev_v ev_v hm e1))) rfl) (fun z => nomatch z)) rfl⟩
        | some q =>
          rw [ho] at e1
          by_cases e : q = pl[i]
          · exact .inr ⟨if_pos e, EvTs.eq (et_and (et_B (ev_notN (ev_ixO ev_v ev_v hm e1))) fun _ => et_B (ev_neD (ev_ixO ev_v ev_v hm e1) (ev_ixL ev_v ev_v e2) rfl rfl (pr_shaped q) (pr_shaped _))) (by rw [show prO (some q) = pr q from rfl, pr_eqv, decide_eq_true e]; rfl)⟩
          · exact .inl ⟨_, if_neg e, EvTs.eq (et_and (et_B (ev_notN (ev_ixO ev_v ev_v hm e1))) fun _ => et_B (ev_neD (ev_ixO ev_v ev_v hm e1) (ev_ixL ev_v ev_v e2) rfl rfl (pr_shaped q) (pr_shaped _))) (by rw [show prO (some q) = pr q from rfl, pr_eqv, decide_eq_false e]; rfl), ev_v⟩
      -- handed
      dsimp only
      refine x_seq (x_set (ev_list ev_v rfl) ?_)
      dsimp only
      generalize hdue : (List.range ol.length).filterMap (mv pl ol) = due
      have hint : ∀ d ∈ due, ∃ k : Nat, d = .int k := fun d hd => by rw [← hdue] at hd; exact mv_mem hd
      have hlen : due.length ≤ 7 := by
        rw [← hdue]
        have := List.length_filterMap_le (mv pl ol) (List.range ol.length)
        rw [List.length_range] at this
        omega
      have hdep : deps due < 1 := deps_lt (fun d hd => by obtain ⟨k, rfl⟩ := hint d hd; exact Nat.zero_lt_one) (by decide)
      have hnol : nols due = true := nols_of fun d hd => by obtain ⟨k, rfl⟩ := hint d hd; rfl
      have hd2 : dep (.list due) < 2 := dep_lst_of (by omega) hdep
      have hsh : SeqAt.shaped (.list (pl.map pr)) = true := shp_list fun d hd => by obtain ⟨q, _, rfl⟩ := List.mem_map.mp hd; exact ⟨rfl, by show 1 ≤ 60; decide⟩
      refine x_seq (x_for (I := fun n ρ μ => ∃ s10 s11, ρ = [s 0, some .drw, some (.dat d), some (.dat (.list (pl.map pr))), some (.own p), s5, s6, s7, some (.dat (.list due)), some (.dat (.list (pl.map pr))), s10, s11, s 12] ∧ μ p = some ((ol.map prO).map .dat)) (ei_R1 ev_k (by decide) (by decide)) ⟨_, _, rfl, hm⟩ ?_ ?_)
      · rintro n e ρ μ3 N3 he ⟨s10, s11, rfl, hm3⟩ hN3
        refine ⟨_, rfl, x_seq (x_own (ds := due) (ev_call (ea_cons ev_v (ea_cons (ev_tuple ev_v (seqA_own hm3)) ea_nil)) (fun Q q => ⟨pl, ol, rfl, by omega, by omega, by rw [hdue]; exact q⟩)) hnol fun p2 np2 => ?_)⟩
        dsimp only
        have ne : p ≠ p2 := fun z => by rw [z, np2] at hm3; cases hm3
        refine x_seq (x_if (k := false) (EvTs.eq (et_or (k := false) (l := false) (EvTs.eq (et_not (et_B (ev_callO (d := .bool (like (.list due) (.list due))) (ea_cons ev_v (ea_cons ev_v ea_nil)) (rsvs_own put_same) (fun Q q => ⟨_, _, rfl, by omega, by omega, q⟩) rfl))) (by rw [like_refl _ (by omega)]; rfl)) (fun _ => EvTs.eq (et_B (ev_neD ev_v ev_v rfl rfl hsh hsh)) (by rw [eqv_same hsh]; rfl))) rfl) (fun z => nomatch z) (fun _ => ?_))
        dsimp only [wNext]
        exact x_app (p := p2) ev_v put_same ev_k (by simp; omega) (hN3 _ _ ⟨_, _, rfl, by rw [put_ne ne, put_ne ne]; exact hm3⟩)
      · rintro ρ μ3 ⟨s10, s11, rfl, hm3⟩
        dsimp only
        refine x_if (k := false) (EvTs.eq (et_not (et_B (ev_call (d := .bool (like (.list [.list [], .list []]) (.list [.list [], .list []]))) (ea_cons (ev_lst (ea_cons (ev_call (ea_cons ev_v (ea_cons (ev_tup ea_nil) ea_nil)) (fun Q q => ⟨pl, [], rfl, Nat.zero_le _, by omega, q⟩)) (ea_cons (ev_callK ea_nil (ea_cons (ev_tuple ev_v rfl) (ea_cons ev_v ea_nil)) (fun Q q => ⟨pl, pl.map some, by rw [List.map_map], by simp, by omega, by rw [mv_same]; exact q⟩)) ea_nil))) (ea_cons (ev_lst (ea_cons (ev_lst ea_nil) (ea_cons (ev_lst ea_nil) ea_nil))) ea_nil)) (fun Q q => ⟨_, _, rfl, by decide, by decide, q⟩)))) rfl) (fun z => nomatch z) (fun _ => ?_)
        exact hN _ _ ⟨fun k => match k with | 0 => s 0 | 2 => some (.dat d) | 3 => some (.dat (.list (pl.map pr))) | 4 => some (.own p) | 5 => s5 | 6 => s6 | 7 => s7 | 8 => some (.dat (.list due)) | 9 => some (.dat (.list (pl.map pr))) | 10 => s10 | 11 => s11 | 12 => s 12 | _ => none, rfl⟩
end
theorem all_mk {l : PySem.W.OpenLaw} {w : World} {K : PySem.W.Frag} {h : Heap} {mg : Str → Option Value} {fa : Addr} (X : K.In h) (G : h.Ns mainGlobals mg) (hfa : mg "law" = some (.ref fa))
    {f0 : Addr} {od0 an0 : Option Addr} {sl0 : Array (Option Value)} {oc0 kV0 dc0 pm0 cd0 ct0 : Value} (a0 : PySem.W.nsIn K mainGlobals "moved" = some (some (.ref f0))) (l0 : K.lookup f0 = some ⟨oc0, od0, .func (PySem.W.fnOf "moved" "moved" (defArgs smoved) (defBody smoved) (defScope smoved) .none kV0 dc0 pm0 an0 cd0 ct0), sl0⟩) (c0 : PySem.W.codeIn K cd0 "moved" = true) (k0 : PySem.W.keepIn K (.ref f0) = true)
    {f1 : Addr} {od1 an1 : Option Addr} {sl1 : Array (Option Value)} {oc1 kV1 dc1 pm1 cd1 ct1 : Value} (a1 : PySem.W.nsIn K mainGlobals "_law_open" = some (some (.ref f1))) (l1 : K.lookup f1 = some ⟨oc1, od1, .func (PySem.W.fnOf "_law_open" "_law_open" (defArgs s_law_open) (defBody s_law_open) (defScope s_law_open) .none kV1 dc1 pm1 an1 cd1 ct1), sl1⟩) (c1 : PySem.W.codeIn K cd1 "_law_open" = true) (k1 : PySem.W.keepIn K (.ref f1) = true)
    {f2 : Addr} {od2 an2 : Option Addr} {sl2 : Array (Option Value)} {oc2 kV2 dc2 pm2 cd2 ct2 : Value} (a2 : PySem.W.nsIn K mainGlobals "_law_pull" = some (some (.ref f2))) (l2 : K.lookup f2 = some ⟨oc2, od2, .func (PySem.W.fnOf "_law_pull" "_law_pull" (defArgs s_law_pull) (defBody s_law_pull) (defScope s_law_pull) .none kV2 dc2 pm2 an2 cd2 ct2), sl2⟩) (c2 : PySem.W.codeIn K cd2 "_law_pull" = true) (k2 : PySem.W.keepIn K (.ref f2) = true)
    {f3 : Addr} {od3 an3 : Option Addr} {sl3 : Array (Option Value)} {oc3 kV3 dc3 pm3 cd3 ct3 : Value} (a3 : PySem.W.nsIn K mainGlobals "_law_num" = some (some (.ref f3))) (l3 : K.lookup f3 = some ⟨oc3, od3, .func (PySem.W.fnOf "_law_num" "_law_num" (defArgs s_law_num) (defBody s_law_num) (defScope s_law_num) .none kV3 dc3 pm3 an3 cd3 ct3), sl3⟩) (c3 : PySem.W.codeIn K cd3 "_law_num" = true) (k3 : PySem.W.keepIn K (.ref f3) = true)
    {f4 : Addr} {od4 an4 : Option Addr} {sl4 : Array (Option Value)} {oc4 kV4 dc4 pm4 cd4 ct4 : Value} (a4 : PySem.W.nsIn K mainGlobals "_law_like" = some (some (.ref f4))) (l4 : K.lookup f4 = some ⟨oc4, od4, .func (PySem.W.fnOf "_law_like" "_law_like" (defArgs s_law_like) (defBody s_law_like) (defScope s_law_like) .none kV4 dc4 pm4 an4 cd4 ct4), sl4⟩) (c4 : PySem.W.codeIn K cd4 "_law_like" = true) (k4 : PySem.W.keepIn K (.ref f4) = true)
    {f5 : Addr} {od5 an5 : Option Addr} {sl5 : Array (Option Value)} {oc5 kV5 dc5 pm5 cd5 ct5 : Value} (a5 : PySem.W.nsIn K mainGlobals "law" = some (some (.ref f5))) (l5 : K.lookup f5 = some ⟨oc5, od5, .func (PySem.W.fnOf "law" "law" (defArgs slaw) (defBody slaw) (defScope slaw) .none kV5 dc5 pm5 an5 cd5 ct5), sl5⟩) (c5 : PySem.W.codeIn K cd5 "law" = true) (k5 : PySem.W.keepIn K (.ref f5) = true)
    (zenumerate : PySem.W.nsIn K mainGlobals "enumerate" = some none)
    (zlist : PySem.W.nsIn K mainGlobals "list" = some none)
    (ztuple : PySem.W.nsIn K mainGlobals "tuple" = some none)
    (zlen : PySem.W.nsIn K mainGlobals "len" = some none)
    (zrange : PySem.W.nsIn K mainGlobals "range" = some none)
    (zisinstance : PySem.W.nsIn K mainGlobals "isinstance" = some none)
    (zint : PySem.W.nsIn K mainGlobals "int" = some none)
    (zbool : PySem.W.nsIn K mainGlobals "bool" = some none)
    (zstr : PySem.W.nsIn K mainGlobals "str" = some none)
    (zall : PySem.W.nsIn K mainGlobals "all" = some none)
    : ∃ fd : FuncData, (∀ (s : Shared) (v : Value), BindsTo s fd ⟨[v], []⟩ [("_law_script", v)]) ∧ ∀ base : Heap, K.In base → base.Ns mainGlobals mg → FnOk l.prog w K mg base CX0 5 fa fd ["_law_script"] (spLaw K) := by
  have e := hfa.symm.trans (PySem.W.mg_of X G a5)
  cases e
  have R_moved := raw_mk (ps := psmoved) X G a0 l0 c0 k0 fun _ _ _ _ _ _ us hl => match us, hl with | [_, _], _ => rfl
  have R__law_open := raw_mk (ps := ps_law_open) X G a1 l1 c1 k1 fun _ _ _ _ _ _ us hl => match us, hl with | [_], _ => rfl
  have R__law_pull := raw_mk (ps := ps_law_pull) X G a2 l2 c2 k2 fun _ _ _ _ _ _ us hl => match us, hl with | [_, _], _ => rfl
  have R__law_num := raw_mk (ps := ps_law_num) X G a3 l3 c3 k3 fun _ _ _ _ _ _ us hl => match us, hl with | [_], _ => rfl
  have R__law_like := raw_mk (ps := ps_law_like) X G a4 l4 c4 k4 fun _ _ _ _ _ _ us hl => match us, hl with | [_, _], _ => rfl
  have R_law := raw_mk (ps := pslaw) X G a5 l5 c5 k5 fun _ _ _ _ _ _ us hl => match us, hl with | [_], _ => rfl
  have m_enumerate := PySem.W.mg_none_of X G zenumerate
  have m_list := PySem.W.mg_none_of X G zlist
  have m_tuple := PySem.W.mg_none_of X G ztuple
  have m_len := PySem.W.mg_none_of X G zlen
  have m_range := PySem.W.mg_none_of X G zrange
  have m_isinstance := PySem.W.mg_none_of X G zisinstance
  have m_int := PySem.W.mg_none_of X G zint
  have m_bool := PySem.W.mg_none_of X G zbool
  have m_str := PySem.W.mg_none_of X G zstr
  have m_all := PySem.W.mg_none_of X G zall
  refine ⟨PySem.W.fnOf "law" "law" (defArgs slaw) (defBody slaw) (defScope slaw) .none kV5 dc5 pm5 an5 cd5 ct5, fun s v => .of_eq rfl, fun base _ _ => ?_⟩
  exact law_ok R_law R__law_open m_list m_tuple m_len m_range (d_pull R__law_pull m_len) (d_like R__law_like (d_num R__law_num m_isinstance m_int m_bool) m_isinstance m_int m_bool m_str m_tuple m_list m_len m_all m_range 3 (by decide)) R_moved (ok_moved R_moved m_enumerate)
end HLaw
open PySem PySem.W PyProof.Rows
set_option maxHeartbeats 0 in
theorem PySem.Challenge.cw_hodman_k11_works_that_move_holds : PySem.Challenge.rw_hodman_k11_works_that_move.Holds := by
  w_on; o_law; k_head; (case hw => w_witness2)
  k_fill
  refine L2.walk_of (l := PySem.Challenge.rw_hodman_k11_works_that_move) (n := 63) (k := 5) (x := "_law_script") (CX := fun _ => L2.CX0) (sp := fun w => Hv.spLaw _) rfl (by decide) rfl ⟨rfl, by decide, by decide⟩ (fun w h Y => PySem.W.kIn_of Y) ?F (fun _ _ a ns hl _ hS => ⟨a, ns, rfl, hS, hl, fun _ => rfl⟩) (fun _ _ _ _ _ h => h)
  case F =>
    intro w mg fa h KX G hmg
    refine' HLaw.all_mk KX G hmg ?a0 ?l0 ?c0 ?k0 ?a1 ?l1 ?c1 ?k1 ?a2 ?l2 ?c2 ?k2 ?a3 ?l3 ?c3 ?k3 ?a4 ?l4 ?c4 ?k4 ?a5 ?l5 ?c5 ?k5 ?zenumerate ?zlist ?ztuple ?zlen ?zrange ?zisinstance ?zint ?zbool ?zstr ?zall
    (case a0 => k_is); (case l0 => k_is); (case c0 => k_is); (case k0 => k_is); (case a1 => k_is); (case l1 => k_is); (case c1 => k_is); (case k1 => k_is); (case a2 => k_is); (case l2 => k_is); (case c2 => k_is); (case k2 => k_is); (case a3 => k_is); (case l3 => k_is); (case c3 => k_is); (case k3 => k_is); (case a4 => k_is); (case l4 => k_is); (case c4 => k_is); (case k4 => k_is); (case a5 => k_is); (case l5 => k_is); (case c5 => k_is); (case k5 => k_is); (case zenumerate => k_is); (case zlist => k_is); (case ztuple => k_is); (case zlen => k_is); (case zrange => k_is); (case zisinstance => k_is); (case zint => k_is); (case zbool => k_is); (case zstr => k_is); (case zall => k_is)
