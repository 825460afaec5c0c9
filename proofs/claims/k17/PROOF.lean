import PyProof.Rows.All
import Wide.All
import OpenK.AllK
import Wide.FinOn
import HandS.Base
import HandS.Call
import HandS.List
import HandS.Comp
import HandS.Iter
import HandS.Words
import HandS.WordsList
import HandS.IsInst
import HandS.Walk
import HandS.Ends
import KE.GoesEnum
import HandS.Lambda
import HandS.ExcOwn
import HandS.Zip
import HandS.Defaults
import HandS.SortKw
import KE.DataMinMax
import HandS.TupAny
import HandS.SetFor
import HandS.Strs
import HandS.TupSets
import KE.SortData
import HandS.Flow
import HandS.Deep
import HandS.More
import HandS.Style
import HandS.Star
import HandS.ExcInit
import HandS.Nested
import HandS.FStr
import KE.KExcSuper
import HandS.WordsExc
import HandS.ExcField
import HandS.TryMany
import HandS.EndTab
import HandS.Dict
import HandS.WrittenGet
import KE.KDictLaws
import HandS.CallLocal
import HandS.TupMul
import KE.KTupSum
import PySem.Challenge.RW_hodman_k17_sayings_refused
set_option Elab.async false
set_option linter.all false
set_option maxRecDepth 100000
namespace Hod
open PySem PySem.Spec PyProof.Rows L2
/-! ### enumerate(tuple) -/
abbrev enumObj (n : Addr) : Obj := { cls := .type "enumerate", data := .fields #[.none, .bool false, .ref n, rawInt 0, .none, .none] }
set_option maxHeartbeats 1000000 in
theorem enumNew1 {v : Value} {ob : Obj} {HH : Heap → Prop} (B : Begins v ob HH) :
    Meets (Builtin.«enumerate.__new__» ⟨[.type "enumerate", v], []⟩) (fun _ R z => HH z.heap ∧
      R (.ok (.ret (.ref (z.heap.push ob).objs.size))) { z with heap := (z.heap.push ob).push (enumObj z.heap.objs.size) }) :=
  .of_wp fun prog w A R z hyp => by
    obtain ⟨hp, gg, dd, tk, oo⟩ := z
    obtain ⟨st, hyp⟩ := hyp
    have isub := sub_enumerate
    have go1 : ∀ {A2 : Around} {E2 : Value → Shared → Prop} {Q2 : Value → Shared → Prop}, Q2 (.ref hp.objs.size) ⟨hp.push ob, gg, dd, tk, oo⟩ → wpAny (model prog w) A2 (pyIter v) Q2 E2 ⟨hp, gg, dd, tk, oo⟩ :=
      fun q => B.iter prog w _ _ ⟨hp, gg, dd, tk, oo⟩ _ st q
    wp_walk using go1
    refine wpAny_stack_any fun _ => wpAny_pure ?_
    split
    · rename_i cc _ _ _ _ _
      cases (cc == Value.type "enumerate") <;> (wp_walk using go1; exact ⟨_, rfl, hyp⟩)
    · wp_walk using go1
      exact ⟨_, rfl, hyp⟩
theorem enumCall1 {prog : Program} {w : World} {A : Around} {E : Value → Shared → Prop} {z : Shared} {v : Value} {ob : Obj} {HH : Heap → Prop} {Q : Value → Shared → Prop} (B : Begins v ob HH) (st : HH z.heap)
    (k : ∀ h2, IsEnum h2 (z.heap.objs.size + 1) z.heap.objs.size 0 .none → h2.get? z.heap.objs.size = some ob → h2.objs.size = z.heap.objs.size + 2 →
      (∀ b u, z.heap.get? b = some u → h2.get? b = some u) → Q (.ref (z.heap.objs.size + 1)) { z with heap := h2 }) :
    wpAny (model prog w) A (call (.type "enumerate") [v]) Q E z := by
  refine callType_new F.called_enumerate (by decide) (F.typeCall_enumerate_1 _) (F.newCall_enumerate_1 _) (fun ob2 => F.args_object_init_2 ob2 _) F.entry_enumerate_new (enumNew1 B) ⟨st, ?_⟩
  have hz : (z.heap.push ob).objs.size = z.heap.objs.size + 1 := Heap.size_push ..
  show _ ∧ _
  rw [hz]
  have he : IsEnum ((z.heap.push ob).push (enumObj z.heap.objs.size)) (z.heap.objs.size + 1) z.heap.objs.size 0 .none := by
    have q := Heap.get?_push_size (z.heap.push ob) (o := enumObj z.heap.objs.size) rfl
    rw [hz] at q
    exact q
  exact ⟨⟨_, he, rfl⟩, k _ he (Heap.get?_push_of_some _ (Heap.get?_push_size _ B.free)) (by rw [Heap.size_push, hz]) fun b u y => Heap.get?_push_of_some _ (Heap.get?_push_of_some _ y)⟩
/-- the tuple at a, each item in a new pair -/
def Iet (K : PySem.W.Frag) (a : Addr) : It :=
  ⟨fun i H => ∃ (xs : List V) (x : V), SqT K H a xs ∧ xs[i]? = some x,
   fun i H v H2 => ∃ T x, v = .ref T ∧ H T = none ∧ H2 = upd H T (.tup [.int (i : Nat), x]) ∧ ∀ xs, SqT K H a xs → xs[i]? = some x,
   fun i H => ∃ xs : List V, SqT K H a xs ∧ xs.length = i⟩
theorem turn_enumT {P : Program} {w : World} {K : PySem.W.Frag} {elts : List Expr} {kk : Nat} {tpos : Pos} (a e it : Addr) (hai : a ≠ it) (hae : a ≠ e) :
    Turn P w K (.Tuple elts kk tpos) (Iet K a) [e, it] e (fun i h => (∃ old, IsEnum h e it ((i : Nat) : Int) old) ∧ h.IsTupleIter it a i ∧ e ≠ it) where
  mem := by simp
  obj := fun i h st b hb => by
    obtain ⟨⟨old, he⟩, ⟨u, hu, hc, hd⟩, _⟩ := st
    have e2 : b = e ∨ b = it := by simpa using hb
    rcases e2 with z | z
    · rw [z]; exact ⟨_, he, fun v q => nomatch q⟩
    · rw [z]; exact ⟨u, hu, fun v q => by rw [hd] at q; cases q⟩
  keep := fun i h h2 st k => let ⟨⟨old, he⟩, hi, hne⟩ := st; ⟨⟨old, k e (by simp) _ he⟩, hi.at fun u q => k it (by simp) u q, hne⟩
  item := by
    intro X hP hw hK hc i pins s σ H E I hf st hg
    subst hP hw hK
    obtain ⟨⟨old, he⟩, hit, hne⟩ := st
    obtain ⟨xs, x, hq, hx⟩ := hg
    obtain ⟨its, rv, p, hz⟩ := I.tuple hq
    obtain ⟨u, hu, ru⟩ := rv.get hx
    have hel : e < s.heap.objs.size := Heap.lt_size he
    have hil : it < s.heap.objs.size := by obtain ⟨_, q, _⟩ := hit; exact Heap.lt_size q
    have hpT : s.heap.IsTuple a its.toArray := p
    have hlt : i < its.toArray.size := by
      have q := (List.getElem?_eq_some_iff.mp hu).1
      simpa using q
    refine wpAny_pyNext_enum_itemD (Draws.tuple (A := X.A.in1) (show X.A.in1.handled = none from I.ok.hd hc) it a hai its.toArray) he ⟨hit, hpT⟩ hlt hne (by simp; exact ⟨hne, fun q => hae q.symm⟩) fun x2 h2 tk hP ho hs2 hT hsz hk => ?_
    have ex : x2 = u := by
      have q : its.toArray[i]? = some u := by simpa using hu
      exact Option.some.inj (hP.symm.trans q)
    subst ex
    refine ⟨_, rfl, wpAny_letOwnedTupleGo_enum (s := { s with heap := h2, toks := tk + 1 }) ho fun h3 he3 sb => ?_⟩
    have hT2 : h3.get? s.heap.objs.size = some { cls := .type "tuple", data := .seq #[.int i tk, x2] } := (sb.2 _ (Nat.ne_of_gt hel)).trans hT
    have new : ObjOk X.prog X.w (upd H s.heap.objs.size (.tup [.int (i : Nat), x])) h3 s.heap.objs.size (.tup [.int (i : Nat), x]) :=
      ⟨by show 2 ≤ sizeLine; decide, [.int i tk, x2], .cons ⟨_, rfl⟩ (.cons ru .nil), ⟨_, hT2, rfl, _, rfl⟩⟩
    have I1 : Inv X pins σ (upd H s.heap.objs.size (.tup [.int (i : Nat), x])) { s with heap := h3, toks := tk + 1 } :=
      I.turnedNew (ch := [e, it]) (fun b ob hb q => (sb.2 b (fun z => hb (by simp [z]))).trans (hk b ob (fun z => hb (by simp [z])) (fun z => hb (by simp [z])) q)) hf (Nat.le_refl _) new
    refine ⟨.ref s.heap.objs.size, _, I1, rfl, ⟨_, x, rfl, I.hok.fresh (Nat.le_refl _), rfl, fun ys hy => by rw [I.tuple_inj hy hq]; exact hx⟩, ⟨⟨x2, ?_⟩, hs2.1.at fun u q => (sb.2 it (Ne.symm hne)).trans q, hne⟩, fun b hb => ?_⟩
    · have e1 : ((i + 1 : Nat) : Int) = (i : Int) + 1 := by omega
      rw [e1]; exact he3
    · have hb2 : b < s.heap.objs.size := by
        have e2 : b = e ∨ b = it := by simpa using hb
        rcases e2 with z | z
        · rw [z]; exact hel
        · rw [z]; exact hil
      rw [upd_ne (Nat.ne_of_lt hb2)]
      exact (hf b hb).1
  done := by
    intro X hP hw hK hc i pins s σ H E I hf st hg
    subst hP hw hK
    obtain ⟨⟨old, he⟩, hit, hne⟩ := st
    obtain ⟨xs, hq, hx⟩ := hg
    obtain ⟨its, rv, p, hz⟩ := I.tuple hq
    obtain ⟨f0, f1, f2, f3, f4, f5⟩ := hf it (by simp)
    have hl : i = its.toArray.size := by
      have q := rv.length
      simp only [List.size_toArray]
      omega
    subst hl
    have hpT : s.heap.IsTuple a its.toArray := p
    exact wpAny_pyNext_enum_endD (Draws.tuple (A := X.A.in1) (show X.A.in1.handled = none from I.ok.hd hc) it a hai its.toArray) he ⟨hit, hpT⟩ fun h2 eb => ⟨rfl, I.turned (t' := s.toks) (fun b u hb q => eb b u hb q) f0 f1 f3 f4 f5⟩
  self := fun A i s Q E st h => let ⟨⟨_, he⟩, _⟩ := st; wpAny_pyIter_enum he h
def iEnT (K : PySem.W.Frag) (ta : TA) : TI := fun σ H R => ta σ H fun vs H1 => ∃ a xs, vs = [.ref a] ∧ SqT K H1 a xs ∧ R (Iet K a) H1
theorem pi_enumT {X : Cx} {e : Expr} {ta : TA} {p pos tpos : Pos} {elts : List Expr} {kk : Nat} (hg : Gl X "enumerate") (hm : X.mg "enumerate" = none) (ha : PA X [e] ta) (hs : starEach [e] X.env = [(false, eval e X.env)] := by rfl) :
    PI X (.Tuple elts kk tpos) (.Call (.Name "enumerate" p) [e] [] pos) (iEnT X.K ta) := by
  refine ⟨fun pins s σ H R I hyp => ?_⟩
  refine Call_ (ld_blt I hg hm boot_enumerate (PyProof.Rows.callWith_type1 (thn (ha.run pos pins s σ H _ I hyp) fun us s1 ⟨vs, H1, I1, r1, q1⟩ => ?_) hs rfl))
  obtain ⟨a, xs, ex, hq, q⟩ := q1
  subst ex
  cases r1 with
  | cons r rr =>
    cases rr
    cases r
    obtain ⟨its, rv, p2, hz⟩ := I1.tuple hq
    have hpT : s1.heap.IsTuple a its.toArray := p2
    have hal : a < s1.heap.objs.size := by obtain ⟨_, y, _⟩ := hpT; exact Heap.lt_size y
    refine enumCall1 (begins_tuple a its.toArray) hpT fun h2 he hit hsz hk => wpAny_pyIter_enum he ?_
    have I2 : Inv X pins σ H1 { s1 with heap := h2 } := I1.kept (t' := s1.toks) hk
    refine ⟨s1.heap.objs.size + 1, [s1.heap.objs.size + 1, s1.heap.objs.size], _, _, H1, rfl, I2, turn_enumT a (s1.heap.objs.size + 1) s1.heap.objs.size (Nat.ne_of_lt hal) (Nat.ne_of_lt (Nat.lt_succ_of_lt hal)), ⟨⟨.none, he⟩, ⟨_, hit, rfl, rfl⟩, Nat.succ_ne_self _⟩, fun b hb => ?_, q⟩
    have e2 : b = s1.heap.objs.size + 1 ∨ b = s1.heap.objs.size := by simpa using hb
    have hle : s1.heap.objs.size ≤ b := by
      rcases e2 with z | z
      · rw [z]; exact Nat.le_succ _
      · rw [z]; exact Nat.le_refl _
    exact I1.fpOk hle (I1.hok.fresh hle)
end Hod
/-! PART2 -/
namespace Hod
open PySem PySem.Spec PyProof.Rows L2
theorem walk_enumT {K : PySem.W.Frag} {a : Addr} {xs : List V} : Walk (Iet K a) xs.length (fun H => SqT K H a xs) (YPair (fun i => some (.int (i : Nat))) (fun i => xs[i]?)) := by
  refine ⟨fun i _ hi q => ⟨xs, xs[i], q, by simp [hi]⟩, fun _ q => ⟨xs, q, rfl⟩, fun i H v H2 _ q y => ?_⟩
  obtain ⟨T, x, h1, h2, h3, h4⟩ := y
  exact ⟨T, .int (i : Nat), x, h1, h2, h3, rfl, h4 xs q⟩
section
variable {X : Cx} {CX : CXT} {k : Nat} {f : Addr} {fd : FuncData} {ps ks : List Str} {sp : Sp} {E : XK} {x : Str} {p pos : Pos} {kws : List Keyword} {tk : TA} {g : List Value → List Value → List Value} {gV : List V → List V → List V}
/-- f(a=.., b=..): all by name -/
theorem pe_callK0 (F : FnOk X.prog X.w X.K X.mg X.base CX k f fd ps sp) (hr : Room k X.A) (hg : Gl X x) (hm : X.mg x = some (.ref f)) (hk : PySem.W.keepIn X.K (.ref f) = true) (hb : KBinds X.K fd ps ks g gV) (hx : Passes CX X E) (hkw : PK X kws tk)
    (hall : (backToKw pos (keywordEach kws X.env)).all (·.1.isSome) = true := by rfl) (hks : (backToKw pos (keywordEach kws X.env)).filterMap (·.1) = ks := by rfl) (hdb : (x == ("__debug__" : Str)) = false := by decide)
    (hpl : ((backTo pos (starEach [] X.env)).any (·.1) || (backToKw pos (keywordEach kws X.env)).any (·.1.isNone)) = false := by rfl) : PE X (.Call (.Name x p) [] kws pos) (tCallK sp gV E tNil tk) := by
  refine ⟨fun pins s σ H Q I hyp => wpAny_Call_Name_kw (ld_glob I hg hm ?_ hdb)⟩
  refine PySem.W.callWith_KW0 (h₀ := X.base) I.ok.mod.kin hk hall (thn (hkw.run pos pins s σ H _ I hyp) fun ws s2 ⟨zs, H2, I2, rz, q2⟩ => ⟨I2.kIn, ?_⟩) hpl
  rw [hks]
  exact run_fnk F hr hb hx I2 .nil rz q2
/-- a statement by a word of one's own -/
theorem ps_weak {st : Stmt} {t u : TS} (hs : PS X st t) (w : ∀ D σ H, u D σ H → t D σ H) : PS X st u := ⟨fun pins s σ H D I q => hs.run pins s σ H D I (w D σ H q)⟩
theorem pss_weak {st : List Stmt} {t u : TS} (hs : PSs X st t) (w : ∀ D σ H, u D σ H → t D σ H) : PSs X st u := ⟨fun pins s σ H D I q => hs.run pins s σ H D I (w D σ H q)⟩
theorem pe_weak {e : Expr} {t u : TE} (hs : PE X e t) (w : ∀ σ H Q, u σ H Q → t σ H Q) : PE X e u := ⟨fun pins s σ H Q I q => hs.run pins s σ H Q I (w σ H Q q)⟩
end
/-! ### heaps -/
theorem same_new {H : Hp} {p : Addr} {o : HO} (h : H p = none) : Same H (upd H p o) := fun b x e => by rw [upd_ne (ne_of_none e h)]; exact e
/-- all but what stands at d is as it was -/
def Sb (d : Addr) (H H2 : Hp) : Prop := ∀ b u, b ≠ d → H b = some u → H2 b = some u
theorem Sb.refl {d : Addr} {H : Hp} : Sb d H H := fun _ _ _ e => e
theorem Sb.trans {d : Addr} {H H1 H2 : Hp} (a : Sb d H H1) (b : Sb d H1 H2) : Sb d H H2 := fun c u n e => b c u n (a c u n e)
theorem sb_of {d : Addr} {H H2 : Hp} (s : Same H H2) : Sb d H H2 := fun c u _ e => s c u e
theorem sb_upd {d : Addr} {H : Hp} {o : HO} : Sb d H (upd H d o) := fun c u n e => by rw [upd_ne n]; exact e
theorem Sb.upd {d : Addr} {H H2 : Hp} {o : HO} (s : Sb d H H2) : Sb d H (upd H2 d o) := s.trans sb_upd
theorem Same.trans_sb {d : Addr} {H H1 H2 : Hp} (a : Same H H1) (b : Sb d H1 H2) : Sb d H H2 := (sb_of a).trans b
theorem cell_ne {H : Hp} {d c : Addr} {ns : List Int} {a b e : V} (hd : H d = some (.lst [.ref c, a, b, e])) (hc : H c = some (.lst (ns.map V.int))) : c ≠ d := ne_of hc hd (by
  intro z
  have z2 := HO.lst.inj z
  cases ns with
  | nil => cases z2
  | cons x r => cases z2)
end Hod

set_option Elab.async false
set_option linter.all false
set_option maxRecDepth 100000
/-! Values in the place of heaps: data as trees, lists under change as cells of a small memory, draws as one thing. -/
namespace Hv
open PySem PySem.Spec PyProof.Rows L2 Hod
abbrev Hid := Addr → Bool
/-- what may change: the draws (d), the tables of code objects (t) -/
structure Hs where
  d : Addr → Bool
  t : Addr → Bool
  q : Addr → Str
instance : CoeFun Hs (fun _ => Addr → Bool) := ⟨fun S a => S.d a || S.t a⟩
def lamQ : Str := "law.<locals>.<lambda>"
theorem Hs.of_d {S : Hs} {a : Addr} (h : S a = false) : S.d a = false := (Bool.or_eq_false_iff.mp h).1
/-- what a cell of the memory is, where it is no list: its values follow -/
inductive Tag where
  /-- an instance of the class at C, its dict at dx, its fields -/
  | ins (C dx : Addr) (ns : List Str)
  /-- a dict by ints and texts -/
  | dic (ks : List Key)
  /-- a dict by tuples of these -/
  | dct (ks : List (List Key))
  /-- a set of ints -/
  | set (ns : List Int)
inductive A where
  | dat (d : PyData)
  | own (a : Addr)
  | drw
  | ty (n : String)
  | fn (f : Addr)
  /-- a cell that is no list -/
  | obj (a : Addr)
  /-- a cell's head -/
  | tag (t : Tag)
def unt : List A → Bool
  | .tag _ :: _ => false
  | _ => true
def vals : List A → List A
  | .tag _ :: ys => ys
  | xs => xs
theorem vals_unt : ∀ {xs : List A}, unt xs = true → vals xs = xs
  | [], _ => rfl
  | .tag _ :: _, h => nomatch h
  | .dat _ :: _, _ => rfl
  | .own _ :: _, _ => rfl
  | .drw :: _, _ => rfl
  | .ty _ :: _, _ => rfl
  | .fn _ :: _, _ => rfl
  | .obj _ :: _, _ => rfl
/-- how a cell lies there, its values being vs -/
def Hol (xs : List A) (vs : List V) (o : HO) : Prop := match xs with
  | .tag (.ins C dx ns) :: _ => o = .ins C dx (ns.zip vs) ∧ vs.length = ns.length
  | .tag (.dic ks) :: _ => o = .dK (ks.zip vs) ∧ vs.length = ks.length
  | .tag (.dct ks) :: _ => o = .dT (ks.zip vs) ∧ vs.length = ks.length
  | .tag (.set ns) :: _ => o = .set (fun i => decide (i ∈ ns)) ns.length ∧ vs = []
  | _ => o = .lst vs
/-- what may be a cell -/
def chg : HO → Bool
  | .lst _ => true
  | .ins _ _ _ => true
  | .dK _ => true
  | .dT _ => true
  | .set _ _ => true
  | _ => false
theorem hol_chg {xs : List A} {vs : List V} {o : HO} (h : Hol xs vs o) : chg o = true := by
  unfold Hol at h
  split at h
  · rw [h.1]; rfl
  · rw [h.1]; rfl
  · rw [h.1]; rfl
  · rw [h.1]; rfl
  · rw [h]; rfl
theorem hol_unt : ∀ {xs : List A} {vs : List V} {o : HO}, unt xs = true → (Hol xs vs o ↔ o = .lst vs)
  | [], _, _, _ => Iff.rfl
  | .tag _ :: _, _, _, h => nomatch h
  | .dat _ :: _, _, _, _ => Iff.rfl
  | .own _ :: _, _, _, _ => Iff.rfl
  | .drw :: _, _, _, _ => Iff.rfl
  | .ty _ :: _, _, _, _ => Iff.rfl
  | .fn _ :: _, _, _, _ => Iff.rfl
  | .obj _ :: _, _, _, _ => Iff.rfl
abbrev Mem := Addr → Option (List A)
def emp : Mem := fun _ => none
def isL (μ : Mem) (a : Addr) : Bool := match μ a with | some xs => unt xs | none => false
def isO (μ : Mem) (a : Addr) : Bool := match μ a with | some xs => !unt xs | none => false
def off (B : Hid) (μ : Mem) (H : Hp) : Hp := fun a => if B a || (μ a).isSome then none else H a
def put (μ : Mem) (a : Addr) (xs : List A) : Mem := fun b => if b = a then some xs else μ b
@[simp] theorem put_same {μ : Mem} {a : Addr} {xs : List A} : put μ a xs a = some xs := by simp [put]
theorem put_ne {μ : Mem} {a b : Addr} {xs : List A} (h : b ≠ a) : put μ a xs b = μ b := by simp [put, h]
@[simp] theorem put_put {μ : Mem} {a : Addr} {xs ys : List A} : put (put μ a xs) a ys = put μ a ys := by
  funext b
  by_cases h : b = a <;> simp [put, h]
theorem off_some {B : Hid} {μ : Mem} {H : Hp} {a : Addr} {o : HO} (h : off B μ H a = some o) : B a = false ∧ μ a = none ∧ H a = some o := by
  unfold off at h
  cases hb : B a with
  | true => rw [hb] at h; simp at h
  | false =>
    cases hm : μ a with
    | some x => rw [hb, hm] at h; simp at h
    | none => rw [hb, hm] at h; simp at h; exact ⟨rfl, rfl, h⟩
theorem off_of {B : Hid} {μ : Mem} {H : Hp} {a : Addr} (h1 : B a = false) (h2 : μ a = none) : off B μ H a = H a := by simp [off, h1, h2]
theorem off_same {B : Hid} {μ : Mem} {H : Hp} : Same (off B μ H) H := fun a o h => (off_some h).2.2
mutual
inductive Rp (K : PySem.W.Frag) (G : Hp) : V → PyData → Prop
  | non : Rp K G .non .none
  | bl (b : Bool) : Rp K G (.bl b) (.bool b)
  | int (i : Int) : Rp K G (.int i) (.int i)
  | str (x : Str) : Rp K G (.str x) (.str x)
  | lst {a : Addr} {xs : List V} {ds : List PyData} : G a = some (.lst xs) → Rps K G xs ds → Rp K G (.ref a) (.list ds)
  | tup {a : Addr} {xs : List V} {ds : List PyData} : SqT K G a xs → Rps K G xs ds → Rp K G (.ref a) (.tuple ds)
inductive Rps (K : PySem.W.Frag) (G : Hp) : List V → List PyData → Prop
  | nil : Rps K G [] []
  | cons {v : V} {vs : List V} {d : PyData} {ds : List PyData} : Rp K G v d → Rps K G vs ds → Rps K G (v :: vs) (d :: ds)
end
theorem sqt_same {K : PySem.W.Frag} {G G2 : Hp} {a : Addr} {xs : List V} (s : Same G G2) (h : SqT K G a xs) : SqT K G2 a xs := by
  rcases h with (h | ⟨o, h⟩) | h
  · exact .inl (.inl (s _ _ h))
  · exact .inl (.inr ⟨o, s _ _ h⟩)
  · exact .inr h
mutual
theorem Rp.mono {K : PySem.W.Frag} {G G2 : Hp} (s : Same G G2) : ∀ (d : PyData) (v : V), Rp K G v d → Rp K G2 v d
  | .none, _, h => by cases h; exact .non
  | .bool b, _, h => by cases h; exact .bl b
  | .int i, _, h => by cases h; exact .int i
  | .str x, _, h => by cases h; exact .str x
  | .list ds, _, h => by cases h with | lst h1 h2 => exact .lst (s _ _ h1) (Rps.mono s ds _ h2)
  | .tuple ds, _, h => by cases h with | tup h1 h2 => exact .tup (sqt_same s h1) (Rps.mono s ds _ h2)
  | .dict _, _, h => by cases h
theorem Rps.mono {K : PySem.W.Frag} {G G2 : Hp} (s : Same G G2) : ∀ (ds : List PyData) (vs : List V), Rps K G vs ds → Rps K G2 vs ds
  | [], _, h => by cases h; exact .nil
  | d :: ds, _, h => by cases h with | cons h1 h2 => exact .cons (Rp.mono s d _ h1) (Rps.mono s ds _ h2)
end
mutual
theorem Rp.dp {K : PySem.W.Frag} {G : Hp} : ∀ (d : PyData) (v : V), Rp K G v d → Dp K G v d
  | .none, _, h => by cases h; exact .non
  | .bool b, _, h => by cases h; exact .bl b
  | .int i, _, h => by cases h; exact .int i
  | .str x, _, h => by cases h; exact .str x
  | .list ds, _, h => by cases h with | lst h1 h2 => exact .lst (SqL.of h1) (Rps.dp ds _ h2)
  | .tuple ds, _, h => by cases h with | tup h1 h2 => exact .tup h1 (Rps.dp ds _ h2)
  | .dict _, _, h => by cases h
theorem Rps.dp {K : PySem.W.Frag} {G : Hp} : ∀ (ds : List PyData) (vs : List V), Rps K G vs ds → DpAll K G vs ds
  | [], _, h => by cases h; exact .nil
  | d :: ds, _, h => by cases h with | cons h1 h2 => exact .cons (Rp.dp d _ h1) (Rps.dp ds _ h2)
end
section
variable {K : PySem.W.Frag} {G G2 H H1 H2 H' : Hp} {S : Hs} {B : Hid} {μ : Mem}
theorem Rps.len : ∀ {ds : List PyData} {vs : List V}, Rps K G vs ds → vs.length = ds.length
  | [], _, h => by cases h; rfl
  | d :: ds, _, h => by cases h with | cons h1 h2 => simp [Rps.len h2]
theorem Rps.get : ∀ {ds : List PyData} {vs : List V} {i : Nat} {d : PyData}, Rps K G vs ds → ds[i]? = some d → ∃ v, vs[i]? = some v ∧ Rp K G v d
  | [], _, _, _, _, e => by simp at e
  | d :: ds, _, 0, _, h, e => by cases h with | cons h1 h2 => simp at e; subst e; exact ⟨_, rfl, h1⟩
  | d :: ds, _, i + 1, _, h, e => by
    cases h with
    | cons h1 h2 =>
      obtain ⟨v, q1, q2⟩ := Rps.get h2 (i := i) (by simpa using e)
      exact ⟨v, by simpa using q1, q2⟩
theorem Rps.getV : ∀ {ds : List PyData} {vs : List V} {i : Nat} {v : V}, Rps K G vs ds → vs[i]? = some v → ∃ d, ds[i]? = some d ∧ Rp K G v d
  | [], _, _, _, h, e => by cases h; simp at e
  | d :: ds, _, 0, _, h, e => by cases h with | cons h1 h2 => simp at e; subst e; exact ⟨_, rfl, h1⟩
  | d :: ds, _, i + 1, _, h, e => by
    cases h with
    | cons h1 h2 =>
      obtain ⟨v, q1, q2⟩ := Rps.getV h2 (i := i) (by simpa using e)
      exact ⟨v, by simpa using q1, q2⟩
theorem Rps.app : ∀ {ds es : List PyData} {vs ws : List V}, Rps K G vs ds → Rps K G ws es → Rps K G (vs ++ ws) (ds ++ es)
  | [], _, _, _, h, k => by cases h; exact k
  | d :: ds, _, _, _, h, k => by cases h with | cons h1 h2 => exact .cons h1 (Rps.app h2 k)
theorem Rps.drop : ∀ {ds : List PyData} {vs : List V} (n : Nat), Rps K G vs ds → Rps K G (vs.drop n) (ds.drop n)
  | _, _, 0, h => h
  | [], _, n + 1, h => by cases h; exact .nil
  | d :: ds, _, n + 1, h => by cases h with | cons h1 h2 => exact Rps.drop n h2
theorem Rps.take : ∀ {ds : List PyData} {vs : List V} (n : Nat), Rps K G vs ds → Rps K G (vs.take n) (ds.take n)
  | _, _, 0, h => .nil
  | [], _, n + 1, h => by cases h; exact .nil
  | d :: ds, _, n + 1, h => by cases h with | cons h1 h2 => exact .cons h1 (Rps.take n h2)
/-- a value in a slot, a cell, an expression -/
inductive Ra (K : PySem.W.Frag) (S : Hs) (μ : Mem) (G : Hp) : V → A → Prop
  | dat {v : V} {d : PyData} : Rp K G v d → Ra K S μ G v (.dat d)
  | own {a : Addr} : isL μ a = true → Ra K S μ G (.ref a) (.own a)
  | drw {a : Addr} : S.d a = true → Ra K S μ G (.ref a) .drw
  | ty {n : String} : Ra K S μ G (.ty n) (.ty n)
  | fn {f : Addr} : Ra K S μ G (.ref f) (.fn f)
  | obj {a : Addr} : isO μ a = true → Ra K S μ G (.ref a) (.obj a)
inductive Ras (K : PySem.W.Frag) (S : Hs) (μ : Mem) (G : Hp) : List V → List A → Prop
  | nil : Ras K S μ G [] []
  | cons {v : V} {vs : List V} {d : A} {ds : List A} : Ra K S μ G v d → Ras K S μ G vs ds → Ras K S μ G (v :: vs) (d :: ds)
/-- an extension of memory and heap -/
structure Gw (μ μ2 : Mem) (G G2 : Hp) : Prop where
  g : Same G G2
  m : ∀ a, isL μ a = true → isL μ2 a = true
  o : ∀ a, isO μ a = true → isO μ2 a = true
theorem Gw.same (s : Same G G2) : Gw μ μ G G2 := ⟨s, fun _ h => h, fun _ h => h⟩
theorem Ra.gw {μ2 : Mem} (w : Gw μ μ2 G G2) {v : V} {a : A} (h : Ra K S μ G v a) : Ra K S μ2 G2 v a := by
  cases h with
  | dat h => exact .dat (h.mono w.g _ _)
  | own h => exact .own (w.m _ h)
  | drw h => exact .drw h
  | ty => exact .ty
  | fn => exact .fn
  | obj h => exact .obj (w.o _ h)
theorem Ra.mono (s : Same G G2) {v : V} {a : A} (h : Ra K S μ G v a) : Ra K S μ G2 v a := h.gw (.same s)
theorem Ras.gw {μ2 : Mem} (w : Gw μ μ2 G G2) : ∀ {as : List A} {vs : List V}, Ras K S μ G vs as → Ras K S μ2 G2 vs as
  | [], _, h => by cases h; exact .nil
  | a :: as, _, h => by cases h with | cons h1 h2 => exact .cons (h1.gw w) (Ras.gw w h2)
theorem Ras.mono (s : Same G G2) {as : List A} {vs : List V} (h : Ras K S μ G vs as) : Ras K S μ G2 vs as := h.gw (.same s)
theorem Ras.len : ∀ {as : List A} {vs : List V}, Ras K S μ G vs as → vs.length = as.length
  | [], _, h => by cases h; rfl
  | d :: ds, _, h => by cases h with | cons h1 h2 => simp [Ras.len h2]
theorem Ras.get : ∀ {ds : List A} {vs : List V} {i : Nat} {d : A}, Ras K S μ G vs ds → ds[i]? = some d → ∃ v, vs[i]? = some v ∧ Ra K S μ G v d
  | [], _, _, _, _, e => by simp at e
  | d :: ds, _, 0, _, h, e => by cases h with | cons h1 h2 => simp at e; subst e; exact ⟨_, rfl, h1⟩
  | d :: ds, _, i + 1, _, h, e => by
    cases h with
    | cons h1 h2 =>
      obtain ⟨v, q1, q2⟩ := Ras.get h2 (i := i) (by simpa using e)
      exact ⟨v, by simpa using q1, q2⟩
theorem Ras.app : ∀ {ds es : List A} {vs ws : List V}, Ras K S μ G vs ds → Ras K S μ G ws es → Ras K S μ G (vs ++ ws) (ds ++ es)
  | [], _, _, _, h, k => by cases h; exact k
  | d :: ds, _, _, _, h, k => by cases h with | cons h1 h2 => exact .cons h1 (Ras.app h2 k)
theorem Ras.set : ∀ {ds : List A} {vs : List V} {v : V} {a : A} (i : Nat), Ras K S μ G vs ds → Ra K S μ G v a → Ras K S μ G (vs.set i v) (ds.set i a)
  | [], _, _, _, _, h, k => by cases h; exact .nil
  | d :: ds, _, _, _, 0, h, k => by cases h with | cons h1 h2 => exact .cons k h2
  | d :: ds, _, _, _, i + 1, h, k => by cases h with | cons h1 h2 => exact .cons h1 (Ras.set i h2 k)
/-- all of them data -/
def dats : List A → Option (List PyData)
  | [] => some []
  | .dat d :: as => (dats as).map (d :: ·)
  | _ :: _ => none
theorem Ras.rps : ∀ {as : List A} {ds : List PyData} {vs : List V}, Ras K S μ G vs as → dats as = some ds → Rps K G vs ds
  | [], ds, _, h, e => by cases h; cases e; exact .nil
  | .dat d :: as, ds, _, h, e => by
    cases h with
    | cons h1 h2 =>
      cases h1 with
      | dat h1 =>
        unfold dats at e
        cases q : dats as with
        | none => rw [q] at e; cases e
        | some es => rw [q] at e; cases e; exact .cons h1 (Ras.rps h2 q)
  | .own _ :: as, ds, _, h, e => by cases e
  | .drw :: as, ds, _, h, e => by cases e
  | .ty _ :: as, ds, _, h, e => by cases e
  | .fn _ :: as, ds, _, h, e => by cases e
  | .obj _ :: as, ds, _, h, e => by cases e
  | .tag _ :: as, ds, _, h, e => by cases e
theorem Rps.ras : ∀ {ds : List PyData} {vs : List V}, Rps K G vs ds → Ras K S μ G vs (ds.map A.dat)
  | [], _, h => by cases h; exact .nil
  | d :: ds, _, h => by cases h with | cons h1 h2 => exact .cons (.dat h1) (Rps.ras h2)
@[simp] theorem dats_map : ∀ (ds : List PyData), dats (ds.map A.dat) = some ds
  | [] => rfl
  | d :: ds => by show (dats (ds.map A.dat)).map (d :: ·) = _; rw [dats_map ds]; rfl
theorem dats_len : ∀ {as : List A} {ds : List PyData}, dats as = some ds → ds.length = as.length
  | [], _, e => by cases e; rfl
  | .dat d :: as, _, e => by
    unfold dats at e
    cases q : dats as with
    | none => rw [q] at e; cases e
    | some es => rw [q] at e; cases e; simp [dats_len q]
  | .own _ :: as, ds, e => by cases e
  | .drw :: as, ds, e => by cases e
  | .ty _ :: as, ds, e => by cases e
  | .fn _ :: as, ds, e => by cases e
  | .obj _ :: as, ds, e => by cases e
  | .tag _ :: as, ds, e => by cases e
/-- the draws at a -/
def DrawIn (G H : Hp) (a : Addr) : Prop := ∃ (c : Addr) (ns : List Int) (i : Nat) (big seed : Int), H a = some (.lst [.ref c, .int i, .int big, .int seed]) ∧ G c = some (.lst (ns.map V.int)) ∧ 0 ≤ big ∧ 0 ≤ seed ∧ seed < 2147483647
structure Good (K : PySem.W.Frag) (S : Hs) (B : Hid) (μ : Mem) (H : Hp) : Prop where
  dr : ∀ a, S.d a = true → B a = true ∧ DrawIn (off B μ H) H a
  tb : ∀ a, S.t a = true → B a = true ∧ LamX.TabS H a (S.q a)
  bd : ∀ a, B a = true → H a ≠ none
  ce : ∀ a xs, μ a = some xs → B a = false ∧ ∃ o vs, H a = some o ∧ Hol xs vs o ∧ Ras K S μ (off B μ H) vs (vals xs)
theorem isL_of {a : Addr} {xs : List A} (h : μ a = some xs) (hu : unt xs = true) : isL μ a = true := by unfold isL; rw [h]; exact hu
theorem isL_unt {a : Addr} {xs : List A} (h : isL μ a = true) (q : μ a = some xs) : unt xs = true := by unfold isL at h; rw [q] at h; exact h
theorem isO_of {a : Addr} {t : Tag} {ys : List A} (h : μ a = some (.tag t :: ys)) : isO μ a = true := by unfold isO; rw [h]; rfl
theorem isO_tag {a : Addr} (h : isO μ a = true) : ∃ t ys, μ a = some (.tag t :: ys) := by
  unfold isO at h
  cases q : μ a with
  | none => rw [q] at h; cases h
  | some xs =>
    rw [q] at h
    cases xs with
    | nil => cases h
    | cons x ys => cases x <;> first | exact ⟨_, _, rfl⟩ | cases h
/-- a list of one's own -/
theorem Good.ls (g : Good K S B μ H) {a : Addr} {xs : List A} (hL : isL μ a = true) (q : μ a = some xs) : B a = false ∧ ∃ vs, H a = some (.lst vs) ∧ Ras K S μ (off B μ H) vs xs := by
  obtain ⟨b1, o, vs, h1, h2, h3⟩ := g.ce a xs q
  have hu := isL_unt hL q
  rw [hol_unt hu] at h2
  rw [vals_unt hu] at h3
  rw [h2] at h1
  exact ⟨b1, vs, h1, h3⟩
theorem Ras.unt : ∀ {as : List A} {vs : List V}, Ras K S μ G vs as → unt as = true
  | [], _, _ => rfl
  | a :: as, _, h => by cases h with | cons h1 h2 => cases h1 <;> rfl
/-- all but the draws stands as it stood -/
structure Ex (S : Hs) (H H' : Hp) : Prop where
  keep : ∀ a o, S a = false → H a = some o → H' a = some o
  dom : ∀ a, H' a = none → H a = none
  dr : ∀ a c r, S.d a = true → H a = some (.lst (.ref c :: r)) → ∃ r', H' a = some (.lst (.ref c :: r'))
theorem Ex.refl : Ex S H H := ⟨fun _ _ _ h => h, fun _ h => h, fun _ _ r _ h => ⟨r, h⟩⟩
theorem Ex.trans (a : Ex S H H1) (b : Ex S H1 H2) : Ex S H H2 :=
  ⟨fun x o s h => b.keep x o s (a.keep x o s h), fun x h => a.dom x (b.dom x h), fun x c r s h => by obtain ⟨r1, h1⟩ := a.dr x c r s h; exact b.dr x c r1 s h1⟩
theorem Ex.new {p : Addr} {o : HO} (h : H p = none) : Ex S H (upd H p o) :=
  ⟨fun a u _ e => by rw [upd_ne (ne_of_none e h)]; exact e,
   fun a e => by
     by_cases q : a = p
     · rw [q]; exact h
     · rw [upd_ne q] at e; exact e,
   fun a c r _ e => ⟨r, by rw [upd_ne (ne_of_none e h)]; exact e⟩⟩
theorem Good.sb (g : Good K S B μ H) {a : Addr} (h : B a = false) : S a = false := by
  show (S.d a || S.t a) = false
  cases q : S.d a with
  | true => rw [(g.dr a q).1] at h; cases h
  | false =>
    cases q2 : S.t a with
    | true => rw [(g.tb a q2).1] at h; cases h
    | false => rfl
theorem Ex.off (e : Ex S H H') (g : Good K S B μ H) : Same (off B μ H) (off B μ H') := fun a o h => by
  obtain ⟨h1, h2, h3⟩ := off_some h
  rw [off_of h1 h2]
  exact e.keep a o (g.sb h1) h3
theorem Good.free (g : Good K S B μ H) {p : Addr} (h : H p = none) : B p = false ∧ μ p = none := by
  constructor
  · cases q : B p with
    | false => rfl
    | true => exact absurd h (g.bd p q)
  · cases q : μ p with
    | none => rfl
    | some xs => obtain ⟨_, o, vs, e, _⟩ := g.ce p xs q; rw [h] at e; cases e
/-- carried over what an expression does, whatever was hidden there -/
theorem Good.step {B2 : Hid} {μ2 : Mem} (g : Good K S B μ H) (e : Ex S H H') (g2 : Good K S B2 μ2 H') : Good K S B μ H' := by
  refine ⟨fun a sa => ?_, fun a sa => ⟨(g.tb a sa).1, (g2.tb a sa).2⟩, fun a ba h => g.bd a ba (e.dom a h), fun a xs q => ?_⟩
  · obtain ⟨b1, c, ns, i, big, seed, h1, h2, _⟩ := g.dr a sa
    obtain ⟨_, c2, ns2, i2, big2, seed2, k1, k2, k3⟩ := g2.dr a sa
    obtain ⟨r', z⟩ := e.dr a c _ sa h1
    rw [k1] at z
    have ec : c2 = c := by
      have z2 := HO.lst.inj (Option.some.inj z)
      exact V.ref.inj (List.cons.inj z2).1
    subst ec
    exact ⟨b1, c2, ns, i2, big2, seed2, k1, e.off g _ _ h2, k3⟩
  · obtain ⟨b1, o, vs, h1, hh, h2⟩ := g.ce a xs q
    exact ⟨b1, o, vs, e.keep a _ (g.sb b1) h1, hh, h2.mono (e.off g)⟩
theorem Good.new (g : Good K S B μ H) {p : Addr} {o : HO} (h : H p = none) : Good K S B μ (upd H p o) := by
  have ex : Ex S H (upd H p o) := .new h
  refine ⟨fun a sa => ?_, fun a sa => ⟨(g.tb a sa).1, (g.tb a sa).2.ext fun b x y => by rw [upd_ne (ne_of_none y h)]; exact y⟩, fun a ba q => g.bd a ba (ex.dom a q), fun a xs q => ?_⟩
  · obtain ⟨b1, c, ns, i, big, seed, h1, h2, h3⟩ := g.dr a sa
    exact ⟨b1, c, ns, i, big, seed, by rw [upd_ne (ne_of_none h1 h)]; exact h1, ex.off g _ _ h2, h3⟩
  · obtain ⟨b1, o, vs, h1, hh, h2⟩ := g.ce a xs q
    exact ⟨b1, o, vs, ex.keep a _ (g.sb b1) h1, hh, h2.mono (ex.off g)⟩
theorem off_upd {p : Addr} {o : HO} (h1 : B p = false) (h2 : μ p = none) : off B μ (upd H p o) p = some o := by rw [off_of h1 h2, upd_same]
/-- slots -/
inductive Sls (K : PySem.W.Frag) (S : Hs) (μ : Mem) (G : Hp) : List (Option V) → List (Option A) → Prop
  | nil : Sls K S μ G [] []
  | any {s : Option V} {σ : List (Option V)} {ρ : List (Option A)} : Sls K S μ G σ ρ → Sls K S μ G (s :: σ) (none :: ρ)
  | has {v : V} {a : A} {σ : List (Option V)} {ρ : List (Option A)} : Ra K S μ G v a → Sls K S μ G σ ρ → Sls K S μ G (some v :: σ) (some a :: ρ)
theorem Sls.gw {μ2 : Mem} (w : Gw μ μ2 G G2) : ∀ {ρ : List (Option A)} {σ : List (Option V)}, Sls K S μ G σ ρ → Sls K S μ2 G2 σ ρ
  | [], _, h => by cases h; exact .nil
  | none :: ρ, _, h => by cases h with | any h => exact .any (Sls.gw w h)
  | some a :: ρ, _, h => by cases h with | has h1 h2 => exact .has (h1.gw w) (Sls.gw w h2)
theorem Sls.mono (s : Same G G2) {ρ : List (Option A)} {σ : List (Option V)} (h : Sls K S μ G σ ρ) : Sls K S μ G2 σ ρ := h.gw (.same s)
theorem Sls.get : ∀ {ρ : List (Option A)} {σ : List (Option V)} {i : Nat} {a : A}, Sls K S μ G σ ρ → ρ[i]? = some (some a) → ∃ v, σ[i]? = some (some v) ∧ Ra K S μ G v a
  | [], _, _, _, _, e => by simp at e
  | none :: ρ, _, 0, _, h, e => by simp at e
  | some _ :: ρ, _, 0, _, h, e => by cases h with | has h1 h2 => simp at e; subst e; exact ⟨_, rfl, h1⟩
  | none :: ρ, _, i + 1, _, h, e => by
    cases h with
    | any h2 =>
      obtain ⟨v, q1, q2⟩ := Sls.get h2 (i := i) (by simpa using e)
      exact ⟨v, by simpa using q1, q2⟩
  | some _ :: ρ, _, i + 1, _, h, e => by
    cases h with
    | has h1 h2 =>
      obtain ⟨v, q1, q2⟩ := Sls.get h2 (i := i) (by simpa using e)
      exact ⟨v, by simpa using q1, q2⟩
theorem Sls.set : ∀ {ρ : List (Option A)} {σ : List (Option V)} {v : V} {a : A} (i : Nat), Sls K S μ G σ ρ → Ra K S μ G v a → Sls K S μ G (σ.set i (some v)) (ρ.set i (some a))
  | [], _, _, _, _, h, k => by cases h; exact .nil
  | none :: ρ, _, _, _, 0, h, k => by cases h with | any h2 => exact .has k h2
  | some _ :: ρ, _, _, _, 0, h, k => by cases h with | has h1 h2 => exact .has k h2
  | none :: ρ, _, _, _, i + 1, h, k => by cases h with | any h2 => exact .any (Sls.set i h2 k)
  | some _ :: ρ, _, _, _, i + 1, h, k => by cases h with | has h1 h2 => exact .has h1 (Sls.set i h2 k)
theorem Sls.clr : ∀ {ρ : List (Option A)} {σ : List (Option V)} {s : Option V} (i : Nat), Sls K S μ G σ ρ → Sls K S μ G (σ.set i s) (ρ.set i none)
  | [], _, _, _, h => by cases h; exact .nil
  | none :: ρ, _, _, 0, h => by cases h with | any h2 => exact .any h2
  | some _ :: ρ, _, _, 0, h => by cases h with | has h1 h2 => exact .any h2
  | none :: ρ, _, _, i + 1, h => by cases h with | any h2 => exact .any (Sls.clr i h2)
  | some _ :: ρ, _, _, i + 1, h => by cases h with | has h1 h2 => exact .has h1 (Sls.clr i h2)
/-- a slot is forgotten -/
theorem Sls.forget : ∀ {ρ : List (Option A)} {σ : List (Option V)} (i : Nat), Sls K S μ G σ ρ → Sls K S μ G σ (ρ.set i none)
  | [], _, _, h => by cases h; exact .nil
  | none :: ρ, _, 0, h => by cases h with | any h2 => exact .any h2
  | some _ :: ρ, _, 0, h => by cases h with | has h1 h2 => exact .any h2
  | none :: ρ, _, i + 1, h => by cases h with | any h2 => exact .any (Sls.forget i h2)
  | some _ :: ρ, _, i + 1, h => by cases h with | has h1 h2 => exact .has h1 (Sls.forget i h2)
def wipeA (ρ : List (Option A)) : List Nat → List (Option A)
  | [] => ρ
  | v :: vs => (wipeA ρ vs).set v none
theorem Sls.wipe {ρ : List (Option A)} {σ : List (Option V)} (h : Sls K S μ G σ ρ) : ∀ (vs : List Nat), Sls K S μ G (L2.wipe σ vs) (wipeA ρ vs)
  | [] => h
  | v :: vs => (Sls.wipe h vs).clr v
theorem Sls.start : ∀ {as : List A} {vs : List V} (n : Nat), Ras K S μ G vs as → Sls K S μ G (vs.map some ++ List.replicate n none) (as.map some ++ List.replicate n none)
  | [], _, n, h => by
    cases h
    show Sls K S μ G (List.replicate n none) (List.replicate n none)
    induction n with
    | zero => exact .nil
    | succ n ih => rw [List.replicate_succ, List.replicate_succ]; exact .any ih
  | a :: as, _, n, h => by cases h with | cons h1 h2 => exact .has h1 (Sls.start n h2)
end
end Hv

set_option Elab.async false
set_option linter.all false
set_option maxRecDepth 100000
namespace Hv
open PySem PySem.Spec PyProof.Rows L2 Hod
abbrev Rho := List (Option A)
abbrev WE := Rho → Mem → (A → Prop) → Prop
abbrev WA := Rho → Mem → (List A → Prop) → Prop
abbrev WT := Rho → Mem → (Bool → Prop) → Prop
abbrev WI := Rho → Mem → (List PyData → Prop) → Prop
abbrev WO := Rho → Mem → (Option Int → Prop) → Prop
/-! ### exceptions by values: a class by its name, its fields -/
abbrev XW := Str → List (Str × PyData) → Prop
def ctOf (mg : Str → Option Value) (x : Str) : Addr := match mg x with | some (.ref a) => a | _ => 0
theorem ct_of {mg : Str → Option Value} {x : Str} {a : Addr} (h : mg x = some (.ref a)) : ctOf mg x = a := by unfold ctOf; rw [h]
/-- the weakest wish that a context takes -/
def wxOf (X : Cx) : WX := fun cls d σ H => ∀ u s', L2.XE X (fun c' d' σ' H' => c' = cls ∧ d' = d ∧ σ' = σ ∧ H' = H) u s' → X.xe u s'
theorem takesOf (X : Cx) : Takes X (wxOf X) := fun u s' ⟨a, B, sI, pins, σ, H, cls, d, e, I, nb, up, sky, na, os, ag, w⟩ => w u s' ⟨a, B, sI, pins, σ, H, cls, d, e, I, nb, up, sky, na, os, ag, rfl, rfl, rfl, rfl⟩
theorem wx_of {X : Cx} {W : WX} (tk : Takes X W) {cls : Value} {d : Option Addr} {σ : L2.St} {H : Hp} (h : W cls d σ H) : wxOf X cls d σ H := fun u s' ⟨a, B, sI, pins, σ', H', c', d', e, I, nb, up, sky, na, os, ag, e1, e2, e3, e4⟩ => by
  subst e1 e2 e3 e4
  exact tk u s' ⟨a, B, sI, pins, _, _, _, _, e, I, nb, up, sky, na, os, ag, h⟩
/-- the fields at dd -/
def XdAt (K : PySem.W.Frag) (G H : Hp) (dd : Addr) (flds : List (Str × PyData)) : Prop := ∃ fs, H dd = some (.xd fs) ∧ ∀ f d, flds.lookup f = some d → ∃ v, fs.lookup f = some v ∧ Rp K G v d
theorem XdAt.mono {K : PySem.W.Frag} {G G2 H : Hp} {dd : Addr} {flds : List (Str × PyData)} (h : XdAt K G H dd flds) (s : Same G G2) : XdAt K G2 H dd flds := by
  obtain ⟨fs, h1, h2⟩ := h
  refine ⟨fs, h1, fun f d e => ?_⟩
  obtain ⟨v, e1, e2⟩ := h2 f d e
  exact ⟨v, e1, e2.mono s _ _⟩
/-- what is known of exceptions at a state, and still is at later ones -/
structure XLT (K : PySem.W.Frag) where
  p : Hs → Hid → Mem → L2.St → Hp → Prop
  ex : ∀ S B μ σ H H', p S B μ σ H → Ex S H H' → p S B μ σ H'
def xl0 {K : PySem.W.Frag} : XLT K := ⟨fun _ _ _ _ _ => True, fun _ _ _ _ _ _ _ _ => trivial⟩
/-- what is raised at H or later with the wished fields is taken -/
def xlOf (X : Cx) (xw : XW) : XLT X.K := ⟨fun S B μ σ H => ∀ H' x dd flds, Ex S H H' → Good X.K S B μ H' → XdAt X.K (off B μ H') H' dd flds → xw x flds → wxOf X (.ref (ctOf X.mg x)) (some dd) σ H', fun _ _ _ _ _ _ h e H2 x dd flds e2 => h H2 x dd flds (e.trans e2)⟩
/-- the state by values -/
structure Sta (K : PySem.W.Frag) (xl : XLT K) (S : Hs) (B : Hid) (σ : L2.St) (H : Hp) (ρ : Rho) (μ : Mem) : Prop where
  gd : Good K S B μ H
  sl : Sls K S μ (off B μ H) σ ρ
  xl : xl.p S B μ σ H
theorem Sta.ex {K : PySem.W.Frag} {xl : XLT K} {S : Hs} {B : Hid} {σ : L2.St} {H H' : Hp} {ρ : Rho} {μ : Mem} (s : Sta K xl S B σ H ρ μ) (e : Ex S H H') (g : Good K S B μ H') : Sta K xl S B σ H' ρ μ := ⟨g, s.sl.mono (e.off s.gd), xl.ex _ _ _ _ _ _ s.xl e⟩
def LE (K : PySem.W.Frag) (xl : XLT K) (w : WE) : TE := fun σ H Q => ∃ S B ρ μ Q2, Sta K xl S B σ H ρ μ ∧ w ρ μ Q2 ∧ ∀ v H' a, Ex S H H' → Good K S B μ H' → Ra K S μ (off B μ H') v a → Q2 a → Q v H'
/-- .. a list that comes of it is a new one -/
def LF (K : PySem.W.Frag) (xl : XLT K) (w : WE) : TE := fun σ H Q => ∃ S B ρ μ Q2, Sta K xl S B σ H ρ μ ∧ w ρ μ Q2 ∧ ∀ v H' a, Ex S H H' → Good K S B μ H' → Ra K S μ (off B μ H') v a → (∀ p ds, v = .ref p → a = .dat (.list ds) → H p = none) → Q2 a → Q v H'
def LA (K : PySem.W.Frag) (xl : XLT K) (w : WA) : TA := fun σ H Q => ∃ S B ρ μ Q2, Sta K xl S B σ H ρ μ ∧ w ρ μ Q2 ∧ ∀ vs H' as, Ex S H H' → Good K S B μ H' → Ras K S μ (off B μ H') vs as → Q2 as → Q vs H'
def LT (K : PySem.W.Frag) (xl : XLT K) (w : WT) : TT := fun σ H Q => ∃ S B ρ μ Q2, Sta K xl S B σ H ρ μ ∧ w ρ μ Q2 ∧ ∀ b H', Ex S H H' → Good K S B μ H' → Q2 b → Q b H'
def LO (K : PySem.W.Frag) (xl : XLT K) (w : WO) : TO := fun σ H Q => ∃ S B ρ μ Q2, Sta K xl S B σ H ρ μ ∧ w ρ μ Q2 ∧ ∀ b H', Ex S H H' → Good K S B μ H' → Q2 b → Q b H'
abbrev VE (X : Cx) (xl : XLT X.K) (e : Expr) (w : WE) : Prop := PE X e (LE X.K xl w)
abbrev VF (X : Cx) (xl : XLT X.K) (e : Expr) (w : WE) : Prop := PE X e (LF X.K xl w)
abbrev VT (X : Cx) (xl : XLT X.K) (e : Expr) (w : WT) : Prop := PT X e (LT X.K xl w)
abbrev VW (X : Cx) (xl : XLT X.K) (e : Expr) (w : WT) : Prop := PW X e (LT X.K xl w)
abbrev VA (X : Cx) (xl : XLT X.K) (es : List Expr) (w : WA) : Prop := PA X es (LA X.K xl w)
abbrev VO (X : Cx) (xl : XLT X.K) (e : Option Expr) (w : WO) : Prop := PO X e (LO X.K xl w)
section
variable {X : Cx} {xl : XLT X.K} {a b c e : Expr} {pos : Pos} {wa wb wc we : WE}
theorem pt_weak {t u : TT} (hs : PT X e t) (w : ∀ σ H Q, u σ H Q → t σ H Q) : PT X e u := ⟨fun pins s σ H Q I q => hs.run pins s σ H Q I (w σ H Q q)⟩
theorem pw_weak {t u : TT} (hs : PW X e t) (w : ∀ σ H Q, u σ H Q → t σ H Q) : PW X e u := ⟨fun wh pins s σ H Q I q => hs.run wh pins s σ H Q I (w σ H Q q)⟩
theorem pa_weak {es : List Expr} {t u : TA} (hs : PA X es t) (w : ∀ σ H Q, u σ H Q → t σ H Q) : PA X es u := ⟨fun pos pins s σ H Q I q => hs.run pos pins s σ H Q I (w σ H Q q)⟩
theorem po_weak {e : Option Expr} {t u : TO} (hs : PO X e t) (w : ∀ σ H Q, u σ H Q → t σ H Q) : PO X e u := ⟨fun pins s σ H Q I q => hs.run pins s σ H Q I (w σ H Q q)⟩
/-- new ones are such too -/
theorem VF.ve (h : VF X xl e we) : VE X xl e we := pe_weak h fun σ H Q ⟨S, B, ρ, μ, Q2, st, w, k⟩ => ⟨S, B, ρ, μ, Q2, st, w, fun v H' a e g r _ q => k v H' a e g r q⟩
/-! ### names, constants -/
def wVar (i : Nat) : WE := fun ρ _ Q => match ρ[i]? with | some (some a) => Q a | _ => False
def wC (d : PyData) : WE := fun _ _ Q => Q (.dat d)
def wTy (n : String) : WE := fun _ _ Q => Q (.ty n)
theorem ve_var (i : Nat) {x : Str} {pos : Pos} (hN : X.N[i]? = some x := by rfl) (hv : Vis X.env.scope x := by first | exact Or.inl rfl | exact Or.inr (Or.inl rfl) | exact Or.inr (Or.inr rfl)) (hd : (x == ("__debug__" : Str)) = false := by decide)
    (hcd : (x == ("__classdict__" : Str)) = false := by decide) : VE X xl (.Name x pos) (wVar i) := by
  refine pe_weak (pe_var hN hv hd hcd) fun σ H Q ⟨S, B, ρ, μ, Q2, st, w, k⟩ => ?_
  unfold wVar at w
  split at w
  · rename_i a he
    obtain ⟨v, h1, h2⟩ := st.sl.get he
    exact ⟨v, h1, k v H a .refl st.gd h2 w⟩
  · exact w.elim
theorem ve_c {t : TE} {v : V} {d : PyData} (h : PE X e (tC v)) (r : ∀ K G, Rp K G v d) : VE X xl e (wC d) :=
  pe_weak h fun σ H Q ⟨S, B, ρ, μ, Q2, st, w, k⟩ => k v H _ .refl st.gd (.dat (r _ _)) w
theorem ve_int {i : Int} {j pos} : VE X xl (.Constant (.int i) j pos) (wC (.int i)) := ve_c (t := tC (.int i)) pe_int fun _ _ => .int i
theorem ve_bl {i : Bool} {j pos} : VE X xl (.Constant (.bool i) j pos) (wC (.bool i)) := ve_c (t := tC (.bl i)) pe_bl fun _ _ => .bl i
theorem ve_non {j pos} : VE X xl (.Constant .none j pos) (wC .none) := ve_c (t := tC .non) pe_non fun _ _ => .non
theorem ve_str {x : Str} {j pos} : VE X xl (.Constant (.str x) j pos) (wC (.str x)) := ve_c (t := tC (.str x)) pe_str fun _ _ => .str x
/-- a module's constant -/
theorem ve_glob {x : Str} {v : V} {u : Value} {d : PyData} {pos : Pos} (rd : ∀ K G, Rp K G v d) (hg : Gl X x) (hm : X.mg x = some u) (r : RelV v u) (hd : (x == ("__debug__" : Str)) = false := by decide) : VE X xl (.Name x pos) (wC d) := ve_c (t := tC v) (pe_glob hg hm r hd) rd
theorem ve_ty {x : Str} {n : String} {pos : Pos} (hg : Gl X x) (hm : X.mg x = none) (hv : bootBuiltins x = some (.type n)) (hn : x ≠ "__name__" := by decide) (hd : (x == ("__debug__" : Str)) = false := by decide) : VE X xl (.Name x pos) (wTy n) :=
  pe_weak (pe_bltn (v := .ty n) hg hm hv rfl hn hd) fun σ H Q ⟨S, B, ρ, μ, Q2, st, w, k⟩ => k _ H _ .refl st.gd .ty w
/-! ### operators -/
abbrev G2 := Mem → A → A → (A → Prop) → Prop
def RW (K : PySem.W.Frag) (r : R2) (g : G2) : Prop := ∀ S B x y H μ a b Q Q2, Good K S B μ H → Ra K S μ (off B μ H) x a → Ra K S μ (off B μ H) y b → g μ a b Q2 →
  (∀ v H' c, Ex S H H' → Good K S B μ H' → Ra K S μ (off B μ H') v c → (∀ p ds, v = .ref p → c = .dat (.list ds) → H p = none) → Q2 c → Q v H') → r x y H Q
/-- the same, perhaps an old list -/
def RV (K : PySem.W.Frag) (r : R2) (g : G2) : Prop := ∀ S B x y H μ a b Q Q2, Good K S B μ H → Ra K S μ (off B μ H) x a → Ra K S μ (off B μ H) y b → g μ a b Q2 →
  (∀ v H' c, Ex S H H' → Good K S B μ H' → Ra K S μ (off B μ H') v c → Q2 c → Q v H') → r x y H Q
theorem RW.rv {K : PySem.W.Frag} {r : R2} {g : G2} (h : RW K r g) : RV K r g := fun S B x y H μ a b Q Q2 g ra rb q k => h S B x y H μ a b Q Q2 g ra rb q fun v H' c e g r _ q => k v H' c e g r q
def wOp (g : G2) (wa wb : WE) : WE := fun ρ μ Q => wa ρ μ fun a => wb ρ μ fun b => g μ a b Q
theorem le_op {K : PySem.W.Frag} {xl : XLT K} {r : R2} {g : G2} (hr : RV K r g) (σ : L2.St) (H : Hp) (Q : VK) (h : LE K xl (wOp g wa wb) σ H Q) : tOp r (LE K xl wa) (LE K xl wb) σ H Q := by
  obtain ⟨S, B, ρ, μ, Q2, st, w, k⟩ := h
  refine ⟨S, B, ρ, μ, _, st, w, fun x H1 a e1 g1 ra q1 => ⟨S, B, ρ, μ, _, st.ex e1 g1, q1, fun y H2 b e2 g2 rb q2 => ?_⟩⟩
  exact hr S B x y H2 μ a b Q Q2 g2 (ra.mono (e2.off g1)) rb q2 fun v H3 c e3 g3 rc q3 => k v H3 c (e1.trans (e2.trans e3)) g3 rc q3
theorem lf_op {K : PySem.W.Frag} {xl : XLT K} {r : R2} {g : G2} (hr : RW K r g) (σ : L2.St) (H : Hp) (Q : VK) (h : LF K xl (wOp g wa wb) σ H Q) : tOp r (LE K xl wa) (LE K xl wb) σ H Q := by
  obtain ⟨S, B, ρ, μ, Q2, st, w, k⟩ := h
  refine ⟨S, B, ρ, μ, _, st, w, fun x H1 a e1 g1 ra q1 => ⟨S, B, ρ, μ, _, st.ex e1 g1, q1, fun y H2 b e2 g2 rb q2 => ?_⟩⟩
  exact hr S B x y H2 μ a b Q Q2 g2 (ra.mono (e2.off g1)) rb q2 fun v H3 c e3 g3 rc n q3 => k v H3 c (e1.trans (e2.trans e3)) g3 rc (fun p ds h1 h2 => e1.dom _ (e2.dom _ (n p ds h1 h2))) q3
theorem ve_op {op : Operator} {r : R2} {g : G2} (ho : OpR X (binaryOp op) r) (hr : RV X.K r g) (ha : VE X xl a wa) (hb : VE X xl b wb) : VE X xl (.BinOp a op b pos) (wOp g wa wb) := pe_weak (pe_op ho ha hb) (le_op hr)
theorem vf_op {op : Operator} {r : R2} {g : G2} (ho : OpR X (binaryOp op) r) (hr : RW X.K r g) (ha : VE X xl a wa) (hb : VE X xl b wb) : VF X xl (.BinOp a op b pos) (wOp g wa wb) := pe_weak (pe_op ho ha hb) (lf_op hr)
theorem ve_cmp {op : CmpOp} {r : R2} {g : G2} (ho : OpR X (compareOp op) r) (hr : RV X.K r g) (ha : VE X xl a wa) (hb : VE X xl b wb) (hm : behindInMarks op b = false) : VE X xl (.Compare a [op] [b] pos) (wOp g wa wb) := pe_weak (pe_cmpR ho ha hb hm) (le_op hr)
theorem ve_ix {r : R2} {g : G2} (ho : IxR X r) (hr : RV X.K r g) (ha : VE X xl a wa) (hb : VE X xl b wb) (hs : PlainIx b) : VE X xl (.Subscript a b pos) (wOp g wa wb) := pe_weak (pe_ix ho ha hb hs) (le_op hr)
def wB (w : WE) : WT := fun ρ μ Q => w ρ μ fun a => match a with | .dat (.bool b) => Q b | _ => False
theorem lt_B {K : PySem.W.Frag} {xl : XLT K} (σ : L2.St) (H : Hp) (Q : Bool → Hp → Prop) (h : LT K xl (wB wa) σ H Q) : LE K xl wa σ H fun x H' => ∃ k, x = .bl k ∧ Q k H' := by
  obtain ⟨S, B, ρ, μ, Q2, st, w, k⟩ := h
  refine ⟨S, B, ρ, μ, _, st, w, fun v H1 a e1 g1 ra q1 => ?_⟩
  cases ra with
  | dat r =>
    cases r with
    | bl b => exact ⟨b, rfl, k b H1 e1 g1 q1⟩
    | _ => exact q1.elim
  | _ => exact q1.elim
theorem vt_cmp {op : CmpOp} {r : R2} {g : G2} (ho : OpR X (compareOp op) r) (hr : RV X.K r g) (ha : VE X xl a wa) (hb : VE X xl b wb) (hm : behindInMarks op b = false) : VT X xl (.Compare a [op] [b] pos) (wB (wOp g wa wb)) :=
  pt_weak (pt_cmpR ho ha hb hm) fun σ H Q h => le_op hr σ H _ (lt_B σ H Q h)
theorem vt_val (h : VE X xl e we) (he : ∀ whole, isTrue e X.env whole = (do let v ← whole; standAt e.pos; holding [v] (truthy v)) := by intro _; rfl) : VT X xl e (wB we) := pt_weak (pt_val h he) fun σ H Q h => lt_B σ H Q h
/-! tests -/
def wAndT (u v : WT) : WT := fun ρ μ Q => u ρ μ fun b => if b = true then v ρ μ Q else Q false
def wOrT (u v : WT) : WT := fun ρ μ Q => u ρ μ fun b => if b = true then Q true else v ρ μ Q
def wNotT (u : WT) : WT := fun ρ μ Q => u ρ μ fun b => Q (!b)
theorem vw_and1 {u : WT} (h : VT X xl a u) : VW X xl (.BoolOp .And [a] pos) u := pw_and1 h
theorem vw_or1 {u : WT} (h : VT X xl a u) : VW X xl (.BoolOp .Or [a] pos) u := pw_or1 h
theorem vw_and {rest : List Expr} {u v : WT} (ha : VT X xl a u) (hb : VW X xl (.BoolOp .And (b :: rest) pos) v) : VW X xl (.BoolOp .And (a :: b :: rest) pos) (wAndT u v) := by
  refine pw_weak (pw_and ha hb) fun σ H Q ⟨S, B, ρ, μ, Q2, st, w, k⟩ => ?_
  refine ⟨S, B, ρ, μ, _, st, w, fun z H1 e1 g1 q1 => ?_⟩
  cases z with
  | true => exact ⟨S, B, ρ, μ, _, st.ex e1 g1, q1, fun z2 H2 e2 g2 q2 => k z2 H2 (e1.trans e2) g2 q2⟩
  | false => exact k false H1 e1 g1 q1
theorem vw_or {rest : List Expr} {u v : WT} (ha : VT X xl a u) (hb : VW X xl (.BoolOp .Or (b :: rest) pos) v) : VW X xl (.BoolOp .Or (a :: b :: rest) pos) (wOrT u v) := by
  refine pw_weak (pw_or ha hb) fun σ H Q ⟨S, B, ρ, μ, Q2, st, w, k⟩ => ?_
  refine ⟨S, B, ρ, μ, _, st, w, fun z H1 e1 g1 q1 => ?_⟩
  cases z with
  | false => exact ⟨S, B, ρ, μ, _, st.ex e1 g1, q1, fun z2 H2 e2 g2 q2 => k z2 H2 (e1.trans e2) g2 q2⟩
  | true => exact k true H1 e1 g1 q1
theorem VW.vt {u : WT} (h : VW X xl e u) : VT X xl e u := PW.pt h
theorem vt_not {u : WT} (ha : VT X xl a u) : VT X xl (.UnaryOp .Not a pos) (wNotT u) :=
  pt_weak (pt_not ha) fun σ H Q ⟨S, B, ρ, μ, Q2, st, w, k⟩ => ⟨S, B, ρ, μ, _, st, w, fun z H1 e1 g1 q1 => k (!z) H1 e1 g1 q1⟩
/-! truth of any value -/
def truA (μ : Mem) : A → Option Bool
  | .dat .none => some false
  | .dat (.bool b) => some b
  | .dat (.int i) => some (i != 0)
  | .dat (.list ds) => some (!ds.isEmpty)
  | .dat (.tuple ds) => some (!ds.isEmpty)
  | .own a => match μ a with | some xs => some (!xs.isEmpty) | none => none
  | _ => none
theorem emp_of {K : PySem.W.Frag} {G : Hp} {xs : List V} {ds : List PyData} (r : Rps K G xs ds) : (!xs.isEmpty) = !ds.isEmpty := by cases r <;> rfl
theorem emp_of' {K : PySem.W.Frag} {S : Hs} {μ : Mem} {G : Hp} {xs : List V} {ds : List A} (r : Ras K S μ G xs ds) : (!xs.isEmpty) = !ds.isEmpty := by cases r <;> rfl
theorem tru_ok2 {K : PySem.W.Frag} {S : Hs} {B : Hid} {μ : Mem} {H : Hp} {v : V} {a : A} {k : Bool} (g : Good K S B μ H) (r : Ra K S μ (off B μ H) v a) (h : truA μ a = some k) : TruV K v H k := by
  cases r with
  | dat r =>
    cases r with
    | non => cases h; rfl
    | bl b => cases h; rfl
    | int i => cases h; rfl
    | str x => cases h
    | lst h1 h2 => cases h; exact .inl ⟨_, SqL.of (off_same _ _ h1), (emp_of h2).symm⟩
    | tup h1 h2 => cases h; exact .inr (.inl ⟨_, sqt_same off_same h1, (emp_of h2).symm⟩)
  | @own p h1 =>
    unfold truA at h
    dsimp only at h
    cases q : μ p with
    | none => rw [q] at h; cases h
    | some xs =>
      rw [q] at h
      cases h
      obtain ⟨_, vs, e1, e2⟩ := g.ls h1 q
      exact .inl ⟨_, SqL.of e1, (emp_of' e2).symm⟩
  | drw h1 => cases h
  | ty => cases h
  | fn => cases h
  | obj => cases h
def wTru (w : WE) : WT := fun ρ μ Q => w ρ μ fun a => match truA μ a with | some k => Q k | none => False
theorem vt_truth (ha : VE X xl a wa) (he : ∀ whole, isTrue a X.env whole = (do let v ← whole; standAt a.pos; holding [v] (truthy v)) := by intro _; rfl) : VT X xl a (wTru wa) := by
  refine pt_weak (pt_truth ha he) fun σ H Q ⟨S, B, ρ, μ, Q2, st, w, k⟩ => ⟨S, B, ρ, μ, _, st, w, fun z H1 z2 e1 g1 r1 q1 => ?_⟩
  split at q1
  · rename_i kk hk
    exact ⟨kk, tru_ok2 g1 r1 hk, k kk H1 e1 g1 q1⟩
  · exact q1.elim
/-! values: and, or, not, if *)-/
def wAndE (wa wb : WE) : WE := fun ρ μ Q => wa ρ μ fun a => match a with | .dat (.bool true) => wb ρ μ Q | .dat (.bool false) => Q (.dat (.bool false)) | _ => False
def wOrE (wa wb : WE) : WE := fun ρ μ Q => wa ρ μ fun a => match a with | .dat (.bool false) => wb ρ μ Q | .dat (.bool true) => Q (.dat (.bool true)) | _ => False
def wNotE (wa : WE) : WE := fun ρ μ Q => wa ρ μ fun a => match a with | .dat (.bool b) => Q (.dat (.bool (!b))) | _ => False
theorem ve_one {op} (h : VE X xl a wa) : VE X xl (.BoolOp op [a] pos) wa := pe_one h
theorem ve_and {rest : List Expr} (ha : VE X xl a wa) (hb : VE X xl (.BoolOp .And (b :: rest) pos) wb) : VE X xl (.BoolOp .And (a :: b :: rest) pos) (wAndE wa wb) := by
  refine pe_weak (pe_and ha hb) fun σ H Q ⟨S, B, ρ, μ, Q2, st, w, k⟩ => ⟨S, B, ρ, μ, _, st, w, fun v H1 a e1 g1 ra q1 => ?_⟩
  cases ra with
  | dat r =>
    cases r with
    | bl b =>
      refine ⟨b, rfl, ?_⟩
      cases b with
      | true => exact ⟨S, B, ρ, μ, _, st.ex e1 g1, q1, fun v2 H2 a2 e2 g2 r2 q2 => k v2 H2 a2 (e1.trans e2) g2 r2 q2⟩
      | false => exact k _ H1 _ e1 g1 (.dat (.bl false)) q1
    | _ => exact q1.elim
  | _ => exact q1.elim
theorem ve_or {rest : List Expr} (ha : VE X xl a wa) (hb : VE X xl (.BoolOp .Or (b :: rest) pos) wb) : VE X xl (.BoolOp .Or (a :: b :: rest) pos) (wOrE wa wb) := by
  refine pe_weak (pe_or ha hb) fun σ H Q ⟨S, B, ρ, μ, Q2, st, w, k⟩ => ⟨S, B, ρ, μ, _, st, w, fun v H1 a e1 g1 ra q1 => ?_⟩
  cases ra with
  | dat r =>
    cases r with
    | bl b =>
      refine ⟨b, rfl, ?_⟩
      cases b with
      | false => exact ⟨S, B, ρ, μ, _, st.ex e1 g1, q1, fun v2 H2 a2 e2 g2 r2 q2 => k v2 H2 a2 (e1.trans e2) g2 r2 q2⟩
      | true => exact k _ H1 _ e1 g1 (.dat (.bl true)) q1
    | _ => exact q1.elim
  | _ => exact q1.elim
theorem ve_not (ha : VE X xl a wa) : VE X xl (.UnaryOp .Not a pos) (wNotE wa) := by
  refine pe_weak (pe_not ha) fun σ H Q ⟨S, B, ρ, μ, Q2, st, w, k⟩ => ⟨S, B, ρ, μ, _, st, w, fun v H1 a e1 g1 ra q1 => ?_⟩
  cases ra with
  | dat r =>
    cases r with
    | bl b => exact ⟨b, rfl, k _ H1 _ e1 g1 (.dat (.bl _)) q1⟩
    | _ => exact q1.elim
  | _ => exact q1.elim
def wIf (u : WT) (wa wb : WE) : WE := fun ρ μ Q => u ρ μ fun b => if b = true then wa ρ μ Q else wb ρ μ Q
theorem ve_if {u : WT} (hc : VT X xl c u) (ha : VE X xl a wa) (hb : VE X xl b wb) : VE X xl (.IfExp c a b pos) (wIf u wa wb) := by
  refine pe_weak (pe_ifExp hc ha hb) fun σ H Q ⟨S, B, ρ, μ, Q2, st, w, k⟩ => ⟨S, B, ρ, μ, _, st, w, fun z H1 e1 g1 q1 => ?_⟩
  cases z with
  | true => exact ⟨S, B, ρ, μ, _, st.ex e1 g1, q1, fun v2 H2 a2 e2 g2 r2 q2 => k v2 H2 a2 (e1.trans e2) g2 r2 q2⟩
  | false => exact ⟨S, B, ρ, μ, _, st.ex e1 g1, q1, fun v2 H2 a2 e2 g2 r2 q2 => k v2 H2 a2 (e1.trans e2) g2 r2 q2⟩
theorem vf_if {u : WT} (hc : VT X xl c u) (ha : VF X xl a wa) (hb : VF X xl b wb) : VF X xl (.IfExp c a b pos) (wIf u wa wb) := by
  refine pe_weak (pe_ifExp hc ha hb) fun σ H Q ⟨S, B, ρ, μ, Q2, st, w, k⟩ => ⟨S, B, ρ, μ, _, st, w, fun z H1 e1 g1 q1 => ?_⟩
  cases z with
  | true => exact ⟨S, B, ρ, μ, _, st.ex e1 g1, q1, fun v2 H2 a2 e2 g2 r2 n q2 => k v2 H2 a2 (e1.trans e2) g2 r2 (fun p ds h1 h2 => e1.dom _ (n p ds h1 h2)) q2⟩
  | false => exact ⟨S, B, ρ, μ, _, st.ex e1 g1, q1, fun v2 H2 a2 e2 g2 r2 n q2 => k v2 H2 a2 (e1.trans e2) g2 r2 (fun p ds h1 h2 => e1.dom _ (n p ds h1 h2)) q2⟩
/-! ### unary minus, chains -/
def wUn (f : Int → Int) (wa : WE) : WE := fun ρ μ Q => wa ρ μ fun a => match a with | .dat (.int i) => Q (.dat (.int (f i))) | _ => False
theorem ve_neg (ha : VE X xl a wa) : VE X xl (.UnaryOp .USub a pos) (wUn (fun i => -i) wa) := by
  refine pe_weak (pe_un un_neg ha) fun σ H Q ⟨S, B, ρ, μ, Q2, st, w, k⟩ => ⟨S, B, ρ, μ, _, st, w, fun v H1 a e1 g1 ra q1 => ?_⟩
  cases ra with
  | dat r =>
    cases r with
    | int i => exact ⟨i, rfl, k _ H1 _ e1 g1 (.dat (.int _)) q1⟩
    | _ => exact q1.elim
  | _ => exact q1.elim
def wChain (g g' : G2) (wa wb wc : WE) : WE := fun ρ μ Q => wa ρ μ fun a => wb ρ μ fun b => g μ a b fun z => match z with | .dat (.bool true) => wc ρ μ fun c => g' μ b c Q | .dat (.bool false) => Q (.dat (.bool false)) | _ => False
theorem le_chain {K : PySem.W.Frag} {xl : XLT K} {r r' : R2} {g g' : G2} (hr : RV K r g) (hr' : RV K r' g') (σ : L2.St) (H : Hp) (Q : VK) (h : LE K xl (wChain g g' wa wb wc) σ H Q) : tChain r r' (LE K xl wa) (LE K xl wb) (LE K xl wc) σ H Q := by
  obtain ⟨S, B, ρ, μ, Q2, st, w, k⟩ := h
  refine ⟨S, B, ρ, μ, _, st, w, fun x H1 a e1 g1 ra q1 => ⟨S, B, ρ, μ, _, st.ex e1 g1, q1, fun y H2 b e2 g2 rb q2 => ?_⟩⟩
  refine hr S B x y H2 μ a b _ _ g2 (ra.mono (e2.off g1)) rb q2 fun v H3 c e3 g3 rc q3 => ?_
  cases rc with
  | dat rc =>
    cases rc with
    | bl z =>
      refine ⟨z, rfl, ?_⟩
      cases z with
      | false => exact k _ H3 _ (e1.trans (e2.trans e3)) g3 (.dat (.bl false)) q3
      | true =>
        refine ⟨S, B, ρ, μ, _, (st.ex e1 g1).ex (e2.trans e3) g3, q3, fun z2 H4 c4 e4 g4 r4 q4 => ?_⟩
        exact hr' S B y z2 H4 μ b c4 Q Q2 g4 ((rb.mono (e3.off g2)).mono (e4.off g3)) r4 q4 fun v H5 c e5 g5 rc q5 => k v H5 c (e1.trans (e2.trans (e3.trans (e4.trans e5)))) g5 rc q5
    | _ => exact q3.elim
  | _ => exact q3.elim
theorem ve_chain {op op' : CmpOp} {r r' : R2} {g g' : G2} (ho : OpR X (compareOp op) r) (hr : RV X.K r g) (ho' : OpR X (compareOp op') r') (hr' : RV X.K r' g') (ha : VE X xl a wa) (hb : VE X xl b wb) (hc : VE X xl c wc)
    (hm : lastMarks [op, op'] [b, c] = false := by with_unfolding_all rfl) : VE X xl (.Compare a [op, op'] [b, c] pos) (wChain g g' wa wb wc) := pe_weak (pe_chain ho ho' ha hb hc hm) (le_chain hr hr')
theorem vt_chain {op op' : CmpOp} {r r' : R2} {g g' : G2} (ho : OpR X (compareOp op) r) (hr : RV X.K r g) (ho' : OpR X (compareOp op') r') (hr' : RV X.K r' g') (ha : VE X xl a wa) (hb : VE X xl b wb) (hc : VE X xl c wc)
    (hm : lastMarks [op, op'] [b, c] = false := by with_unfolding_all rfl) : VT X xl (.Compare a [op, op'] [b, c] pos) (wB (wChain g g' wa wb wc)) := pt_weak (pt_chain ho ho' ha hb hc hm) fun σ H Q h => le_chain hr hr' σ H _ (lt_B σ H Q h)
/-! ### arguments, displays -/
def waNil : WA := fun _ _ Q => Q []
def waCons (w : WE) (u : WA) : WA := fun ρ μ Q => w ρ μ fun a => u ρ μ fun as => Q (a :: as)
theorem va_nil : VA X xl [] waNil := pa_weak pa_nil fun σ H Q ⟨S, B, ρ, μ, Q2, st, w, k⟩ => k [] H [] .refl st.gd .nil w
theorem va_cons {es : List Expr} {u : WA} (ha : VE X xl e we) (hr : VA X xl es u) (hs : starEach (e :: es) X.env = (false, eval e X.env) :: starEach es X.env := by rfl) : VA X xl (e :: es) (waCons we u) := by
  refine pa_weak (pa_cons ha hr hs) fun σ H Q ⟨S, B, ρ, μ, Q2, st, w, k⟩ => ?_
  exact ⟨S, B, ρ, μ, _, st, w, fun v H1 a e1 g1 ra q1 => ⟨S, B, ρ, μ, _, st.ex e1 g1, q1, fun vs H2 as e2 g2 rs q2 => k _ H2 _ (e1.trans e2) g2 (.cons (ra.mono (e2.off g1)) rs) q2⟩⟩
def wTup (u : WA) : WE := fun ρ μ Q => u ρ μ fun as => match dats as with | some ds => as.length ≤ 1000 ∧ Q (.dat (.tuple ds)) | none => False
def wLst (u : WA) : WE := fun ρ μ Q => u ρ μ fun as => match dats as with | some ds => as.length ≤ 1000 ∧ Q (.dat (.list ds)) | none => False
theorem le1000 {n : Nat} (h : n ≤ 1000) : n ≤ sizeLine := Nat.le_of_lt (small1000 h)
theorem ve_tup {es : List Expr} {u : WA} {x1} (h : VA X xl es u) : VE X xl (.Tuple es x1 pos) (wTup u) := by
  refine pe_weak (pe_tup h) fun σ H Q ⟨S, B, ρ, μ, Q2, st, w, k⟩ => ⟨S, B, ρ, μ, _, st, w, fun vs H1 as e1 g1 rs q1 => ?_⟩
  split at q1
  · rename_i ds hd
    refine ⟨by rw [rs.len]; exact le1000 q1.1, fun p np => ?_⟩
    obtain ⟨b1, b2⟩ := g1.free np
    exact k _ _ _ (e1.trans (.new np)) (g1.new np) (.dat (.tup (.inl (.inl (off_upd b1 b2))) ((rs.rps hd).mono ((Ex.new np).off g1) _ _))) q1.2
  · exact q1.elim
theorem vf_lst {es : List Expr} {u : WA} (h : VA X xl es u) : VF X xl (.List es pos) (wLst u) := by
  refine pe_weak (pe_lst h) fun σ H Q ⟨S, B, ρ, μ, Q2, st, w, k⟩ => ⟨S, B, ρ, μ, _, st, w, fun vs H1 as e1 g1 rs q1 => ?_⟩
  split at q1
  · rename_i ds hd
    refine ⟨by rw [rs.len]; exact le1000 q1.1, fun p np => ?_⟩
    obtain ⟨b1, b2⟩ := g1.free np
    exact k _ _ _ (e1.trans (.new np)) (g1.new np) (.dat (.lst (off_upd b1 b2) ((rs.rps hd).mono ((Ex.new np).off g1) _ _))) (fun q _ e _ => by cases e; exact e1.dom _ np) q1.2
  · exact q1.elim
/-! ### slices -/
def woNone : WO := fun _ _ Q => Q none
def woSome (w : WE) : WO := fun ρ μ Q => w ρ μ fun a => match a with | .dat (.int i) => Q (some i) | _ => False
theorem vo_none : VO X xl none woNone := po_weak po_none fun σ H Q ⟨S, B, ρ, μ, Q2, st, w, k⟩ => k none H .refl st.gd w
theorem vo_some (h : VE X xl e we) : VO X xl (some e) (woSome we) := by
  refine po_weak (po_some h) fun σ H Q ⟨S, B, ρ, μ, Q2, st, w, k⟩ => ⟨S, B, ρ, μ, _, st, w, fun v H1 a e1 g1 ra q1 => ?_⟩
  cases ra with
  | dat r =>
    cases r with
    | int i => exact ⟨i, rfl, k _ H1 e1 g1 q1⟩
    | _ => exact q1.elim
  | _ => exact q1.elim
def cutD {α : Type} (xs : List α) (lo hi : Option Int) : List α := (xs.drop (HT.sIx xs.length 0 lo)).take (HT.sIx xs.length xs.length hi - HT.sIx xs.length 0 lo)
theorem rps_cut {K : PySem.W.Frag} {G : Hp} {xs : List V} {ds : List PyData} {lo hi : Option Int} (r : Rps K G xs ds) : Rps K G (cutV xs lo hi) (cutD ds lo hi) := by
  unfold cutV cutD
  rw [r.len]
  exact (r.drop _).take _
theorem Ras.drop' {K : PySem.W.Frag} {S : Hs} {μ : Mem} {G : Hp} : ∀ {ds : List A} {vs : List V} (n : Nat), Ras K S μ G vs ds → Ras K S μ G (vs.drop n) (ds.drop n)
  | _, _, 0, h => h
  | [], _, n + 1, h => by cases h; exact .nil
  | d :: ds, _, n + 1, h => by cases h with | cons h1 h2 => exact Ras.drop' n h2
theorem Ras.take' {K : PySem.W.Frag} {S : Hs} {μ : Mem} {G : Hp} : ∀ {ds : List A} {vs : List V} (n : Nat), Ras K S μ G vs ds → Ras K S μ G (vs.take n) (ds.take n)
  | _, _, 0, h => .nil
  | [], _, n + 1, h => by cases h; exact .nil
  | d :: ds, _, n + 1, h => by cases h with | cons h1 h2 => exact .cons h1 (Ras.take' n h2)
def wSlT (wa : WE) (wl wh : WO) : WE := fun ρ μ Q => wa ρ μ fun a => wl ρ μ fun lo => wh ρ μ fun hi => match a with
  | .dat (.tuple ds) => ¬ (HT.sIx ds.length 0 lo = 0 ∧ HT.sIx ds.length ds.length hi = ds.length) ∧ Q (.dat (.tuple (cutD ds lo hi)))
  | _ => False
def wSlL (wa : WE) (wl wh : WO) : WE := fun ρ μ Q => wa ρ μ fun a => wl ρ μ fun lo => wh ρ μ fun hi => match a with
  | .dat (.list ds) => Q (.dat (.list (cutD ds lo hi)))
  | _ => False
theorem ve_slT {lo hi : Option Expr} {p2} {wl wh : WO} (ha : VE X xl a wa) (hl : VO X xl lo wl) (hh : VO X xl hi wh) : VE X xl (.Subscript a (.Slice lo hi none p2) pos) (wSlT wa wl wh) := by
  refine pe_weak (pe_slice sl_tup ha hl hh) fun σ H Q ⟨S, B, ρ, μ, Q2, st, w, k⟩ => ⟨S, B, ρ, μ, _, st, w, fun v H1 a e1 g1 ra q1 => ⟨S, B, ρ, μ, _, st.ex e1 g1, q1, fun l H2 e2 g2 q2 => ⟨S, B, ρ, μ, _, (st.ex e1 g1).ex e2 g2, q2, fun h H3 e3 g3 q3 => ?_⟩⟩⟩
  cases ra with
  | dat r =>
    cases r with
    | @tup p xs ds h1 h2 =>
      refine ⟨p, xs, rfl, sqt_same off_same (sqt_same ((e2.trans e3).off g1) h1), ?_, fun q nq => ?_⟩
      · rw [h2.len]; exact q3.1
      obtain ⟨b1, b2⟩ := g3.free nq
      exact k _ _ _ (e1.trans (e2.trans (e3.trans (.new nq)))) (g3.new nq) (.dat (.tup (.inl (.inl (off_upd b1 b2))) (rps_cut ((h2.mono ((e2.trans e3).off g1) _ _).mono ((Ex.new nq).off g3) _ _)))) q3.2
    | _ => exact q3.elim
  | _ => exact q3.elim
theorem vf_slL {lo hi : Option Expr} {p2} {wl wh : WO} (ha : VE X xl a wa) (hl : VO X xl lo wl) (hh : VO X xl hi wh) : VF X xl (.Subscript a (.Slice lo hi none p2) pos) (wSlL wa wl wh) := by
  refine pe_weak (pe_slice sl_list ha hl hh) fun σ H Q ⟨S, B, ρ, μ, Q2, st, w, k⟩ => ⟨S, B, ρ, μ, _, st, w, fun v H1 a e1 g1 ra q1 => ⟨S, B, ρ, μ, _, st.ex e1 g1, q1, fun l H2 e2 g2 q2 => ⟨S, B, ρ, μ, _, (st.ex e1 g1).ex e2 g2, q2, fun h H3 e3 g3 q3 => ?_⟩⟩⟩
  cases ra with
  | dat r =>
    cases r with
    | @lst p xs ds h1 h2 =>
      refine ⟨p, xs, rfl, SqL.of (off_same _ _ ((e2.trans e3).off g1 _ _ h1)), fun q nq => ?_⟩
      obtain ⟨b1, b2⟩ := g3.free nq
      exact k _ _ _ (e1.trans (e2.trans (e3.trans (.new nq)))) (g3.new nq) (.dat (.lst (off_upd b1 b2) (rps_cut ((h2.mono ((e2.trans e3).off g1) _ _).mono ((Ex.new nq).off g3) _ _)))) (fun z _ e _ => by cases e; exact e1.dom _ (e2.dom _ (e3.dom _ nq))) q3
    | _ => exact q3.elim
  | _ => exact q3.elim
end
end Hv

set_option Elab.async false
set_option linter.all false
set_option maxRecDepth 100000
namespace Hv
open PySem PySem.Spec PyProof.Rows L2 Hod
section
variable {K : PySem.W.Frag} {xl : XLT K}
/-! ### ints -/
def gI (f : Int → Int → PyData) : G2 := fun _ a b Q => match a, b with | .dat (.int i), .dat (.int j) => Q (.dat (f i j)) | _, _ => False
def gC (C : Int → Int → Prop) (f : Int → Int → PyData) : G2 := fun _ a b Q => match a, b with | .dat (.int i), .dat (.int j) => C i j ∧ Q (.dat (f i j)) | _, _ => False
def flatV2 : V → Prop | .ref _ => False | _ => True
theorem rw_I0 {g : Int → Int → V} {f : Int → Int → PyData} (h : ∀ i j K G, Rp K G (g i j) (f i j)) (hn : ∀ i j p, g i j ≠ .ref p) : RW K (rI0 g) (gI f) := fun S B x y H μ a b Q Q2 gd ra rb q k => by
  cases ra with
  | dat ra =>
    cases ra with
    | int i =>
      cases rb with
      | dat rb =>
        cases rb with
        | int j => exact ⟨i, j, rfl, rfl, k _ H _ .refl gd (.dat (h i j _ _)) (fun p _ e => absurd e (hn i j p)) q⟩
        | _ => exact q.elim
      | _ => exact q.elim
    | _ => exact q.elim
  | _ => exact q.elim
theorem rw_I {C : Int → Int → Prop} {g : Int → Int → V} {f : Int → Int → PyData} (h : ∀ i j K G, Rp K G (g i j) (f i j)) (hn : ∀ i j p, g i j ≠ .ref p) : RW K (rI C g) (gC C f) := fun S B x y H μ a b Q Q2 gd ra rb q k => by
  cases ra with
  | dat ra =>
    cases ra with
    | int i =>
      cases rb with
      | dat rb =>
        cases rb with
        | int j => exact ⟨i, j, rfl, rfl, q.1, k _ H _ .refl gd (.dat (h i j _ _)) (fun p _ e => absurd e (hn i j p)) q.2⟩
        | _ => exact q.elim
      | _ => exact q.elim
    | _ => exact q.elim
  | _ => exact q.elim
abbrev gAdd : G2 := gI fun i j => .int (i + j)
abbrev gSub : G2 := gI fun i j => .int (i - j)
abbrev gLt : G2 := gI fun i j => .bool (decide (i < j))
abbrev gLe : G2 := gI fun i j => .bool (decide (i ≤ j))
abbrev gGt : G2 := gI fun i j => .bool (decide (j < i))
abbrev gGe : G2 := gI fun i j => .bool (decide (j ≤ i))
abbrev gMul : G2 := gC CMul fun i j => .int (i * j)
abbrev gDiv : G2 := gC CDiv fun i j => .int (i / j)
abbrev gMod : G2 := gC (fun _ j => 0 < j) fun i j => .int (i % j)
abbrev gPow : G2 := gC CPow fun i j => .int (i ^ j.toNat)
theorem r_add : RV K (rI0 fun i j => .int (i + j)) gAdd := (rw_I0 (fun _ _ _ _ => .int _) (fun _ _ _ e => nomatch e)).rv
theorem r_sub : RV K (rI0 fun i j => .int (i - j)) gSub := (rw_I0 (fun _ _ _ _ => .int _) (fun _ _ _ e => nomatch e)).rv
theorem r_lt : RV K (rI0 fun i j => .bl (decide (i < j))) gLt := (rw_I0 (fun _ _ _ _ => .bl _) (fun _ _ _ e => nomatch e)).rv
theorem r_le : RV K (rI0 fun i j => .bl (decide (i ≤ j))) gLe := (rw_I0 (fun _ _ _ _ => .bl _) (fun _ _ _ e => nomatch e)).rv
theorem r_gt : RV K (rI0 fun i j => .bl (decide (j < i))) gGt := (rw_I0 (fun _ _ _ _ => .bl _) (fun _ _ _ e => nomatch e)).rv
theorem r_ge : RV K (rI0 fun i j => .bl (decide (j ≤ i))) gGe := (rw_I0 (fun _ _ _ _ => .bl _) (fun _ _ _ e => nomatch e)).rv
theorem r_mul : RV K (rI CMul fun i j => .int (i * j)) gMul := (rw_I (fun _ _ _ _ => .int _) (fun _ _ _ e => nomatch e)).rv
theorem r_div : RV K (rI CDiv fun i j => .int (i / j)) gDiv := (rw_I (fun _ _ _ _ => .int _) (fun _ _ _ e => nomatch e)).rv
theorem r_mod : RV K (rI (fun _ j => 0 < j) fun i j => .int (i % j)) gMod := (rw_I (fun _ _ _ _ => .int _) (fun _ _ _ e => nomatch e)).rv
theorem r_pow : RV K (rI CPow fun i j => .int (i ^ j.toNat)) gPow := (rw_I (fun _ _ _ _ => .int _) (fun _ _ _ e => nomatch e)).rv
/-! ### == of flat things -/
def eqF : PyData → PyData → Option Bool
  | .int i, .int j => some (decide (i = j))
  | .bool i, .bool j => some (decide (i = j))
  | .str i, .str j => some (decide (i = j))
  | .none, .none => some true
  | .none, .int _ => some false
  | .int _, .none => some false
  | .int _, .str _ => some false
  | .str _, .int _ => some false
  | .none, .str _ => some false
  | .str _, .none => some false
  | _, _ => none
def gEq : G2 := fun _ a b Q => match a, b with | .dat d, .dat e => (match eqF d e with | some k => Q (.dat (.bool k)) | none => False) | _, _ => False
def gNe : G2 := fun _ a b Q => match a, b with | .dat d, .dat e => (match eqF d e with | some k => Q (.dat (.bool (!k))) | none => False) | _, _ => False
theorem eqF_ok {G : Hp} {x y : V} {d e : PyData} {k : Bool} (r1 : Rp K G x d) (r2 : Rp K G y e) (h : eqF d e = some k) : scal x y = true ∧ decide (x = y) = k := by
  cases r1 <;> cases r2 <;> first | (cases h; done) | (cases h; simp [scal]; done) | skip
theorem r_eq : RV K rEq gEq := fun S B x y H μ a b Q Q2 gd ra rb q k => by
  cases ra with
  | dat ra =>
    cases rb with
    | dat rb =>
      unfold gEq at q
      dsimp only at q
      split at q
      · rename_i kk hk
        obtain ⟨h1, h2⟩ := eqF_ok ra rb hk
        exact ⟨h1, by rw [h2]; exact k _ H _ .refl gd (.dat (.bl _)) q⟩
      · exact q.elim
    | _ => exact q.elim
  | _ => exact q.elim
theorem r_ne : RV K rNe gNe := fun S B x y H μ a b Q Q2 gd ra rb q k => by
  cases ra with
  | dat ra =>
    cases rb with
    | dat rb =>
      unfold gNe at q
      dsimp only at q
      split at q
      · rename_i kk hk
        obtain ⟨h1, h2⟩ := eqF_ok ra rb hk
        exact ⟨h1, by rw [h2]; exact k _ H _ .refl gd (.dat (.bl _)) q⟩
      · exact q.elim
    | _ => exact q.elim
  | _ => exact q.elim
/-! ### == at any depth; a cell is its items -/
def rsv (μ : Mem) : A → Option PyData
  | .dat d => some d
  | .own a => match μ a with | some xs => (dats xs).map PyData.list | none => none
  | _ => none
theorem rsv_dp {S : Hs} {B : Hid} {μ : Mem} {H : Hp} {x : V} {a : A} {d : PyData} (g : Good K S B μ H) (r : Ra K S μ (off B μ H) x a) (h : rsv μ a = some d) : Dp K H x d := by
  cases r with
  | dat r => cases h; exact (r.mono off_same _ _).dp _ _
  | @own p h1 =>
    unfold rsv at h
    dsimp only at h
    cases q : μ p with
    | none => rw [q] at h; cases h
    | some xs =>
      rw [q] at h
      dsimp only at h
      obtain ⟨_, vs, e1, e2⟩ := g.ls h1 q
      cases hd : dats xs with
      | none => rw [hd] at h; cases h
      | some ds =>
        rw [hd] at h
        cases h
        exact .lst (SqL.of e1) (((e2.rps hd).mono off_same _ _).dp _ _)
  | drw h1 => cases h
  | ty => cases h
  | fn => cases h
  | obj => cases h
def gEqD : G2 := fun μ a b Q => ∃ d e, rsv μ a = some d ∧ rsv μ b = some e ∧ SeqAt.shaped d = true ∧ SeqAt.shaped e = true ∧ Q (.dat (.bool (PyData.eqv d e)))
def gNeD : G2 := fun μ a b Q => ∃ d e, rsv μ a = some d ∧ rsv μ b = some e ∧ SeqAt.shaped d = true ∧ SeqAt.shaped e = true ∧ Q (.dat (.bool (!PyData.eqv d e)))
theorem r_eqD : RV K (rEqD K) gEqD := fun S B x y H μ a b Q Q2 gd ra rb q k => by
  obtain ⟨d, e, h1, h2, h3, h4, q⟩ := q
  exact ⟨d, e, rsv_dp gd ra h1, rsv_dp gd rb h2, h3, h4, k _ H _ .refl gd (.dat (.bl _)) q⟩
theorem r_neD : RV K (rNeD K) gNeD := fun S B x y H μ a b Q Q2 gd ra rb q k => by
  obtain ⟨d, e, h1, h2, h3, h4, q⟩ := q
  exact ⟨d, e, rsv_dp gd ra h1, rsv_dp gd rb h2, h3, h4, k _ H _ .refl gd (.dat (.bl _)) q⟩
/-! ### is None -/
def isNoneA : A → Bool | .dat .none => true | _ => false
def gIsN : G2 := fun _ a b Q => match b with | .dat .none => Q (.dat (.bool (isNoneA a))) | _ => False
def gNotN : G2 := fun _ a b Q => match b with | .dat .none => Q (.dat (.bool (!isNoneA a))) | _ => False
theorem isN_ok {S : Hs} {μ : Mem} {G : Hp} {x : V} {a : A} (r : Ra K S μ G x a) : decide (x = .non) = isNoneA a := by
  cases r with
  | dat r => cases r <;> simp [isNoneA]
  | own h => simp [isNoneA]
  | drw h => simp [isNoneA]
  | ty => simp [isNoneA]
  | fn => simp [isNoneA]
  | obj => simp [isNoneA]
theorem r_isN : RV K (fun x y H Q => y = .non ∧ Q (.bl (decide (x = .non))) H) gIsN := fun S B x y H μ a b Q Q2 gd ra rb q k => by
  cases rb with
  | dat rb =>
    cases rb with
    | non => exact ⟨rfl, by rw [isN_ok ra]; exact k _ H _ .refl gd (.dat (.bl _)) q⟩
    | _ => exact q.elim
  | _ => exact q.elim
theorem r_notN : RV K (fun x y H Q => y = .non ∧ Q (.bl (!decide (x = .non))) H) gNotN := fun S B x y H μ a b Q Q2 gd ra rb q k => by
  cases rb with
  | dat rb =>
    cases rb with
    | non => exact ⟨rfl, by rw [isN_ok ra]; exact k _ H _ .refl gd (.dat (.bl _)) q⟩
    | _ => exact q.elim
  | _ => exact q.elim
/-! ### subscripts -/
def gIx : G2 := fun μ a b Q => match a, b with
  | .dat (.list ds), .dat (.int i) => (match atI ds i with | some d => Q (.dat d) | none => False)
  | .dat (.tuple ds), .dat (.int i) => (match atI ds i with | some d => Q (.dat d) | none => False)
  | .own p, .dat (.int i) => (match μ p with | some xs => (match atI xs i with | some d => Q d | none => False) | none => False)
  | _, _ => False
theorem rps_at {G : Hp} {xs : List V} {ds : List PyData} {i : Int} {d : PyData} (r : Rps K G xs ds) (h : atI ds i = some d) : ∃ v, atI xs i = some v ∧ Rp K G v d := by
  unfold atI at h ⊢
  rw [r.len]
  cases q : ixN ds.length i with
  | none => rw [q] at h; cases h
  | some j => rw [q] at h; exact r.get h
theorem ras_at {S : Hs} {μ : Mem} {G : Hp} {xs : List V} {ds : List A} {i : Int} {d : A} (r : Ras K S μ G xs ds) (h : atI ds i = some d) : ∃ v, atI xs i = some v ∧ Ra K S μ G v d := by
  unfold atI at h ⊢
  rw [r.len]
  cases q : ixN ds.length i with
  | none => rw [q] at h; cases h
  | some j => rw [q] at h; exact r.get h
theorem r_ix : RV K (rIx K) gIx := fun S B x y H μ a b Q Q2 gd ra rb q k => by
  cases rb with
  | dat rb =>
    cases rb with
    | int i =>
      cases ra with
      | dat ra =>
        cases ra with
        | @lst p xs ds h1 h2 =>
          unfold gIx at q
          dsimp only at q
          split at q
          · rename_i d hd
            obtain ⟨v, e1, e2⟩ := rps_at h2 hd
            exact .inl ⟨p, xs, i, v, rfl, rfl, SqL.of (off_same _ _ h1), e1, k _ H _ .refl gd (.dat e2) q⟩
          · exact q.elim
        | @tup p xs ds h1 h2 =>
          unfold gIx at q
          dsimp only at q
          split at q
          · rename_i d hd
            obtain ⟨v, e1, e2⟩ := rps_at h2 hd
            exact .inr (.inl ⟨p, xs, i, v, rfl, rfl, sqt_same off_same h1, e1, k _ H _ .refl gd (.dat e2) q⟩)
          · exact q.elim
        | _ => exact q.elim
      | @own p h1 =>
        unfold gIx at q
        dsimp only at q
        split at q
        · rename_i xs hx
          obtain ⟨_, vs, e1, e2⟩ := gd.ls h1 hx
          split at q
          · rename_i d hd
            obtain ⟨v, e3, e4⟩ := ras_at e2 hd
            exact .inl ⟨p, vs, i, v, rfl, rfl, SqL.of e1, e3, k _ H _ .refl gd e4 q⟩
          · exact q.elim
        · exact q.elim
      | _ => exact q.elim
    | _ => cases a <;> first | exact q.elim | (rename_i d; cases d <;> exact q.elim)
  | _ => cases a <;> first | exact q.elim | (rename_i d; cases d <;> exact q.elim)
/-! ### in -/
def flatD : PyData → Bool | .none => true | .bool _ => true | .int _ => true | .str _ => true | _ => false
def seqA (μ : Mem) : A → Option (List PyData)
  | .dat (.list ds) => some ds
  | .dat (.tuple ds) => some ds
  | .own a => match μ a with | some xs => dats xs | none => none
  | _ => none
theorem seqA_ok {S : Hs} {B : Hid} {μ : Mem} {H : Hp} {x : V} {a : A} {ds : List PyData} (g : Good K S B μ H) (r : Ra K S μ (off B μ H) x a) (h : seqA μ a = some ds) : ∃ p xs, x = .ref p ∧ (SqL K H p xs ∨ SqT K H p xs) ∧ Rps K (off B μ H) xs ds := by
  cases r with
  | dat r =>
    cases r with
    | @lst p xs ds h1 h2 => cases h; exact ⟨p, xs, rfl, .inl (SqL.of (off_same _ _ h1)), h2⟩
    | @tup p xs ds h1 h2 => cases h; exact ⟨p, xs, rfl, .inr (sqt_same off_same h1), h2⟩
    | _ => cases h
  | @own p h1 =>
    unfold seqA at h
    dsimp only at h
    cases q : μ p with
    | none => rw [q] at h; cases h
    | some xs =>
      rw [q] at h
      obtain ⟨_, vs, e1, e2⟩ := g.ls h1 q
      exact ⟨p, vs, rfl, .inl (SqL.of e1), e2.rps h⟩
  | drw h1 => cases h
  | ty => cases h
  | fn => cases h
  | obj => cases h
theorem flat_ok {G : Hp} {x : V} {d : PyData} (r : Rp K G x d) : flatV x = flatD d := by cases r <;> rfl
theorem flat_all {G : Hp} : ∀ {ds : List PyData} {xs : List V}, Rps K G xs ds → xs.all flatV = ds.all flatD
  | [], _, h => by cases h; rfl
  | d :: ds, _, h => by cases h with | cons h1 h2 => simp only [List.all_cons, flat_ok h1, flat_all h2]
theorem eqV_ok {G : Hp} {x y : V} {d e : PyData} (r1 : Rp K G x d) (r2 : Rp K G y e) (f1 : flatD d = true) (f2 : flatD e = true) : eqV x y = PyData.eqv d e := by
  cases r1 <;> cases r2 <;> first | rfl | (simp [eqV, PyData.eqv]; done) | (cases f1; done) | (cases f2; done)
theorem inV_ok {G : Hp} {x : V} {d : PyData} (r1 : Rp K G x d) (f1 : flatD d = true) : ∀ {ds : List PyData} {xs : List V}, Rps K G xs ds → ds.all flatD = true → inV x xs = ds.any fun z => PyData.eqv z d
  | [], _, h, _ => by cases h; rfl
  | e :: ds, _, h, f => by
    cases h with
    | cons h1 h2 =>
      simp only [List.all_cons, Bool.and_eq_true] at f
      have i := inV_ok r1 f1 h2 f.2
      unfold inV at i ⊢
      rw [List.any_cons, List.any_cons, i, eqV_ok h1 r1 f.1 f1]
def gIn (neg : Bool) : G2 := fun μ a b Q => match a with
  | .dat d => (match seqA μ b with | some ds => flatD d = true ∧ ds.all flatD = true ∧ Q (.dat (.bool (if neg then !(ds.any fun z => PyData.eqv z d) else ds.any fun z => PyData.eqv z d))) | none => False)
  | _ => False
theorem r_in {neg : Bool} : RV K (rIn K neg) (gIn neg) := fun S B x y H μ a b Q Q2 gd ra rb q k => by
  cases ra with
  | dat ra =>
    unfold gIn at q
    dsimp only at q
    split at q
    · rename_i ds hd
      obtain ⟨p, xs, e1, e2, e3⟩ := seqA_ok gd rb hd
      obtain ⟨f1, f2, q⟩ := q
      refine ⟨p, xs, e1, e2, (flat_ok ra).trans f1, (flat_all e3).trans f2, ?_⟩
      rw [inV_ok ra f1 e3 f2]
      exact k _ H _ .refl gd (.dat (.bl _)) q
    · exact q.elim
  | _ => exact q.elim
/-! ### list + list, list * int -/
def gCat : G2 := fun _ a b Q => match a, b with | .dat (.list xs), .dat (.list ys) => xs.length + ys.length ≤ 1000000 ∧ Q (.dat (.list (xs ++ ys))) | _, _ => False
def gRep : G2 := fun _ a b Q => match a, b with | .dat (.list xs), .dat (.int k) => (-1000 ≤ k ∧ k ≤ 1000) ∧ xs.length ≤ 1000 ∧ Q (.dat (.list (List.replicate k.toNat xs).flatten)) | _, _ => False
theorem big {n : Nat} (h : n ≤ 1000000) : n ≤ sizeLine := Nat.le_trans h (by decide)
theorem rps_flat {G : Hp} {xs : List V} {ds : List PyData} (r : Rps K G xs ds) : ∀ n : Nat, Rps K G (List.replicate n xs).flatten (List.replicate n ds).flatten
  | 0 => .nil
  | n + 1 => by rw [List.replicate_succ, List.replicate_succ, List.flatten_cons, List.flatten_cons]; exact r.app (rps_flat r n)
theorem r_cat : RW K rCat gCat := fun S B x y H μ a b Q Q2 gd ra rb q k => by
  cases ra with
  | dat ra =>
    cases ra with
    | @lst p xs ds h1 h2 =>
      cases rb with
      | dat rb =>
        cases rb with
        | @lst p2 xs2 ds2 h3 h4 =>
          refine ⟨p, p2, xs, xs2, rfl, rfl, off_same _ _ h1, off_same _ _ h3, by rw [h2.len, h4.len]; exact big q.1, fun l nl => ?_⟩
          obtain ⟨b1, b2⟩ := gd.free nl
          exact k _ _ _ (.new nl) (gd.new nl) (.dat (.lst (off_upd b1 b2) ((h2.app h4).mono ((Ex.new nl).off gd) _ _))) (fun z _ e _ => by cases e; exact nl) q.2
        | _ => exact q.elim
      | _ => exact q.elim
    | _ => exact q.elim
  | _ => exact q.elim
theorem r_rep : RW K rRep gRep := fun S B x y H μ a b Q Q2 gd ra rb q k => by
  cases ra with
  | dat ra =>
    cases ra with
    | @lst p xs ds h1 h2 =>
      cases rb with
      | dat rb =>
        cases rb with
        | int i =>
          obtain ⟨q1, q2, q⟩ := q
          refine ⟨p, i, xs, rfl, rfl, off_same _ _ h1, by omega, by omega, ?_, fun l nl => ?_⟩
          · rw [h2.len]
            exact big (Nat.le_trans (Nat.mul_le_mul q2 (show i.toNat ≤ 1000 by omega)) (by decide))
          obtain ⟨b1, b2⟩ := gd.free nl
          exact k _ _ _ (.new nl) (gd.new nl) (.dat (.lst (off_upd b1 b2) ((rps_flat h2 _).mono ((Ex.new nl).off gd) _ _))) (fun z _ e _ => by cases e; exact nl) q
        | _ => exact q.elim
      | _ => exact q.elim
    | _ => exact q.elim
  | _ => exact q.elim
end
end Hv

set_option Elab.async false
set_option linter.all false
set_option maxRecDepth 100000
namespace Hv
open PySem PySem.Spec PyProof.Rows L2 Hod
/-! ### built-in functions -/
abbrev GC := Mem → List A → (A → Prop) → Prop
def CW (K : PySem.W.Frag) (r : List V → Hp → VK → Prop) (g : GC) : Prop := ∀ S B xs H μ as Q Q2, Good K S B μ H → Ras K S μ (off B μ H) xs as → g μ as Q2 →
  (∀ v H' c, Ex S H H' → Good K S B μ H' → Ra K S μ (off B μ H') v c → (∀ p ds, v = .ref p → c = .dat (.list ds) → H p = none) → Q2 c → Q v H') → r xs H Q
def wCB (g : GC) (u : WA) : WE := fun ρ μ Q => u ρ μ fun as => g μ as Q
section
variable {X : Cx} {xl : XLT X.K} {e : Expr} {es : List Expr} {u : WA} {x : Str} {id T : String} {r : List V → Hp → VK → Prop} {g : GC} {p pos : Pos}
theorem lf_cb {K : PySem.W.Frag} {xl : XLT K} (hr : CW K r g) (σ : L2.St) (H : Hp) (Q : VK) (h : LF K xl (wCB g u) σ H Q) : tCB r (LA K xl u) σ H Q := by
  obtain ⟨S, B, ρ, μ, Q2, st, w, k⟩ := h
  exact ⟨S, B, ρ, μ, _, st, w, fun vs H1 as e1 g1 rs q1 => hr S B vs H1 μ as Q Q2 g1 rs q1 fun v H2 c e2 g2 rc n q2 => k v H2 c (e1.trans e2) g2 rc (fun p ds h1 h2 => e1.dom _ (n p ds h1 h2)) q2⟩
theorem vf_callB (hr : CW X.K r g) (hc : CallR X (.builtin id) r) (hg : Gl X x) (hm : X.mg x = none) (hv : bootBuiltins x = some (.builtin id)) (ha : VA X xl (e :: es) u) (hn : x ≠ "__name__" := by decide) (hdb : (x == ("__debug__" : Str)) = false := by decide)
    (he : starEach (e :: es) X.env = (false, eval e X.env) :: starEach es X.env := by rfl) (hpl : (backTo pos (starEach es X.env)).any (·.1) = false := by rfl) : VF X xl (.Call (.Name x p) (e :: es) [] pos) (wCB g u) :=
  pe_weak (pe_callB hc hg hm hv ha hn hdb he hpl) (lf_cb hr)
theorem vf_callTy (hr : CW X.K r g) (hc : CallR X (.type T) r) (hg : Gl X x) (hm : X.mg x = none) (hv : bootBuiltins x = some (.type T)) (ha : VA X xl (e :: es) u) (hn : x ≠ "__name__" := by decide) (hdb : (x == ("__debug__" : Str)) = false := by decide)
    (he : starEach (e :: es) X.env = (false, eval e X.env) :: starEach es X.env := by rfl) (hpl : (backTo pos (starEach es X.env)).any (·.1) = false := by rfl) : VF X xl (.Call (.Name x p) (e :: es) [] pos) (wCB g u) :=
  pe_weak (pe_callTy hc hg hm hv ha hn hdb he hpl) (lf_cb hr)
end
section
variable {K : PySem.W.Frag} {xl : XLT K}
def lenA (μ : Mem) : A → Option Nat
  | .dat (.list ds) => some ds.length
  | .dat (.tuple ds) => some ds.length
  | .own a => (μ a).map List.length
  | _ => none
def gLen : GC := fun μ as Q => match as with | [a] => (match lenA μ a with | some n => Q (.dat (.int n)) | none => False) | _ => False
theorem c_len : CW K (fun xs H Q => ∃ p ys, xs = [.ref p] ∧ (SqL K H p ys ∨ SqT K H p ys) ∧ Q (.int ys.length) H) gLen := fun S B xs H μ as Q Q2 gd rs q k => by
  cases rs with
  | nil => exact q.elim
  | @cons v vs a as r rs =>
    cases rs with
    | cons _ _ => exact q.elim
    | nil =>
      unfold gLen at q
      dsimp only at q
      split at q
      · rename_i n hn
        cases r with
        | dat r =>
          cases r with
          | @lst p xs ds h1 h2 => cases hn; exact ⟨p, xs, rfl, .inl (SqL.of (off_same _ _ h1)), by rw [h2.len]; exact k _ H _ .refl gd (.dat (.int _)) (fun _ _ e => nomatch e) q⟩
          | @tup p xs ds h1 h2 => cases hn; exact ⟨p, xs, rfl, .inr (sqt_same off_same h1), by rw [h2.len]; exact k _ H _ .refl gd (.dat (.int _)) (fun _ _ e => nomatch e) q⟩
          | _ => cases hn
        | @own p h1 =>
          unfold lenA at hn
          dsimp only at hn
          cases hq : μ p with
          | none => rw [hq] at hn; cases hn
          | some xs =>
            rw [hq] at hn
            cases hn
            obtain ⟨_, vs, e1, e2⟩ := gd.ls h1 hq
            exact ⟨p, vs, rfl, .inl (SqL.of e1), by rw [e2.len]; exact k _ H _ .refl gd (.dat (.int _)) (fun _ _ e => nomatch e) q⟩
        | drw _ => cases hn
        | ty => cases hn
        | fn => cases hn
        | obj => cases hn
      · exact q.elim
def gList : GC := fun μ as Q => match as with | [a] => (match seqA μ a with | some ds => Q (.dat (.list ds)) | none => False) | _ => False
theorem c_list : CW K (fun xs H Q => ∃ p ys, xs = [.ref p] ∧ (SqL K H p ys ∨ SqT K H p ys) ∧ ∀ l, H l = none → Q (.ref l) (upd H l (.lst ys))) gList := fun S B xs H μ as Q Q2 gd rs q k => by
  cases rs with
  | nil => exact q.elim
  | @cons v vs a as r rs =>
    cases rs with
    | cons _ _ => exact q.elim
    | nil =>
      unfold gList at q
      dsimp only at q
      split at q
      · rename_i ds hd
        obtain ⟨p, xs, rfl, h2, h3⟩ := seqA_ok gd r hd
        refine ⟨p, xs, rfl, h2, fun l nl => ?_⟩
        obtain ⟨b1, b2⟩ := gd.free nl
        exact k _ _ _ (.new nl) (gd.new nl) (.dat (.lst (off_upd b1 b2) (h3.mono ((Ex.new nl).off gd) _ _))) (fun z _ e _ => by cases e; exact nl) q
      · exact q.elim
def gTuple : GC := fun μ as Q => match as with | [a] => (match seqA μ a with | some ds => Q (.dat (.tuple ds)) | none => False) | _ => False
theorem c_tuple : CW K (fun xs H Q => ∃ p ys, xs = [.ref p] ∧ ((SqL K H p ys ∧ ∀ l, H l = none → Q (.ref l) (upd H l (.tup ys))) ∨ (SqT K H p ys ∧ Q (.ref p) H))) gTuple := fun S B xs H μ as Q Q2 gd rs q k => by
  cases rs with
  | nil => exact q.elim
  | @cons v vs a as r rs =>
    cases rs with
    | cons _ _ => exact q.elim
    | nil =>
      unfold gTuple at q
      dsimp only at q
      split at q
      · rename_i ds hd
        have new : ∀ (p : Addr) (xs : List V), SqL K H p xs → Rps K (off B μ H) xs ds → ∃ p' ys, [V.ref p] = [V.ref p'] ∧ ((SqL K H p' ys ∧ ∀ l, H l = none → Q (.ref l) (upd H l (.tup ys))) ∨ (SqT K H p' ys ∧ Q (.ref p') H)) := fun p xs h2 h3 => by
          refine ⟨p, xs, rfl, .inl ⟨h2, fun l nl => ?_⟩⟩
          obtain ⟨b1, b2⟩ := gd.free nl
          exact k _ _ _ (.new nl) (gd.new nl) (.dat (.tup (.inl (.inl (off_upd b1 b2))) (h3.mono ((Ex.new nl).off gd) _ _))) (fun z _ _ e => nomatch e) q
        cases r with
        | dat r =>
          cases r with
          | @lst p xs ds h1 h2 => cases hd; exact new p xs (SqL.of (off_same _ _ h1)) h2
          | @tup p xs ds h1 h2 => cases hd; exact ⟨p, xs, rfl, .inr ⟨sqt_same off_same h1, k _ H _ .refl gd (.dat (.tup h1 h2)) (fun z _ _ e => nomatch e) q⟩⟩
          | _ => cases hd
        | @own p h1 =>
          unfold seqA at hd
          dsimp only at hd
          cases hq : μ p with
          | none => rw [hq] at hd; cases hd
          | some xs =>
            rw [hq] at hd
            obtain ⟨_, vs, e1, e2⟩ := gd.ls h1 hq
            exact new p vs (SqL.of e1) (e2.rps hd)
        | drw h1 => cases hd
        | ty => cases hd
        | fn => cases hd
        | obj => cases hd
      · exact q.elim
def boolsD : List PyData → Option (List Bool)
  | [] => some []
  | .bool b :: ds => (boolsD ds).map (b :: ·)
  | _ :: _ => none
def intsD : List PyData → Option (List Int)
  | [] => some []
  | .int b :: ds => (intsD ds).map (b :: ·)
  | _ :: _ => none
theorem bools_ok {G : Hp} : ∀ {ds : List PyData} {xs : List V} {bs : List Bool}, Rps K G xs ds → boolsD ds = some bs → xs = bs.map V.bl
  | [], _, _, h, e => by cases h; cases e; rfl
  | .bool b :: ds, _, _, h, e => by
    cases h with
    | cons h1 h2 =>
      cases h1
      unfold boolsD at e
      cases q : boolsD ds with
      | none => rw [q] at e; cases e
      | some es => rw [q] at e; cases e; rw [bools_ok h2 q]; rfl
  | .none :: _, _, _, _, e => by cases e
  | .int _ :: _, _, _, _, e => by cases e
  | .str _ :: _, _, _, _, e => by cases e
  | .list _ :: _, _, _, _, e => by cases e
  | .tuple _ :: _, _, _, _, e => by cases e
  | .dict _ :: _, _, _, _, e => by cases e
theorem ints_ok {G : Hp} : ∀ {ds : List PyData} {xs : List V} {bs : List Int}, Rps K G xs ds → intsD ds = some bs → xs = bs.map V.int
  | [], _, _, h, e => by cases h; cases e; rfl
  | .int b :: ds, _, _, h, e => by
    cases h with
    | cons h1 h2 =>
      cases h1
      unfold intsD at e
      cases q : intsD ds with
      | none => rw [q] at e; cases e
      | some es => rw [q] at e; cases e; rw [ints_ok h2 q]; rfl
  | .none :: _, _, _, _, e => by cases e
  | .bool _ :: _, _, _, _, e => by cases e
  | .str _ :: _, _, _, _, e => by cases e
  | .list _ :: _, _, _, _, e => by cases e
  | .tuple _ :: _, _, _, _, e => by cases e
  | .dict _ :: _, _, _, _, e => by cases e
@[simp] theorem bools_map : ∀ bs : List Bool, boolsD (bs.map PyData.bool) = some bs
  | [] => rfl
  | b :: bs => by show (boolsD (bs.map PyData.bool)).map (b :: ·) = _; rw [bools_map bs]; rfl
@[simp] theorem ints_map : ∀ bs : List Int, intsD (bs.map PyData.int) = some bs
  | [] => rfl
  | b :: bs => by show (intsD (bs.map PyData.int)).map (b :: ·) = _; rw [ints_map bs]; rfl
def gAll : GC := fun μ as Q => match as with | [.dat (.list ds)] => (match boolsD ds with | some bs => Q (.dat (.bool (bs.all id))) | none => False) | _ => False
theorem c_all : CW K (rAll K) gAll := fun S B xs H μ as Q Q2 gd rs q k => by
  cases rs with
  | nil => exact q.elim
  | @cons v vs a as r rs =>
    cases rs with
    | cons _ _ => cases a <;> first | exact q.elim | (rename_i d; cases d <;> exact q.elim)
    | nil =>
      cases r with
      | dat r =>
        cases r with
        | @lst p xs ds h1 h2 =>
          unfold gAll at q
          dsimp only at q
          split at q
          · rename_i bs hb
            exact ⟨p, bs, rfl, by rw [← bools_ok h2 hb]; exact SqL.of (off_same _ _ h1), k _ H _ .refl gd (.dat (.bl _)) (fun _ _ e => nomatch e) q⟩
          · exact q.elim
        | _ => exact q.elim
      | _ => exact q.elim
def gSum : GC := fun μ as Q => match as with | [.dat (.list ds)] => (match intsD ds with | some bs => Q (.dat (.int bs.sum)) | none => False) | _ => False
theorem c_sum : CW K (rSum K) gSum := fun S B xs H μ as Q Q2 gd rs q k => by
  cases rs with
  | nil => exact q.elim
  | @cons v vs a as r rs =>
    cases rs with
    | cons _ _ => cases a <;> first | exact q.elim | (rename_i d; cases d <;> exact q.elim)
    | nil =>
      cases r with
      | dat r =>
        cases r with
        | @lst p xs ds h1 h2 =>
          unfold gSum at q
          dsimp only at q
          split at q
          · rename_i bs hb
            exact ⟨p, bs, rfl, by rw [← ints_ok h2 hb]; exact SqL.of (off_same _ _ h1), k _ H _ .refl gd (.dat (.int _)) (fun _ _ e => nomatch e) q⟩
          · exact q.elim
        | _ => exact q.elim
      | _ => exact q.elim
def gMin2 : GC := fun _ as Q => match as with | [.dat (.int i), .dat (.int j)] => Q (.dat (.int (if j < i then j else i))) | _ => False
def gMax2 : GC := fun _ as Q => match as with | [.dat (.int i), .dat (.int j)] => Q (.dat (.int (if j > i then j else i))) | _ => False
theorem two_ints {S : Hs} {μ : Mem} {G : Hp} {xs : List V} {as : List A} {i j : Int} (r : Ras K S μ G xs as) (h : as = [.dat (.int i), .dat (.int j)]) : xs = [.int i, .int j] := by
  subst h
  cases r with
  | cons r1 r =>
    cases r with
    | cons r2 r =>
      cases r
      cases r1 with | dat r1 => cases r2 with | dat r2 => cases r1; cases r2; rfl
theorem c_min2 : CW K (fun xs H Q => ∃ i j, xs = [.int i, .int j] ∧ Q (.int (if j < i then j else i)) H) gMin2 := fun S B xs H μ as Q Q2 gd rs q k => by
  unfold gMin2 at q
  split at q
  · rename_i i j
    exact ⟨i, j, two_ints rs rfl, k _ H _ .refl gd (.dat (.int _)) (fun _ _ e => nomatch e) q⟩
  · exact q.elim
theorem c_max2 : CW K (fun xs H Q => ∃ i j, xs = [.int i, .int j] ∧ Q (.int (if j > i then j else i)) H) gMax2 := fun S B xs H μ as Q Q2 gd rs q k => by
  unfold gMax2 at q
  split at q
  · rename_i i j
    exact ⟨i, j, two_ints rs rfl, k _ H _ .refl gd (.dat (.int _)) (fun _ _ e => nomatch e) q⟩
  · exact q.elim
/-! isinstance -/
def tyA : A → Option String
  | .dat .none => some "NoneType"
  | .dat (.bool _) => some "bool"
  | .dat (.int _) => some "int"
  | .dat (.str _) => some "str"
  | .dat (.list _) => some "list"
  | .dat (.tuple _) => some "tuple"
  | .own _ => some "list"
  | _ => none
def isiS (a b : String) : Option Bool :=
  if b = "int" then some (a = "int" || a = "bool") else if b = "bool" ∨ b = "str" ∨ b = "list" ∨ b = "tuple" then some (a = b) else none
theorem isiS_ok {a : A} {t b : String} {r : Bool} (h : tyA a = some t) (h2 : isiS t b = some r) : kitB t b = some r := by
  have hb : b = "int" ∨ b = "bool" ∨ b = "str" ∨ b = "list" ∨ b = "tuple" := by
    unfold isiS at h2
    split at h2
    · rename_i e; exact .inl e
    · split at h2
      · rename_i e; exact .inr e
      · cases h2
  have ht : t = "NoneType" ∨ t = "bool" ∨ t = "int" ∨ t = "str" ∨ t = "list" ∨ t = "tuple" := by
    unfold tyA at h
    split at h <;> cases h <;> simp
  rcases hb with rfl | rfl | rfl | rfl | rfl <;> rcases ht with rfl | rfl | rfl | rfl | rfl | rfl <;> (rw [← h2]; decide +kernel)
theorem tyA_ok {S : Hs} {B : Hid} {μ : Mem} {H : Hp} {x : V} {a : A} {t : String} (g : Good K S B μ H) (r : Ra K S μ (off B μ H) x a) (h : tyA a = some t) : TyX K H x (.type t) := by
  cases r with
  | dat r =>
    cases r with
    | non => cases h; exact .base .non
    | bl b => cases h; exact .base (.bl b)
    | int i => cases h; exact .base (.int i)
    | str s => cases h; exact .base (.str s)
    | lst h1 h2 => cases h; exact .base (.lst (off_same _ _ h1))
    | tup h1 h2 =>
      cases h
      rcases h1 with (h1 | ⟨o, h1⟩) | ⟨o, its, n, h1, h3, _⟩
      · exact .base (.tup (off_same _ _ h1))
      · exact .fTuple (off_same _ _ h1)
      · exact .kTuple h1 h3
  | @own p h1 =>
    cases h
    cases q : μ p with
    | none => unfold isL at h1; rw [q] at h1; cases h1
    | some xs => obtain ⟨_, vs, e1, e2⟩ := g.ls h1 q; exact .base (.lst e1)
  | drw h1 => cases h
  | ty => cases h
  | fn => cases h
  | obj => cases h
def gIsi : GC := fun _ as Q => match as with | [a, .ty n] => (match tyA a with | some t => (match isiS t n with | some b => Q (.dat (.bool b)) | none => False) | none => False) | _ => False
theorem c_isi : CW K (rIsi K) gIsi := fun S B xs H μ as Q Q2 gd rs q k => by
  cases rs with
  | nil => exact q.elim
  | @cons v vs a as r rs =>
    cases rs with
    | nil => exact q.elim
    | @cons v2 vs a2 as r2 rs =>
      cases rs with
      | cons _ _ => cases a2 <;> exact q.elim
      | nil =>
        cases r2 with
        | ty =>
          unfold gIsi at q
          dsimp only at q
          split at q
          · rename_i t ht
            split at q
            · rename_i b hb
              exact ⟨_, _, _, _, b, rfl, .ty _, tyA_ok gd r ht, kit_ty (isiS_ok ht hb), k _ H _ .refl gd (.dat (.bl _)) (fun _ _ e => nomatch e) q⟩
            · exact q.elim
          · exact q.elim
        | _ => exact q.elim
end
/-! ### the program's own functions -/
abbrev FS := List A → (PyData → Prop) → Prop
/-- a def's promise by values; fr: a list that it hands back is a new one -/
def spD (K : PySem.W.Frag) (fr : Bool) (F : FS) : Sp := fun vs H Q _ => ∃ S B as Q2, Good K S B emp H ∧ Ras K S emp (off B emp H) vs as ∧ F as Q2 ∧
  ∀ v H' d, Ex S H H' → Good K S B emp H' → Rp K (off B emp H') v d → (fr = true → ∀ p ds, v = .ref p → d = .list ds → H p = none) → Q2 d → Q v H'
def noOwn : List A → Bool
  | [] => true
  | .own _ :: _ => false
  | .obj _ :: _ => false
  | _ :: as => noOwn as
def rsvA (μ : Mem) : A → Option A
  | .own a => match μ a with | some xs => (match dats xs with | some ds => some (.dat (.list ds)) | none => none) | none => none
  | .obj _ => none
  | a => some a
def rsvs (μ : Mem) : List A → Option (List A)
  | [] => some []
  | a :: as => match rsvA μ a with | some b => (match rsvs μ as with | some bs => some (b :: bs) | none => none) | none => none
def wF (F : FS) (μ : Mem) (as : List A) (Q : A → Prop) : Prop :=
  if noOwn as = true then F as (fun d => Q (.dat d)) else match rsvs μ as with | some as' => F as' (fun d => flatD d = true ∧ Q (.dat d)) | none => False
def wCall (F : FS) (u : WA) : WE := fun ρ μ Q => u ρ μ fun as => wF F μ as Q
section
variable {K : PySem.W.Frag} {xl : XLT K} {S : Hs} {B : Hid} {μ : Mem} {H : Hp}
def hide (B : Hid) (μ : Mem) : Hid := fun a => B a || (μ a).isSome
theorem off_hide : off (hide B μ) emp H = off B μ H := by
  funext a
  simp [off, hide, emp]
theorem Good.hide (g : Good K S B μ H) : Good K S (hide B μ) emp H := by
  refine ⟨fun a sa => ?_, fun a sa => ⟨by simp [Hv.hide, (g.tb a sa).1], (g.tb a sa).2⟩, fun a ba => ?_, fun a xs q => nomatch q⟩
  · rw [off_hide]
    obtain ⟨h1, h2⟩ := g.dr a sa
    exact ⟨by simp [Hv.hide, h1], h2⟩
  · unfold Hv.hide at ba
    cases h : B a with
    | true => exact g.bd a h
    | false =>
      rw [h] at ba
      cases q : μ a with
      | none => rw [q] at ba; cases ba
      | some xs =>
        obtain ⟨_, o, vs, e, _⟩ := g.ce a xs q
        rw [e]
        exact fun z => nomatch z
theorem same_open : Same (off B μ H) (off B emp H) := fun a o h => by
  obtain ⟨h1, h2, h3⟩ := off_some h
  rw [off_of h1 rfl]
  exact h3
theorem Good.open (g : Good K S B μ H) : Good K S B emp H := by
  refine ⟨fun a sa => ?_, g.tb, g.bd, fun a xs q => nomatch q⟩
  obtain ⟨h1, c, ns, i, big, seed, h2, h3, h4⟩ := g.dr a sa
  exact ⟨h1, c, ns, i, big, seed, h2, same_open _ _ h3, h4⟩
theorem ras_noOwn {G : Hp} : ∀ {as : List A} {vs : List V}, Ras K S μ G vs as → noOwn as = true → Ras K S emp G vs as
  | [], _, h, _ => by cases h; exact .nil
  | .own _ :: _, _, _, e => by cases e
  | .dat _ :: as, _, h, e => by cases h with | cons h1 h2 => cases h1 with | dat h1 => exact .cons (.dat h1) (ras_noOwn h2 e)
  | .drw :: as, _, h, e => by cases h with | cons h1 h2 => cases h1 with | drw h1 => exact .cons (.drw h1) (ras_noOwn h2 e)
  | .ty _ :: as, _, h, e => by cases h with | cons h1 h2 => cases h1 with | ty => exact .cons .ty (ras_noOwn h2 e)
  | .fn _ :: as, _, h, e => by cases h with | cons h1 h2 => cases h1 with | fn => exact .cons .fn (ras_noOwn h2 e)
  | .obj _ :: _, _, _, e => by cases e
  | .tag _ :: _, _, h, e => by cases h with | cons h1 h2 => cases h1
theorem ra_rsv (g : Good K S B μ H) {v : V} {a b : A} (r : Ra K S μ (off B μ H) v a) (h : rsvA μ a = some b) : Ra K S emp (off B emp H) v b := by
  cases r with
  | dat r => cases h; exact .dat (r.mono same_open _ _)
  | @own p h1 =>
    unfold rsvA at h
    dsimp only at h
    cases q : μ p with
    | none => rw [q] at h; cases h
    | some xs =>
      rw [q] at h
      dsimp only at h
      obtain ⟨b1, vs, e1, e2⟩ := g.ls h1 q
      cases hd : dats xs with
      | none => rw [hd] at h; cases h
      | some ds =>
        rw [hd] at h
        cases h
        exact .dat (.lst (by rw [off_of b1 rfl]; exact e1) ((e2.rps hd).mono same_open _ _))
  | drw h1 => cases h; exact .drw h1
  | ty => cases h; exact .ty
  | fn => cases h; exact .fn
  | obj => cases h
theorem ras_rsv (g : Good K S B μ H) : ∀ {as bs : List A} {vs : List V}, Ras K S μ (off B μ H) vs as → rsvs μ as = some bs → Ras K S emp (off B emp H) vs bs
  | [], bs, _, h, e => by cases h; cases e; exact .nil
  | a :: as, bs, _, h, e => by
    cases h with
    | cons h1 h2 =>
      unfold rsvs at e
      cases q1 : rsvA μ a with
      | none => rw [q1] at e; cases e
      | some b =>
        rw [q1] at e
        dsimp only at e
        cases q2 : rsvs μ as with
        | none => rw [q2] at e; cases e
        | some cs => rw [q2] at e; cases e; exact .cons (ra_rsv g h1 q1) (ras_rsv g h2 q2)
theorem flat_any {G G2 : Hp} {v : V} {d : PyData} (r : Rp K G v d) (h : flatD d = true) : Rp K G2 v d ∧ ∀ p, v ≠ .ref p := by
  cases r with
  | non => exact ⟨.non, fun _ e => nomatch e⟩
  | bl b => exact ⟨.bl b, fun _ e => nomatch e⟩
  | int b => exact ⟨.int b, fun _ e => nomatch e⟩
  | str b => exact ⟨.str b, fun _ e => nomatch e⟩
  | _ => cases h
/-- a call by its values -/
theorem wF_ok {fr : Bool} {F : FS} {as : List A} {vs : List V} {Q : VK} {Q2 : A → Prop} {E : XK} (g : Good K S B μ H) (rs : Ras K S μ (off B μ H) vs as) (h : wF F μ as Q2)
    (k : ∀ v H' a, Ex S H H' → Good K S B μ H' → Ra K S μ (off B μ H') v a → (fr = true → ∀ p ds, v = .ref p → a = .dat (.list ds) → H p = none) → Q2 a → Q v H') : spD K fr F vs H Q E := by
  unfold wF at h
  split at h
  · rename_i no
    refine ⟨S, Hv.hide B μ, as, _, g.hide, by rw [off_hide]; exact ras_noOwn rs no, h, fun v H' d ex g2 r n q => ?_⟩
    rw [off_hide] at r
    exact k v H' _ ex (g.step ex g2) (.dat r) (fun f p ds e1 e2 => n f p ds e1 (A.dat.inj e2)) q
  · split at h
    · rename_i bs hb
      refine ⟨S, B, bs, _, g.open, ras_rsv g rs hb, h, fun v H' d ex g2 r n q => ?_⟩
      obtain ⟨r1, r2⟩ := flat_any (G2 := off B μ H') r q.1
      exact k v H' _ ex (g.step ex g2) (.dat r1) (fun f p ds e1 e2 => absurd e1 (r2 p)) q.2
    · exact h.elim
end
section
variable {X : Cx} {xl : XLT X.K} {k : Nat} {f : Addr} {fd : FuncData} {ps ks : List Str} {fr : Bool} {F : FS} {x : Str} {p pos : Pos} {e : Expr} {es : List Expr} {u uk : WA}
theorem ve_call (G : FnOk X.prog X.w X.K X.mg X.base CX0 k f fd ps (spD X.K fr F)) (hr : Room k X.A) (hg : Gl X x) (hm : X.mg x = some (.ref f)) (hk : PySem.W.keepIn X.K (.ref f) = true) (hb : Binds X.K fd ps []) (ha : VA X xl (e :: es) u)
    (hdb : (x == ("__debug__" : Str)) = false := by decide) (he : starEach (e :: es) X.env = (false, eval e X.env) :: starEach es X.env := by rfl) (hpl : (backTo pos (starEach es X.env)).any (·.1) = false := by rfl) : VE X xl (.Call (.Name x p) (e :: es) [] pos) (wCall F u) := by
  refine pe_weak (pe_call G hr hg hm hk hb .nil (E := E0) pass0 ha hdb he hpl) fun σ H Q ⟨S, B, ρ, μ, Q2, st, w, k⟩ => ⟨S, B, ρ, μ, _, st, w, fun vs H1 as e1 g1 rs q1 => ?_⟩
  show spD X.K fr F (vs ++ []) H1 Q E0
  rw [List.append_nil]
  exact wF_ok g1 rs q1 fun v H2 a e2 g2 r2 _ q2 => k v H2 a (e1.trans e2) g2 r2 q2
theorem vf_call (G : FnOk X.prog X.w X.K X.mg X.base CX0 k f fd ps (spD X.K true F)) (hr : Room k X.A) (hg : Gl X x) (hm : X.mg x = some (.ref f)) (hk : PySem.W.keepIn X.K (.ref f) = true) (hb : Binds X.K fd ps []) (ha : VA X xl (e :: es) u)
    (hdb : (x == ("__debug__" : Str)) = false := by decide) (he : starEach (e :: es) X.env = (false, eval e X.env) :: starEach es X.env := by rfl) (hpl : (backTo pos (starEach es X.env)).any (·.1) = false := by rfl) : VF X xl (.Call (.Name x p) (e :: es) [] pos) (wCall F u) := by
  refine pe_weak (pe_call G hr hg hm hk hb .nil (E := E0) pass0 ha hdb he hpl) fun σ H Q ⟨S, B, ρ, μ, Q2, st, w, k⟩ => ⟨S, B, ρ, μ, _, st, w, fun vs H1 as e1 g1 rs q1 => ?_⟩
  show spD X.K true F (vs ++ []) H1 Q E0
  rw [List.append_nil]
  exact wF_ok g1 rs q1 fun v H2 a e2 g2 r2 n q2 => k v H2 a (e1.trans e2) g2 r2 (fun p ds h1 h2 => e1.dom _ (n rfl p ds h1 h2)) q2
/-! by names -/
abbrev VK2 (X : Cx) (xl : XLT X.K) (kws : List Keyword) (w : WA) : Prop := PK X kws (LA X.K xl w)
theorem pk_weak {kws : List Keyword} {t u : TA} (hs : PK X kws t) (w : ∀ σ H Q, u σ H Q → t σ H Q) : PK X kws u := ⟨fun pos pins s σ H Q I q => hs.run pos pins s σ H Q I (w σ H Q q)⟩
theorem vk_nil : VK2 X xl [] waNil := pk_weak pk_nil fun σ H Q ⟨S, B, ρ, μ, Q2, st, w, k⟩ => k [] H [] .refl st.gd .nil w
theorem vk_cons {kws : List Keyword} {nm : Option Str} {kpos : Pos} {we : WE} (ha : VE X xl e we) (hr : VK2 X xl kws u) : VK2 X xl (⟨nm, e, kpos⟩ :: kws) (waCons we u) := by
  refine pk_weak (pk_cons ha hr) fun σ H Q ⟨S, B, ρ, μ, Q2, st, w, k⟩ => ?_
  exact ⟨S, B, ρ, μ, _, st, w, fun v H1 a e1 g1 ra q1 => ⟨S, B, ρ, μ, _, st.ex e1 g1, q1, fun vs H2 as e2 g2 rs q2 => k _ H2 _ (e1.trans e2) g2 (.cons (ra.mono (e2.off g1)) rs) q2⟩⟩
/-- the values in the parameters' order -/
def GA (gV : List V → List V → List V) (gA : List A → List A → List A) : Prop := ∀ K S μ G vs as zs bs, Ras K S μ G vs as → Ras K S μ G zs bs → Ras K S μ G (gV vs zs) (gA as bs)
def wCallK (F : FS) (gA : List A → List A → List A) (u uk : WA) : WE := fun ρ μ Q => u ρ μ fun as => uk ρ μ fun bs => wF F μ (gA as bs) Q
variable {kws : List Keyword} {g : List Value → List Value → List Value} {gV : List V → List V → List V} {gA : List A → List A → List A}
theorem vf_callK (G : FnOk X.prog X.w X.K X.mg X.base CX0 k f fd ps (spD X.K true F)) (hr : Room k X.A) (hg : Gl X x) (hm : X.mg x = some (.ref f)) (hk : PySem.W.keepIn X.K (.ref f) = true) (hb : KBinds X.K fd ps ks g gV) (hG : GA gV gA) (ha : VA X xl (e :: es) u) (hkw : VK2 X xl kws uk)
    (hall : (backToKw pos (keywordEach kws X.env)).all (·.1.isSome) = true := by rfl) (hks : (backToKw pos (keywordEach kws X.env)).filterMap (·.1) = ks := by rfl)
    (hdb : (x == ("__debug__" : Str)) = false := by decide) (he : starEach (e :: es) X.env = (false, eval e X.env) :: starEach es X.env := by rfl)
    (hpl : ((backTo pos (starEach (e :: es) X.env)).any (·.1) || (backToKw pos (keywordEach kws X.env)).any (·.1.isNone)) = false := by rfl) : VF X xl (.Call (.Name x p) (e :: es) kws pos) (wCallK F gA u uk) := by
  refine pe_weak (pe_callK G hr hg hm hk hb (E := E0) pass0 ha hkw hall hks hdb he hpl) fun σ H Q ⟨S, B, ρ, μ, Q2, st, w, k⟩ => ⟨S, B, ρ, μ, _, st, w, fun vs H1 as e1 g1 rs q1 => ⟨S, B, ρ, μ, _, st.ex e1 g1, q1, fun zs H2 bs e2 g2 rz q2 => ?_⟩⟩
  exact wF_ok g2 (hG _ _ _ _ _ _ _ _ (rs.mono (e2.off g1)) rz) q2 fun v H3 a e3 g3 r3 n q3 => k v H3 a (e1.trans (e2.trans e3)) g3 r3 (fun p ds h1 h2 => e1.dom _ (e2.dom _ (n rfl p ds h1 h2))) q3
theorem ve_callK (G : FnOk X.prog X.w X.K X.mg X.base CX0 k f fd ps (spD X.K fr F)) (hr : Room k X.A) (hg : Gl X x) (hm : X.mg x = some (.ref f)) (hk : PySem.W.keepIn X.K (.ref f) = true) (hb : KBinds X.K fd ps ks g gV) (hG : GA gV gA) (ha : VA X xl (e :: es) u) (hkw : VK2 X xl kws uk)
    (hall : (backToKw pos (keywordEach kws X.env)).all (·.1.isSome) = true := by rfl) (hks : (backToKw pos (keywordEach kws X.env)).filterMap (·.1) = ks := by rfl)
    (hdb : (x == ("__debug__" : Str)) = false := by decide) (he : starEach (e :: es) X.env = (false, eval e X.env) :: starEach es X.env := by rfl)
    (hpl : ((backTo pos (starEach (e :: es) X.env)).any (·.1) || (backToKw pos (keywordEach kws X.env)).any (·.1.isNone)) = false := by rfl) : VE X xl (.Call (.Name x p) (e :: es) kws pos) (wCallK F gA u uk) := by
  refine pe_weak (pe_callK G hr hg hm hk hb (E := E0) pass0 ha hkw hall hks hdb he hpl) fun σ H Q ⟨S, B, ρ, μ, Q2, st, w, k⟩ => ⟨S, B, ρ, μ, _, st, w, fun vs H1 as e1 g1 rs q1 => ⟨S, B, ρ, μ, _, st.ex e1 g1, q1, fun zs H2 bs e2 g2 rz q2 => ?_⟩⟩
  exact wF_ok g2 (hG _ _ _ _ _ _ _ _ (rs.mono (e2.off g1)) rz) q2 fun v H3 a e3 g3 r3 n q3 => k v H3 a (e1.trans (e2.trans e3)) g3 r3 q3
theorem ve_callK0 (G : FnOk X.prog X.w X.K X.mg X.base CX0 k f fd ps (spD X.K fr F)) (hr : Room k X.A) (hg : Gl X x) (hm : X.mg x = some (.ref f)) (hk : PySem.W.keepIn X.K (.ref f) = true) (hb : KBinds X.K fd ps ks g gV) (hG : GA gV gA) (hkw : VK2 X xl kws uk)
    (hall : (backToKw pos (keywordEach kws X.env)).all (·.1.isSome) = true := by rfl) (hks : (backToKw pos (keywordEach kws X.env)).filterMap (·.1) = ks := by rfl) (hdb : (x == ("__debug__" : Str)) = false := by decide)
    (hpl : ((backTo pos (starEach [] X.env)).any (·.1) || (backToKw pos (keywordEach kws X.env)).any (·.1.isNone)) = false := by rfl) : VE X xl (.Call (.Name x p) [] kws pos) (wCallK F gA waNil uk) := by
  refine pe_weak (pe_callK0 G hr hg hm hk hb (E := E0) pass0 hkw hall hks hdb hpl) fun σ H Q ⟨S, B, ρ, μ, Q2, st, w, k⟩ => ⟨S, B, ρ, μ, _, st, w, fun zs H2 bs e2 g2 rz q2 => ?_⟩
  exact wF_ok g2 (hG _ _ _ _ _ _ _ _ .nil rz) q2 fun v H3 a e3 g3 r3 n q3 => k v H3 a (e2.trans e3) g3 r3 q3
theorem vf_callK0 (G : FnOk X.prog X.w X.K X.mg X.base CX0 k f fd ps (spD X.K true F)) (hr : Room k X.A) (hg : Gl X x) (hm : X.mg x = some (.ref f)) (hk : PySem.W.keepIn X.K (.ref f) = true) (hb : KBinds X.K fd ps ks g gV) (hG : GA gV gA) (hkw : VK2 X xl kws uk)
    (hall : (backToKw pos (keywordEach kws X.env)).all (·.1.isSome) = true := by rfl) (hks : (backToKw pos (keywordEach kws X.env)).filterMap (·.1) = ks := by rfl) (hdb : (x == ("__debug__" : Str)) = false := by decide)
    (hpl : ((backTo pos (starEach [] X.env)).any (·.1) || (backToKw pos (keywordEach kws X.env)).any (·.1.isNone)) = false := by rfl) : VF X xl (.Call (.Name x p) [] kws pos) (wCallK F gA waNil uk) := by
  refine pe_weak (pe_callK0 G hr hg hm hk hb (E := E0) pass0 hkw hall hks hdb hpl) fun σ H Q ⟨S, B, ρ, μ, Q2, st, w, k⟩ => ⟨S, B, ρ, μ, _, st, w, fun zs H2 bs e2 g2 rz q2 => ?_⟩
  exact wF_ok g2 (hG _ _ _ _ _ _ _ _ .nil rz) q2 fun v H3 a e3 g3 r3 n q3 => k v H3 a (e2.trans e3) g3 r3 (fun p ds h1 h2 => e2.dom _ (n rfl p ds h1 h2)) q3
end
end Hv

set_option Elab.async false
set_option linter.all false
set_option maxRecDepth 100000
namespace Hv
open PySem PySem.Spec PyProof.Rows L2 Hod
/-! ### targets -/
inductive Pat where
  | nm (i : Nat)
  | tp (ps : List Pat)
mutual
def gOf (K : PySem.W.Frag) : Pat → TG
  | .nm i => gName i
  | .tp ps => gTup K ps.length (gsOf K ps)
def gsOf (K : PySem.W.Frag) : List Pat → TGs
  | [] => gNil
  | p :: ps => gCons (gOf K p) (gsOf K ps)
end
mutual
def bindP : Pat → PyData → Rho → Option Rho
  | .nm i, d, ρ => some (ρ.set i (some (.dat d)))
  | .tp ps, .tuple ds, ρ => bindPs ps ds ρ
  | .tp _, _, _ => none
def bindPs : List Pat → List PyData → Rho → Option Rho
  | [], [], ρ => some ρ
  | p :: ps, d :: ds, ρ => match bindP p d ρ with | some ρ' => bindPs ps ds ρ' | none => none
  | _, _, _ => none
end
mutual
def Pat.sub (vs : List Nat) : Pat → Bool
  | .nm i => vs.contains i
  | .tp ps => Pat.subs vs ps
def Pat.subs (vs : List Nat) : List Pat → Bool
  | [] => true
  | p :: ps => p.sub vs && Pat.subs vs ps
end
theorem wipe_set (σ : L2.St) (i : Nat) (x : Option V) : ∀ vs : List Nat, (wipe (σ.set i x) vs).set i none = (wipe σ vs).set i none
  | [] => by show (σ.set i x).set i none = σ.set i none; rw [List.set_set]
  | v :: vs => by
    show ((wipe (σ.set i x) vs).set v none).set i none = ((wipe σ vs).set v none).set i none
    by_cases h : v = i
    · subst h
      rw [List.set_set, List.set_set]
      exact wipe_set σ v x vs
    · rw [List.set_comm _ _ h, List.set_comm _ _ h, wipe_set σ i x vs]
theorem wipe_in {σ : L2.St} {i : Nat} {x : Option V} : ∀ {vs : List Nat}, i ∈ vs → wipe (σ.set i x) vs = wipe σ vs
  | v :: vs, h => by
    show (wipe (σ.set i x) vs).set v none = (wipe σ vs).set v none
    by_cases e : v = i
    · subst e; exact wipe_set σ v x vs
    · have : i ∈ vs := by
        rcases List.mem_cons.mp h with q | q
        · exact absurd q.symm e
        · exact q
      rw [wipe_in this]
theorem wipe_wipe (σ : L2.St) (vs : List Nat) : wipe (wipe σ vs) vs = wipe σ vs := by
  have gen : ∀ us : List Nat, (∀ u ∈ us, u ∈ vs) → wipe (wipe σ us) vs = wipe σ vs := by
    intro us
    induction us with
    | nil => intro _; rfl
    | cons u us ih =>
      intro h
      show wipe ((wipe σ us).set u none) vs = _
      rw [wipe_in (h u (by simp))]
      exact ih fun x hx => h x (by simp [hx])
  exact gen vs fun _ h => h
section
variable {K : PySem.W.Frag} {xl : XLT K} {S : Hs} {μ : Mem} {G : Hp} {H : Hp}
mutual
theorem gOf_ok (sm : Same G H) : ∀ (p : Pat) (d : PyData) (ρ ρ' : Rho) (v : V) (σ : L2.St) (Q : L2.St → Hp → Prop), bindP p d ρ = some ρ' → Rp K G v d → Sls K S μ G σ ρ →
    (∀ σ', Sls K S μ G σ' ρ' → (∀ vs, p.sub vs = true → wipe σ' vs = wipe σ vs) → Q σ' H) → gOf K p v σ H Q
  | .nm i, d, ρ, ρ', v, σ, Q, e, r, sl, k => by
    have e : some (ρ.set i (some (.dat d))) = some ρ' := e
    cases e
    exact k _ (sl.set i (.dat r)) fun vs h => wipe_in (by simpa [Pat.sub] using h)
  | .tp ps, d, ρ, ρ', v, σ, Q, e, r, sl, k => by
    cases r with
    | @tup a xs ds h1 h2 =>
      have e : bindPs ps ds ρ = some ρ' := e
      have hl : ds.length = ps.length := bindPs_len e
      exact ⟨a, xs, rfl, sqt_same sm h1, by rw [h2.len, hl], gsOf_ok sm ps ds ρ ρ' xs σ Q e h2 sl fun σ' s' w' => k σ' s' fun vs h => w' vs (by simpa [Pat.sub] using h)⟩
    | _ => cases e
theorem gsOf_ok (sm : Same G H) : ∀ (ps : List Pat) (ds : List PyData) (ρ ρ' : Rho) (xs : List V) (σ : L2.St) (Q : L2.St → Hp → Prop), bindPs ps ds ρ = some ρ' → Rps K G xs ds → Sls K S μ G σ ρ →
    (∀ σ', Sls K S μ G σ' ρ' → (∀ vs, Pat.subs vs ps = true → wipe σ' vs = wipe σ vs) → Q σ' H) → gsOf K ps xs σ H Q
  | [], ds, ρ, ρ', xs, σ, Q, e, r, sl, k => by
    cases r with
    | nil => have e : some ρ = some ρ' := e; cases e; exact ⟨rfl, k σ sl fun _ _ => rfl⟩
    | cons _ _ => cases e
  | p :: ps, ds, ρ, ρ', xs, σ, Q, e, r, sl, k => by
    cases r with
    | nil => cases e
    | @cons v vs d ds r1 r2 =>
      have e : (match bindP p d ρ with | some ρ' => bindPs ps ds ρ' | none => none) = some ρ' := e
      cases q : bindP p d ρ with
      | none => rw [q] at e; cases e
      | some ρ1 =>
        rw [q] at e
        refine ⟨v, vs, rfl, gOf_ok sm p d ρ ρ1 v σ _ q r1 sl fun σ1 s1 w1 => ?_⟩
        refine gsOf_ok sm ps ds ρ1 ρ' vs σ1 Q e r2 s1 fun σ2 s2 w2 => k σ2 s2 fun us h => ?_
        have h : (p.sub us && Pat.subs us ps) = true := h
        rw [Bool.and_eq_true] at h
        rw [w2 us h.2, w1 us h.1]
theorem bindPs_len : ∀ {ps : List Pat} {ds : List PyData} {ρ ρ' : Rho}, bindPs ps ds ρ = some ρ' → ds.length = ps.length
  | [], [], _, _, _ => rfl
  | [], _ :: _, _, _, e => by cases e
  | _ :: _, [], _, _, e => by cases e
  | p :: ps, d :: ds, ρ, ρ', e => by
    have e : (match bindP p d ρ with | some ρ' => bindPs ps ds ρ' | none => none) = some ρ' := e
    cases q : bindP p d ρ with
    | none => rw [q] at e; cases e
    | some ρ1 => rw [q] at e; simp [bindPs_len e]
end
end
/-! ### what is walked -/
def Wk (K : PySem.W.Frag) (S : Hs) (B : Hid) (μ : Mem) (J : It) (H0 : Hp) (ds : List PyData) : Prop := ∃ G Y, Walk J ds.length G Y ∧ (∀ H, Same (off B μ H0) H → G H) ∧
  ∀ i H x H2 B' μ', i < ds.length → Same (off B μ H0) (off B' μ' H) → Good K S B' μ' H → Y i H x H2 → Ex S H H2 ∧ Good K S B' μ' H2 ∧ ∃ d, ds[i]? = some d ∧ Rp K (off B' μ' H2) x d
def LI (K : PySem.W.Frag) (xl : XLT K) (w : WI) : TI := fun σ H R => ∃ S B ρ μ Q2, Sta K xl S B σ H ρ μ ∧ w ρ μ Q2 ∧ ∀ J H' ds, Ex S H H' → Good K S B μ H' → Wk K S B μ J H' ds → Q2 ds → R J H'
abbrev VI (X : Cx) (xl : XLT X.K) (tg iter : Expr) (w : WI) : Prop := PI X tg iter (LI X.K xl w)
def wiT (w : WE) : WI := fun ρ μ Q => w ρ μ fun a => match a with | .dat (.tuple ds) => Q ds | _ => False
def wiL (w : WE) : WI := fun ρ μ Q => w ρ μ fun a => match a with | .dat (.list ds) => Q ds | _ => False
def rng (lo : Int) (n : Nat) : List PyData := (List.range n).map fun i => .int (lo + (i : Nat))
def wiR1 (u : WA) : WI := fun ρ μ Q => u ρ μ fun as => match as with | [.dat (.int n)] => (-(2 ^ 62) ≤ n ∧ n < 2 ^ 62) ∧ Q (rng 0 n.toNat) | _ => False
def wiR2 (u : WA) : WI := fun ρ μ Q => u ρ μ fun as => match as with | [.dat (.int i), .dat (.int j)] => (-(2 ^ 62) ≤ i ∧ i < 2 ^ 62 ∧ -(2 ^ 62) ≤ j ∧ j < 2 ^ 62) ∧ Q (rng i (j - i).toNat) | _ => False
def enumD (ds : List PyData) : List PyData := (List.range ds.length).zipWith (fun i d => .tuple [.int (i : Nat), d]) ds
def zipD (ds es : List PyData) : List PyData := ds.zipWith (fun d e => .tuple [d, e]) es
def wiE (u : WA) : WI := fun ρ μ Q => u ρ μ fun as => match as with | [.dat (.list ds)] => Q (enumD ds) | _ => False
def wiET (u : WA) : WI := fun ρ μ Q => u ρ μ fun as => match as with | [.dat (.tuple ds)] => Q (enumD ds) | _ => False
section
variable {K : PySem.W.Frag} {xl : XLT K} {S : Hs} {B : Hid} {μ : Mem} {H : Hp} {J : It}
theorem wk_at {xs : List V} {ds : List PyData} {G : Hp → Prop} (w : Walk J xs.length G (YAt xs)) (hG : ∀ H2, Same (off B μ H) H2 → G H2) (r : Rps K (off B μ H) xs ds) : Wk K S B μ J H ds := by
  refine ⟨G, YAt xs, by rw [← r.len]; exact w, hG, fun i H1 x H2 B' μ' hi sm g y => ?_⟩
  obtain ⟨rfl, e⟩ := y
  obtain ⟨d, h1, h2⟩ := r.getV e
  exact ⟨.refl, g, d, h1, h2.mono sm _ _⟩
theorem wk_rng {lo : Int} {n : Nat} : Wk K S B μ (Itr lo n) H (rng lo n) := by
  have e : (rng lo n).length = n := by simp [rng]
  refine ⟨fun _ => True, YFn fun i => .int (lo + (i : Nat)), by rw [e]; exact walk_range, fun _ _ => trivial, fun i H1 x H2 B' μ' hi sm g y => ?_⟩
  obtain ⟨rfl, rfl⟩ := y
  have hi : i < n := by simpa [rng] using hi
  exact ⟨.refl, g, .int (lo + (i : Nat)), by simp [rng, hi], .int _⟩
theorem wk_pair {n : Nat} {G : Hp → Prop} {fx fy : Nat → Option V} {ds : List PyData} (hn : ds.length = n) (w : Walk J n G (YPair fx fy)) (hG : ∀ H2, Same (off B μ H) H2 → G H2)
    (h : ∀ i x y, i < n → fx i = some x → fy i = some y → ∃ d e, ds[i]? = some (.tuple [d, e]) ∧ Rp K (off B μ H) x d ∧ Rp K (off B μ H) y e) : Wk K S B μ J H ds := by
  refine ⟨G, YPair fx fy, by rw [hn]; exact w, hG, fun i H1 x H2 B' μ' hi sm g y => ?_⟩
  obtain ⟨T, x1, y1, rfl, nT, rfl, h1, h2⟩ := y
  obtain ⟨d, e, q, r1, r2⟩ := h i x1 y1 (by omega) h1 h2
  obtain ⟨b1, b2⟩ := g.free nT
  have so := (Ex.new (S := S) (o := .tup [x1, y1]) nT).off g
  exact ⟨.new nT, g.new nT, _, q, .tup (.inl (.inl (off_upd b1 b2))) (.cons ((r1.mono sm _ _).mono so _ _) (.cons ((r2.mono sm _ _).mono so _ _) .nil))⟩
theorem enumD_at {ds : List PyData} {i : Nat} {d : PyData} (h : ds[i]? = some d) : (enumD ds)[i]? = some (.tuple [.int (i : Nat), d]) := by
  have hi : i < ds.length := by
    rcases Nat.lt_or_ge i ds.length with q | q
    · exact q
    · rw [List.getElem?_eq_none q] at h; cases h
  unfold enumD
  rw [List.getElem?_zipWith, h, List.getElem?_range hi]
theorem zipD_at {ds es : List PyData} {i : Nat} {d e : PyData} (h : ds[i]? = some d) (h2 : es[i]? = some e) : (zipD ds es)[i]? = some (.tuple [d, e]) := by
  unfold zipD
  rw [List.getElem?_zipWith, h, h2]
end
section
variable {X : Cx} {xl : XLT X.K} {tg e e2 : Expr} {we : WE} {u : WA} {p pos tpos : Pos} {elts : List Expr} {kk : Nat}
theorem pi_weak {iter : Expr} {t u : TI} (hs : PI X tg iter t) (w : ∀ σ H Q, u σ H Q → t σ H Q) : PI X tg iter u := ⟨fun pins s σ H R I q => hs.run pins s σ H R I (w σ H R q)⟩
theorem vi_tup (h : VE X xl e we) : VI X xl tg e (wiT we) := by
  refine pi_weak (pi_tup h) fun σ H R ⟨S, B, ρ, μ, Q2, st, w, k⟩ => ⟨S, B, ρ, μ, _, st, w, fun v H1 a e1 g1 ra q1 => ?_⟩
  cases ra with
  | dat r =>
    cases r with
    | @tup a xs ds h1 h2 => exact ⟨a, rfl, ⟨xs, sqt_same off_same h1⟩, k _ H1 ds e1 g1 (wk_at walk_tup (fun H2 sm => sqt_same sm h1) h2) q1⟩
    | _ => exact q1.elim
  | _ => exact q1.elim
theorem vi_list (h : VE X xl e we) : VI X xl tg e (wiL we) := by
  refine pi_weak (pi_list h) fun σ H R ⟨S, B, ρ, μ, Q2, st, w, k⟩ => ⟨S, B, ρ, μ, _, st, w, fun v H1 a e1 g1 ra q1 => ?_⟩
  cases ra with
  | dat r =>
    cases r with
    | @lst a xs ds h1 h2 => exact ⟨a, rfl, ⟨xs, SqL.of (off_same _ _ h1)⟩, k _ H1 ds e1 g1 (wk_at walk_list (fun H2 sm => SqL.of (sm _ _ h1)) h2) q1⟩
    | _ => exact q1.elim
  | _ => exact q1.elim
theorem vi_range1 (hg : Gl X "range") (hm : X.mg "range" = none) (ha : VA X xl [e] u) (hs : starEach [e] X.env = [(false, eval e X.env)] := by rfl) : VI X xl tg (.Call (.Name "range" p) [e] [] pos) (wiR1 u) := by
  refine pi_weak (pi_range1 hg hm ha hs) fun σ H R ⟨S, B, ρ, μ, Q2, st, w, k⟩ => ⟨S, B, ρ, μ, _, st, w, fun vs H1 as e1 g1 rs q1 => ?_⟩
  split at q1
  · rename_i n
    cases rs with
    | cons r rs =>
      cases rs
      cases r with | dat r => cases r; exact ⟨n, rfl, q1.1.1, q1.1.2, k _ H1 _ e1 g1 wk_rng q1.2⟩
  · exact q1.elim
theorem vi_range2 (hg : Gl X "range") (hm : X.mg "range" = none) (ha : VA X xl [e, e2] u) (hs : starEach [e, e2] X.env = [(false, eval e X.env), (false, eval e2 X.env)] := by rfl) (hs2 : starEach [e2] X.env = [(false, eval e2 X.env)] := by rfl) :
    VI X xl tg (.Call (.Name "range" p) [e, e2] [] pos) (wiR2 u) := by
  refine pi_weak (pi_range2 hg hm ha hs hs2) fun σ H R ⟨S, B, ρ, μ, Q2, st, w, k⟩ => ⟨S, B, ρ, μ, _, st, w, fun vs H1 as e1 g1 rs q1 => ?_⟩
  split at q1
  · rename_i i j
    exact ⟨i, j, two_ints rs rfl, q1.1, k _ H1 _ e1 g1 wk_rng q1.2⟩
  · exact q1.elim
theorem vi_enum (hg : Gl X "enumerate") (hm : X.mg "enumerate" = none) (ha : VA X xl [e] u) (hs : starEach [e] X.env = [(false, eval e X.env)] := by rfl) : VI X xl (.Tuple elts kk tpos) (.Call (.Name "enumerate" p) [e] [] pos) (wiE u) := by
  refine pi_weak (pi_enum hg hm ha hs) fun σ H R ⟨S, B, ρ, μ, Q2, st, w, k⟩ => ⟨S, B, ρ, μ, _, st, w, fun vs H1 as e1 g1 rs q1 => ?_⟩
  split at q1
  · rename_i ds
    cases rs with
    | cons r rs =>
      cases rs
      cases r with
      | dat r =>
        cases r with
        | @lst a xs ds h1 h2 =>
          refine ⟨a, xs, rfl, SqL.of (off_same _ _ h1), k _ H1 _ e1 g1 (wk_pair (by simp [enumD, h2.len]) walk_enum (fun H2 sm => SqL.of (sm _ _ h1)) fun i x y hi f1 f2 => ?_) q1⟩
          obtain ⟨d, q1, q2⟩ := h2.getV f2
          cases f1
          exact ⟨_, _, enumD_at q1, .int _, q2⟩
  · exact q1.elim
theorem vi_enumT (hg : Gl X "enumerate") (hm : X.mg "enumerate" = none) (ha : VA X xl [e] u) (hs : starEach [e] X.env = [(false, eval e X.env)] := by rfl) : VI X xl (.Tuple elts kk tpos) (.Call (.Name "enumerate" p) [e] [] pos) (wiET u) := by
  refine pi_weak (pi_enumT hg hm ha hs) fun σ H R ⟨S, B, ρ, μ, Q2, st, w, k⟩ => ⟨S, B, ρ, μ, _, st, w, fun vs H1 as e1 g1 rs q1 => ?_⟩
  split at q1
  · rename_i ds
    cases rs with
    | cons r rs =>
      cases rs
      cases r with
      | dat r =>
        cases r with
        | @tup a xs ds h1 h2 =>
          refine ⟨a, xs, rfl, sqt_same off_same h1, k _ H1 _ e1 g1 (wk_pair (by simp [enumD, h2.len]) walk_enumT (fun H2 sm => sqt_same sm h1) fun i x y hi f1 f2 => ?_) q1⟩
          obtain ⟨d, q1, q2⟩ := h2.getV f2
          cases f1
          exact ⟨_, _, enumD_at q1, .int _, q2⟩
  · exact q1.elim
end
/-! ### comprehensions -/
def lcW (f : PyData → (Option PyData → Prop) → Prop) : List PyData → (List PyData → Prop) → Prop
  | [], Q => Q []
  | d :: ds, Q => f d fun o => lcW f ds fun es => Q (o.toList ++ es)
def wYes : WT := fun _ _ Q => Q true
def lcF (p : Pat) (wt : WT) (we : WE) (ρ : Rho) (μ : Mem) : PyData → (Option PyData → Prop) → Prop := fun d Q => match bindP p d ρ with
  | some ρ' => wt ρ' μ fun b => if b = true then we ρ' μ (fun a => match a with | .dat e => Q (some e) | _ => False) else Q none
  | none => False
def wLc (wi : WI) (p : Pat) (wt : WT) (we : WE) (vs : List Nat) : WE := fun ρ μ Q => wi ρ μ fun ds => ds.length ≤ 1000000 ∧ lcW (lcF p wt we (wipeA ρ vs) μ) ds fun es => Q (.dat (.list es))
theorem million {n : Nat} (h : n < 1000000) : n < sizeLine := Nat.lt_of_lt_of_le h (by decide)
section
variable {K : PySem.W.Frag} {xl : XLT K} {S : Hs} {B : Hid} {μ : Mem} {H : Hp}
def plus (B : Hid) (D : Addr) : Hid := fun a => B a || decide (a = D)
theorem plus_off {D : Addr} {o : HO} : off (plus B D) μ (upd H D o) = off (plus B D) μ H := by
  funext a
  unfold off plus
  by_cases h : a = D
  · simp [h]
  · rw [upd_ne h]
theorem plus_sub {D : Addr} : Same (off (plus B D) μ H) (off B μ H) := fun a o h => by
  obtain ⟨h1, h2, h3⟩ := off_some h
  have h1 : (B a || decide (a = D)) = false := h1
  rw [Bool.or_eq_false_iff] at h1
  rw [off_of h1.1 h2]
  exact h3
theorem tabs_upd {a D : Addr} {o : HO} {q : Str} {xs : List V} (t : LamX.TabS H a q) (hD : H D = some (.lst xs)) : LamX.TabS (upd H D o) a q := by
  obtain ⟨ps, h1, h2, h3⟩ := t
  refine ⟨ps, ?_, h2, fun pos cv hc => ?_⟩
  · rw [upd_ne (ne_of h1 hD (fun z => nomatch z))]; exact h1
  · obtain ⟨c, e1, e2⟩ := h3 pos cv hc
    refine ⟨c, e1, ?_⟩
    rw [upd_ne (ne_of e2 hD (fun z => by unfold LamX.CodeO at z; cases z))]; exact e2
theorem Good.upd_hid {D : Addr} {o : HO} {xs : List V} (g : Good K S (plus B D) μ H) (sD : S D = false) (hD : H D = some (.lst xs)) : Good K S (plus B D) μ (upd H D o) := by
  refine ⟨fun a sa => ?_, fun a sa => ⟨(g.tb a sa).1, tabs_upd (g.tb a sa).2 hD⟩, fun a ba => ?_, fun a xs q => ?_⟩
  · obtain ⟨h1, c, ns, i, big, seed, h2, h3⟩ := g.dr a sa
    have ne : a ≠ D := fun e => by rw [e, Hs.of_d sD] at sa; cases sa
    exact ⟨h1, c, ns, i, big, seed, by rw [upd_ne ne]; exact h2, by rw [plus_off]; exact h3⟩
  · by_cases e : a = D
    · rw [e, upd_same]; exact fun z => nomatch z
    · rw [upd_ne e]; exact g.bd a ba
  · obtain ⟨h1, o, vs, h2, hh, h3⟩ := g.ce a xs q
    have ne : a ≠ D := fun e => by
      have h1 : (B a || decide (a = D)) = false := h1
      rw [Bool.or_eq_false_iff] at h1
      exact absurd e (of_decide_eq_false h1.2)
    exact ⟨h1, o, vs, by rw [upd_ne ne]; exact h2, hh, by rw [plus_off]; exact h3⟩
theorem Good.plus_new {D : Addr} {o : HO} (g : Good K S B μ H) (nD : H D = none) : Good K S (plus B D) μ (upd H D o) := by
  obtain ⟨b1, b2⟩ := g.free nD
  have so : Same (off B μ H) (off (plus B D) μ (upd H D o)) := fun a u h => by
    obtain ⟨h1, h2, h3⟩ := off_some h
    have ne : a ≠ D := ne_of_none h3 nD
    rw [off_of (by simp [plus, h1, ne]) h2, upd_ne ne]
    exact h3
  refine ⟨fun a sa => ?_, fun a sa => ⟨by simp [plus, (g.tb a sa).1], (g.tb a sa).2.ext fun b x y => by rw [upd_ne (ne_of_none y nD)]; exact y⟩, fun a ba => ?_, fun a xs q => ?_⟩
  · obtain ⟨h1, c, ns, i, big, seed, h2, h3, h4⟩ := g.dr a sa
    exact ⟨by simp [plus, h1], c, ns, i, big, seed, by rw [upd_ne (ne_of_none h2 nD)]; exact h2, so _ _ h3, h4⟩
  · by_cases e : a = D
    · rw [e, upd_same]; exact fun z => nomatch z
    · rw [upd_ne e]
      have ba : (B a || decide (a = D)) = true := ba
      rw [decide_eq_false e, Bool.or_false] at ba
      exact g.bd a ba
  · obtain ⟨h1, o, vs, h2, hh, h3⟩ := g.ce a xs q
    have ne : a ≠ D := ne_of_none h2 nD
    exact ⟨by simp [plus, h1, ne], o, vs, by rw [upd_ne ne]; exact h2, hh, h3.mono so⟩
theorem lf_lc {wi : WI} {p : Pat} {wt : WT} {we : WE} {vs : List Nat} (hv : p.sub vs = true) (σ : L2.St) (H : Hp) (Q : VK) (h : LF K xl (wLc wi p wt we vs) σ H Q) : tLc (LI K xl wi) (gOf K p) (LT K xl0 wt) (LE K xl0 we) vs σ H Q := by
  obtain ⟨S, B, ρ, μ, Q2, st, w, k⟩ := h
  refine ⟨S, B, ρ, μ, _, st, w, fun J H1 ds e1 g1 ⟨G, Y, wk, hG, hY⟩ ⟨hz, q1⟩ D nD => ?_⟩
  obtain ⟨bD, mD⟩ := g1.free nD
  have sD : S D = false := g1.sb bD
  have so : ∀ {H2 : Hp}, Ex S H1 H2 → Same (off B μ H1) (off (plus B D) μ H2) := fun {H2} ex a o h => by
    obtain ⟨h1, h2, h3⟩ := off_some h
    have ne : a ≠ D := ne_of_none h3 nD
    rw [off_of (by simp [plus, h1, ne]) h2]
    exact ex.keep a o (g1.sb h1) h3
  have sl0 := (st.ex e1 g1).sl.wipe vs
  refine lc_it (n := ds.length) wk (fun i H2 => Ex S H1 H2 ∧ Good K S (plus B D) μ H2 ∧ ∃ acc accD, H2 D = some (.lst acc) ∧ Rps K (off (plus B D) μ H2) acc accD ∧ accD.length ≤ i ∧ lcW (lcF p wt we (wipeA ρ vs) μ) (ds.drop i) fun es => Q2 (.dat (.list (accD ++ es)))) ?_ ?_ ?_ ?_
  · exact ⟨.new nD, g1.plus_new nD, [], [], upd_same, .nil, Nat.le_refl _, q1⟩
  · exact fun i H2 hi ⟨ex, g2, _⟩ => hG H2 fun a o h => off_same _ _ (so ex a o h)
  · rintro i x H2 H3 hi ⟨ex, g2, acc, accD, hD, hacc, hlen, q⟩ y
    obtain ⟨ex3, g3, d, hd, rd⟩ := hY i H2 x H3 (plus B D) μ hi (so ex) g2 y
    have hdr : ds.drop i = d :: ds.drop (i + 1) := by
      have q := (List.getElem?_eq_some_iff.mp hd)
      obtain ⟨h1, h2⟩ := q
      rw [List.drop_eq_getElem_cons h1, h2]
    rw [hdr] at q
    have q : lcF p wt we (wipeA ρ vs) μ d fun o => lcW (lcF p wt we (wipeA ρ vs) μ) (ds.drop (i + 1)) fun es => Q2 (.dat (.list (accD ++ (o.toList ++ es)))) := q
    unfold lcF at q
    split at q
    · rename_i ρ' hb
      have exT := ex.trans ex3
      refine gOf_ok (S := S) (μ := μ) (G := off (plus B D) μ H3) off_same p d (wipeA ρ vs) ρ' x (wipe σ vs) _ hb rd (sl0.mono (so exT)) fun σ2 s2 w2 => ⟨by rw [w2 vs hv, wipe_wipe], ?_⟩
      refine ⟨S, plus B D, ρ', μ, _, ⟨g3, s2, trivial⟩, q, fun b H4 e4 g4 q4 => ?_⟩
      have hD4 : H4 D = some (.lst acc) := e4.keep _ _ sD (ex3.keep _ _ sD hD)
      have hacc4 := (hacc.mono (ex3.off g2) _ _).mono (e4.off g3) _ _
      cases b with
      | false =>
        refine ⟨exT.trans e4, g4, acc, accD, hD4, hacc4, by omega, ?_⟩
        exact q4
      | true =>
        refine ⟨S, plus B D, ρ', μ, _, ⟨g4, s2.mono (e4.off g3), trivial⟩, q4, fun v5 H5 a5 e5 g5 r5 q5 => ?_⟩
        cases r5 with
        | @dat _ d5 r5 =>
          have hacc5 := hacc4.mono (e5.off g4) _ _
          refine ⟨acc, e5.keep _ _ sD hD4, million (by rw [hacc.len]; omega), ?_, g5.upd_hid sD (e5.keep _ _ sD hD4), acc ++ [v5], accD ++ [d5], upd_same, ?_, by simp; omega, ?_⟩
          · have ex5 := (exT.trans e4).trans e5
            exact ⟨fun a o s h => by rw [upd_ne (ne_of_none h nD)]; exact ex5.keep a o s h, fun a h => by
                by_cases z : a = D
                · rw [z]; exact nD
                · rw [upd_ne z] at h; exact ex5.dom a h, fun a c r s h => by
                rw [upd_ne (ne_of_none h nD)]; exact ex5.dr a c r s h⟩
          · rw [plus_off]
            exact hacc5.app (.cons r5 .nil)
          · have e : ∀ es, accD ++ [d5] ++ es = accD ++ ((some d5).toList ++ es) := fun es => by simp
            simp only [e]
            exact q5
        | _ => exact q5.elim
    · exact q.elim
  · rintro H2 ⟨ex, g2, acc, accD, hD, hacc, hlen, q⟩
    rw [List.drop_length] at q
    have q : Q2 (.dat (.list (accD ++ []))) := q
    rw [List.append_nil] at q
    exact k _ _ _ (e1.trans ex) (g1.step ex g2) (.dat (.lst (by rw [off_of bD mD]; exact hD) (hacc.mono plus_sub _ _))) (fun z _ e _ => by cases e; exact e1.dom _ nD) q
end
section
variable {X : Cx} {xl : XLT X.K}
abbrev VTs (X : Cx) (xl : XLT X.K) (ifs : List Expr) (w : WT) : Prop := PTs X ifs (LT X.K xl w)
theorem pts_weak {ifs : List Expr} {t u : TT} (hs : PTs X ifs t) (w : ∀ σ H Q, u σ H Q → t σ H Q) : PTs X ifs u := ⟨fun pins s σ H R I q => hs.run pins s σ H R I (w σ H R q)⟩
theorem vts_nil : VTs X xl [] wYes := pts_weak pts_nil fun σ H Q ⟨S, B, ρ, μ, Q2, st, w, k⟩ => k true H .refl st.gd w
theorem vts_one {c : Expr} {w : WT} (h : VT X xl c w) : VTs X xl [c] w := pts_one h
theorem vf_lc {elt tg iter : Expr} {ifs : List Expr} {scope : Scope} {own : List (Str × Nat)} {pos : Pos} {wi : WI} {wt : WT} {we : WE} (p : Pat) (hc : X.calm = true) (hN : X.N.Nodup) (hi : VI X xl tg iter wi) (ok : BlkOk X.N X.env.scope scope own)
    (hg : ∀ (s : Shared) (H : Hp) (C : Addr) (cl : List (Str × Addr)) (fp : List Addr), PG (X.blk s H scope (compEnvC scope cl C X.env) fp) tg (gOf X.K p)) (ht : ∀ (s : Shared) (H : Hp) (C : Addr) (cl : List (Str × Addr)) (fp : List Addr), VTs (X.blk s H scope (compEnvC scope cl C X.env) fp) xl0 ifs wt)
    (he : ∀ (s : Shared) (H : Hp) (C : Addr) (cl : List (Str × Addr)) (fp : List Addr), VE (X.blk s H scope (compEnvC scope cl C X.env) fp) xl0 elt we) (hv : p.sub (own.map (·.2)) = true := by rfl) (hs : ∀ x, foldedSetIterable iter X.env x = pure x := by intro _; rfl) :
    VF X xl (.ListComp elt [⟨tg, iter, ifs, 0⟩] scope pos) (wLc wi p wt we (own.map (·.2))) := pe_weak (pe_lc hc hN hi ok hg ht he hs) (lf_lc hv)
end
end Hv

set_option Elab.async false
set_option linter.all false
set_option maxRecDepth 100000
namespace Hv
open PySem PySem.Spec PyProof.Rows L2 Hod
structure Ends2 where
  nx : Rho → Mem → Prop
  rt : PyData → Prop
  bk : Rho → Mem → Prop := fun _ _ => False
  ct : Rho → Mem → Prop := fun _ _ => False
  fr : Bool := false
  ow : Addr → Mem → Prop := fun _ _ => False
abbrev WS := Ends2 → Rho → Mem → Prop
/-- the state of a body: H0 at its entry, G0 what is to be seen as it was -/
structure Sts (K : PySem.W.Frag) (xl : XLT K) (S : Hs) (B : Hid) (H0 G0 : Hp) (σ : L2.St) (H : Hp) (ρ : Rho) (μ : Mem) : Prop where
  st : Sta K xl S B σ H ρ μ
  old : Ex S H0 H
  fre : ∀ a, H0 a ≠ none → μ a = none
  vis : Same G0 (off B μ H)
  xs : ∀ σ' H' μ', Ex S H0 H' → Good K S B μ' H' → xl.p S B μ' σ' H'
structure Ref (K : PySem.W.Frag) (xl : XLT K) (S : Hs) (B : Hid) (H0 G0 : Hp) (D : Ends) (E : Ends2) : Prop where
  nx : ∀ σ H ρ μ, Sts K xl S B H0 G0 σ H ρ μ → E.nx ρ μ → D.nx σ H
  bk : ∀ σ H ρ μ, Sts K xl S B H0 G0 σ H ρ μ → E.bk ρ μ → D.bk σ H
  ct : ∀ σ H ρ μ, Sts K xl S B H0 G0 σ H ρ μ → E.ct ρ μ → D.ct σ H
  rt : ∀ v H d, Ex S H0 H → Good K S B emp H → Rp K (off B emp H) v d → (E.fr = true → ∀ p ds, v = .ref p → d = .list ds → H0 p = none) → E.rt d → D.rt v H
  ow : ∀ σ H ρ μ q, Sts K xl S B H0 G0 σ H ρ μ → isL μ q = true → E.ow q μ → D.rt (.ref q) H
def LS (K : PySem.W.Frag) (xl : XLT K) (W : WS) : TS := fun D σ H => ∃ S B H0 G0 ρ μ E, Sts K xl S B H0 G0 σ H ρ μ ∧ W E ρ μ ∧ Ref K xl S B H0 G0 D E
abbrev VS (X : Cx) (xl : XLT X.K) (st : Stmt) (W : WS) : Prop := PS X st (LS X.K xl W)
abbrev VSs (X : Cx) (xl : XLT X.K) (st : List Stmt) (W : WS) : Prop := PSs X st (LS X.K xl W)
section
variable {K : PySem.W.Frag} {xl : XLT K} {S : Hs} {B : Hid} {H0 G0 H H' : Hp} {σ : L2.St} {ρ : Rho} {μ : Mem}
theorem Sts.of (g : Good K S B μ H) (sl : Sls K S μ (off B μ H) σ ρ) (old : Ex S H0 H) (fre : ∀ a, H0 a ≠ none → μ a = none) (vis : Same G0 (off B μ H)) (xs : ∀ σ' H' μ', Ex S H0 H' → Good K S B μ' H' → xl.p S B μ' σ' H') : Sts K xl S B H0 G0 σ H ρ μ := ⟨⟨g, sl, xs _ _ _ old g⟩, old, fre, vis, xs⟩
theorem Sts.ex (s : Sts K xl S B H0 G0 σ H ρ μ) (e : Ex S H H') (g : Good K S B μ H') : Sts K xl S B H0 G0 σ H' ρ μ := ⟨s.st.ex e g, s.old.trans e, s.fre, fun a o h => e.off s.st.gd a o (s.vis a o h), s.xs⟩
theorem Sts.set (s : Sts K xl S B H0 G0 σ H ρ μ) (i : Nat) {v : V} {a : A} (r : Ra K S μ (off B μ H) v a) : Sts K xl S B H0 G0 (σ.set i (some v)) H (ρ.set i (some a)) μ := .of s.st.gd (s.st.sl.set i r) s.old s.fre s.vis s.xs
end
section
variable {X : Cx} {xl : XLT X.K} {st : Stmt} {rest : List Stmt} {W W2 : WS} {e a b : Expr} {pos : Pos} {w wa wb : WE}
def wNext : WS := fun E ρ μ => E.nx ρ μ
def wSeq (W W2 : WS) : WS := fun E ρ μ => W { E with nx := fun ρ μ => W2 E ρ μ } ρ μ
theorem vss_nil : VSs X xl [] wNext := pss_weak pss_nil fun D σ H ⟨S, B, H0, G0, ρ, μ, E, s, w, r⟩ => r.nx σ H ρ μ s w
theorem vss_one (h : VS X xl st W) : VSs X xl [st] W := pss_one h
theorem vss_cons (h1 : VS X xl st W) (h2 : VSs X xl rest W2) : VSs X xl (st :: rest) (wSeq W W2) :=
  pss_weak (pss_cons h1 h2) fun D σ H ⟨S, B, H0, G0, ρ, μ, E, s, w, r⟩ => ⟨S, B, H0, G0, ρ, μ, _, s, w, ⟨fun σ H ρ μ s q => ⟨S, B, H0, G0, ρ, μ, E, s, q, r⟩, r.bk, r.ct, r.rt, r.ow⟩⟩
theorem vs_pass : VS X xl (.Pass pos) wNext := ps_weak ps_pass fun D σ H ⟨S, B, H0, G0, ρ, μ, E, s, w, r⟩ => r.nx σ H ρ μ s w
theorem vs_break : VS X xl (.Break pos) (fun E ρ μ => E.bk ρ μ) := ps_weak ps_break fun D σ H ⟨S, B, H0, G0, ρ, μ, E, s, w, r⟩ => r.bk σ H ρ μ s w
theorem vs_continue : VS X xl (.Continue pos) (fun E ρ μ => E.ct ρ μ) := ps_weak ps_continue fun D σ H ⟨S, B, H0, G0, ρ, μ, E, s, w, r⟩ => r.ct σ H ρ μ s w
theorem vs_never : VS X xl st (fun _ _ _ => False) := ps_weak ps_never fun D σ H ⟨S, B, H0, G0, ρ, μ, E, s, w, r⟩ => w
/-! assignments -/
def wSet (i : Nat) (w : WE) : WS := fun E ρ μ => w ρ μ fun a => E.nx (ρ.set i (some a)) μ
theorem ls_set {K : PySem.W.Frag} {xl : XLT K} {i : Nat} {D : Ends} {σ : L2.St} {H : Hp} (h : LS K xl (wSet i w) D σ H) : LE K xl w σ H fun x H1 => gName i x σ H1 D.nx := by
  obtain ⟨S, B, H0, G0, ρ, μ, E, s, w, r⟩ := h
  exact ⟨S, B, ρ, μ, _, s.st, w, fun v H1 a e1 g1 ra q1 => r.nx _ _ _ _ ((s.ex e1 g1).set i ra) q1⟩
theorem le_lf {K : PySem.W.Frag} {xl : XLT K} {σ : L2.St} {H : Hp} {Q : VK} (h : LE K xl w σ H Q) : LF K xl w σ H Q := by
  obtain ⟨S, B, ρ, μ, Q2, s, w, k⟩ := h
  exact ⟨S, B, ρ, μ, Q2, s, w, fun v H' a e g r _ q => k v H' a e g r q⟩
mutual
def nol : PyData → Bool
  | .list _ => false
  | .tuple ds => nols ds
  | .dict _ => false
  | _ => true
def nols : List PyData → Bool
  | [] => true
  | d :: ds => nol d && nols ds
end
mutual
/-- data without lists doesn't stand on the lists of the heap -/
theorem nol_ok {K : PySem.W.Frag} {G G2 : Hp} (s : ∀ a o, G a = some o → (∀ xs, o ≠ .lst xs) → G2 a = some o) : ∀ (d : PyData) (v : V), nol d = true → Rp K G v d → Rp K G2 v d
  | .none, _, _, h => by cases h; exact .non
  | .bool b, _, _, h => by cases h; exact .bl b
  | .int b, _, _, h => by cases h; exact .int b
  | .str b, _, _, h => by cases h; exact .str b
  | .list _, _, e, _ => by cases e
  | .dict _, _, e, _ => by cases e
  | .tuple ds, _, e, h => by
    cases h with
    | tup h1 h2 =>
      refine .tup ?_ (nols_ok s ds _ (by unfold nol at e; exact e) h2)
      rcases h1 with (h1 | ⟨o, h1⟩) | h1
      · exact .inl (.inl (s _ _ h1 fun _ z => nomatch z))
      · exact .inl (.inr ⟨o, s _ _ h1 fun _ z => nomatch z⟩)
      · exact .inr h1
theorem nols_ok {K : PySem.W.Frag} {G G2 : Hp} (s : ∀ a o, G a = some o → (∀ xs, o ≠ .lst xs) → G2 a = some o) : ∀ (ds : List PyData) (vs : List V), nols ds = true → Rps K G vs ds → Rps K G2 vs ds
  | [], _, _, h => by cases h; exact .nil
  | d :: ds, _, e, h => by
    cases h with
    | cons h1 h2 =>
      have e : (nol d && nols ds) = true := by unfold nols at e; exact e
      rw [Bool.and_eq_true] at e
      exact .cons (nol_ok s d _ e.1 h1) (nols_ok s ds _ e.2 h2)
end
theorem nols_int : ∀ ns : List Int, nols (ns.map PyData.int) = true
  | [] => rfl
  | n :: ns => by
    show (nol (.int n) && nols (ns.map PyData.int)) = true
    rw [nols_int ns]; rfl
def wOwn (i : Nat) (w : WE) : WS := fun E ρ μ => w ρ μ fun a => match a with
  | .dat (.list ds) => nols ds = true ∧ ∀ p, μ p = none → E.nx (ρ.set i (some (.own p))) (put μ p (ds.map .dat))
  | .dat d => E.nx (ρ.set i (some (.dat d))) μ
  | _ => False
theorem put_some {μ : Mem} {p a : Addr} {xs : List A} (h : (μ a).isSome = true) : (put μ p xs a).isSome = true := by
  unfold put
  split
  · rfl
  · exact h
theorem put_L {μ : Mem} {p a : Addr} {ys : List A} (hu : unt ys = true) (h : isL μ a = true) : isL (put μ p ys) a = true := by
  by_cases e : a = p
  · subst e; exact isL_of put_same hu
  · unfold isL; rw [put_ne e]; exact h
theorem put_O {μ : Mem} {p a : Addr} {ys : List A} (hn : isO μ p = false) (h : isO μ a = true) : isO (put μ p ys) a = true := by
  by_cases e : a = p
  · subst e; rw [hn] at h; cases h
  · unfold isO; rw [put_ne e]; exact h
theorem isO_none {μ : Mem} {p : Addr} (h : μ p = none) : isO μ p = false := by unfold isO; rw [h]
theorem isO_L {μ : Mem} {p : Addr} (h : isL μ p = true) : isO μ p = false := by
  unfold isL at h
  unfold isO
  cases q : μ p with
  | none => rfl
  | some xs => rw [q] at h; dsimp only at h ⊢; rw [h]; rfl
theorem unt_dat : ∀ (ds : List PyData), unt (ds.map A.dat) = true
  | [] => rfl
  | _ :: _ => rfl
/-- a new list becomes one's own -/
theorem own_new {K : PySem.W.Frag} {xl : XLT K} {S : Hs} {B : Hid} {H0 G0 H H1 : Hp} {σ : L2.St} {ρ : Rho} {μ : Mem} {p : Addr} {xs : List V} {ds : List PyData} (s : Sts K xl S B H0 G0 σ H ρ μ) (e : Ex S H H1) (g : Good K S B μ H1) (n : H p = none) (hp : off B μ H1 p = some (.lst xs)) (r : Rps K (off B μ H1) xs ds) (hn : nols ds = true) (i : Nat) :
    Sts K xl S B H0 G0 (σ.set i (some (.ref p))) H1 (ρ.set i (some (.own p))) (put μ p (ds.map .dat)) := by
  obtain ⟨b1, b2, b3⟩ := off_some hp
  have so : Same (off B μ H) (off B (put μ p (ds.map .dat)) H1) := fun a o h => by
    obtain ⟨h1, h2, h3⟩ := off_some h
    have ne : a ≠ p := ne_of_none h3 n
    rw [off_of h1 (by rw [put_ne ne]; exact h2)]
    exact e.keep a o (s.st.gd.sb h1) h3
  have gw : Gw μ (put μ p (ds.map .dat)) (off B μ H) (off B (put μ p (ds.map .dat)) H1) := ⟨so, fun a h => put_L (unt_dat ds) h, fun a h => put_O (isO_none (s.st.gd.free n).2) h⟩
  refine .of ⟨fun a sa => ?_, g.tb, g.bd, fun a ys q => ?_⟩ ?_ (s.old.trans e) (fun a h => ?_) (fun a o h => so a o (s.vis a o h)) s.xs
  · obtain ⟨h1, c, ns, j, bg, seed, h2, h3, h4⟩ := g.dr a sa
    obtain ⟨_, c0, ns0, j0, bg0, seed0, k2, k3, k4⟩ := s.st.gd.dr a sa
    obtain ⟨r', z⟩ := e.dr a c0 _ sa k2
    rw [h2] at z
    have ec : c = c0 := V.ref.inj (List.cons.inj (HO.lst.inj (Option.some.inj z))).1
    subst ec
    exact ⟨h1, c, ns0, j, bg, seed, h2, so _ _ k3, h4⟩
  · by_cases ea : a = p
    · subst ea
      rw [put_same] at q
      cases q
      refine ⟨b1, _, xs, b3, (hol_unt (unt_dat ds)).mpr rfl, ?_⟩
      rw [vals_unt (unt_dat ds)]
      refine Rps.ras (nols_ok (fun c o hc hl => ?_) ds xs hn r)
      have ne : c ≠ a := fun z => by rw [z, hp] at hc; exact hl xs (Option.some.inj hc).symm
      obtain ⟨h1, h2, h3⟩ := off_some hc
      rw [off_of h1 (by rw [put_ne ne]; exact h2)]
      exact h3
    · rw [put_ne ea] at q
      obtain ⟨h1, o, vs, h2, hh, h3⟩ := s.st.gd.ce a ys q
      exact ⟨h1, o, vs, e.keep a _ (s.st.gd.sb h1) h2, hh, h3.gw gw⟩
  · exact (s.st.sl.gw gw).set i (.own (isL_of put_same (unt_dat ds)))
  · have ne : a ≠ p := fun z => h (by rw [z]; exact s.old.dom _ n)
    rw [put_ne ne]
    exact s.fre a h
theorem ls_own {K : PySem.W.Frag} {xl : XLT K} {i : Nat} {D : Ends} {σ : L2.St} {H : Hp} (h : LS K xl (wOwn i w) D σ H) : LF K xl w σ H fun x H1 => gName i x σ H1 D.nx := by
  obtain ⟨S, B, H0, G0, ρ, μ, E, s, w, r⟩ := h
  refine ⟨S, B, ρ, μ, _, s.st, w, fun v H1 a e1 g1 ra n q1 => ?_⟩
  cases ra with
  | dat ra =>
    cases ra with
    | @lst p xs ds h1 h2 => exact r.nx _ _ _ _ (own_new s e1 g1 (n p ds rfl rfl) h1 h2 q1.1 i) (q1.2 p (off_some h1).2.1)
    | non => exact r.nx _ _ _ _ ((s.ex e1 g1).set i (.dat .non)) q1
    | bl z => exact r.nx _ _ _ _ ((s.ex e1 g1).set i (.dat (.bl z))) q1
    | int z => exact r.nx _ _ _ _ ((s.ex e1 g1).set i (.dat (.int z))) q1
    | str z => exact r.nx _ _ _ _ ((s.ex e1 g1).set i (.dat (.str z))) q1
    | tup h1 h2 => exact r.nx _ _ _ _ ((s.ex e1 g1).set i (.dat (.tup h1 h2))) q1
  | _ => exact q1.elim
theorem vs_set {i : Nat} {x : Str} {pos' : Pos} (hN : X.N.Nodup) (hi : X.N[i]? = some x) (hx : Loc X.env.scope x) (he : VE X xl e w) (hs : swapsWith e (some (.Name x pos')) pos.line X.env = pure false := by rfl) (hf : X.fn x = true ∨ X.env.scope.names.lookup x = some .local := by first | exact .inl rfl | exact .inr rfl | assumption) :
    VS X xl (.Assign [.Name x pos'] e pos) (wSet i w) := ps_weak (ps_set hN hi hx he hs hf) fun D σ H h => ls_set h
theorem vs_own {i : Nat} {x : Str} {pos' : Pos} (hN : X.N.Nodup) (hi : X.N[i]? = some x) (hx : Loc X.env.scope x) (he : VF X xl e w) (hs : swapsWith e (some (.Name x pos')) pos.line X.env = pure false := by rfl) (hf : X.fn x = true ∨ X.env.scope.names.lookup x = some .local := by first | exact .inl rfl | exact .inr rfl | assumption) :
    VS X xl (.Assign [.Name x pos'] e pos) (wOwn i w) := ps_weak (ps_set hN hi hx he hs hf) fun D σ H h => ls_own h
section
variable {i : Nat} {y : Str} {py : Pos} {elt tg iter : Expr} {ifs : List Expr} {scope : Scope} {own : List (Str × Nat)} {spos : Pos} {wi : WI} {wt : WT} {we : WE}
theorem vs_setLc (p : Pat) (hc : X.calm = true) (hN : X.N.Nodup) (hy : X.N[i]? = some y) (hyl : X.env.scope.names.lookup y = some .local)
    (hsw : swapsWith (.ListComp elt [⟨tg, iter, ifs, 0⟩] scope pos) (some (.Name y py)) spos.line X.env = pure true) (hi : VI X xl tg iter wi) (ok : BlkOk X.N X.env.scope scope own)
    (hg : ∀ (s : Shared) (H : Hp) (C : Addr) (cl : List (Str × Addr)) (fp : List Addr), PG (X.blk s H scope (compEnvC scope cl C X.env) fp) tg (gOf X.K p)) (ht : ∀ (s : Shared) (H : Hp) (C : Addr) (cl : List (Str × Addr)) (fp : List Addr), VTs (X.blk s H scope (compEnvC scope cl C X.env) fp) xl0 ifs wt)
    (he : ∀ (s : Shared) (H : Hp) (C : Addr) (cl : List (Str × Addr)) (fp : List Addr), VE (X.blk s H scope (compEnvC scope cl C X.env) fp) xl0 elt we) (hv : p.sub (own.map (·.2)) = true := by rfl) (hs : ∀ x, foldedSetIterable iter X.env x = pure x := by intro _; rfl) :
    VS X xl (.Assign [.Name y py] (.ListComp elt [⟨tg, iter, ifs, 0⟩] scope pos) spos) (wSet i (wLc wi p wt we (own.map (·.2)))) := ps_weak (ps_setLc hc hN hy hyl hsw hi ok hg ht he hs) fun D σ H h => lf_lc hv σ H _ (le_lf (ls_set h))
theorem vs_ownLc (p : Pat) (hc : X.calm = true) (hN : X.N.Nodup) (hy : X.N[i]? = some y) (hyl : X.env.scope.names.lookup y = some .local)
    (hsw : swapsWith (.ListComp elt [⟨tg, iter, ifs, 0⟩] scope pos) (some (.Name y py)) spos.line X.env = pure true) (hi : VI X xl tg iter wi) (ok : BlkOk X.N X.env.scope scope own)
    (hg : ∀ (s : Shared) (H : Hp) (C : Addr) (cl : List (Str × Addr)) (fp : List Addr), PG (X.blk s H scope (compEnvC scope cl C X.env) fp) tg (gOf X.K p)) (ht : ∀ (s : Shared) (H : Hp) (C : Addr) (cl : List (Str × Addr)) (fp : List Addr), VTs (X.blk s H scope (compEnvC scope cl C X.env) fp) xl0 ifs wt)
    (he : ∀ (s : Shared) (H : Hp) (C : Addr) (cl : List (Str × Addr)) (fp : List Addr), VE (X.blk s H scope (compEnvC scope cl C X.env) fp) xl0 elt we) (hv : p.sub (own.map (·.2)) = true := by rfl) (hs : ∀ x, foldedSetIterable iter X.env x = pure x := by intro _; rfl) :
    VS X xl (.Assign [.Name y py] (.ListComp elt [⟨tg, iter, ifs, 0⟩] scope pos) spos) (wOwn i (wLc wi p wt we (own.map (·.2)))) := ps_weak (ps_setLc hc hN hy hyl hsw hi ok hg ht he hs) fun D σ H h => lf_lc hv σ H _ (ls_own h)
end
/-- a, b = e -/
def wAsg (p : Pat) (w : WE) : WS := fun E ρ μ => w ρ μ fun a => match a with | .dat d => (match bindP p d ρ with | some ρ' => E.nx ρ' μ | none => False) | _ => False
theorem vs_asg {tg : Expr} (p : Pat) (he : VE X xl e w) (hg : PG X tg (gOf X.K p)) (hs : swapsWithSole [tg] e pos.line X.env = pure false := by rfl) (hw : swappedStores [tg] e X.env = pure none := by rfl) (h1 : (assignEach [tg] X.env).map (·.2) = [assign tg X.env] := by rfl) : VS X xl (.Assign [tg] e pos) (wAsg p w) := by
  refine ps_weak (ps_asg he hg hs hw h1) fun D σ H ⟨S, B, H0, G0, ρ, μ, E, s, w, r⟩ => ⟨S, B, ρ, μ, _, s.st, w, fun v H1 a e1 g1 ra q1 => ?_⟩
  cases ra with
  | dat ra =>
    dsimp only at q1
    split at q1
    · rename_i ρ' hb
      have s1 := s.ex e1 g1
      exact gOf_ok (S := S) (μ := μ) (G := off B μ H1) off_same p _ ρ ρ' v σ _ hb ra s1.st.sl fun σ' sl _ => r.nx _ _ _ _ (.of g1 sl s1.old s1.fre s1.vis s1.xs) q1
    · exact q1.elim
  | _ => exact q1.elim
/-- a, b = c, d -/
def wPar (i j : Nat) (u : WA) : WS := fun E ρ μ => u ρ μ fun as => match as with | [a, b] => E.nx ((ρ.set i (some a)).set j (some b)) μ | _ => False
theorem vs_par {i j : Nat} {x y : Str} {u : WA} {px py pt : Pos} {kt k2 pt2} (hc : X.calm = true) (hN : X.N.Nodup) (hi : X.N[i]? = some x) (hj : X.N[j]? = some y) (hij : i ≠ j)
    (hx : X.env.scope.names.lookup x = some .local) (hy : X.env.scope.names.lookup y = some .local) (ha : VA X xl [a, b] u)
    (hw : swappedStores [.Tuple [.Name x px, .Name y py] kt pt] (.Tuple [a, b] k2 pt2) X.env = pure (some [x, y])) : VS X xl (.Assign [.Tuple [.Name x px, .Name y py] kt pt] (.Tuple [a, b] k2 pt2) pos) (wPar i j u) := by
  refine ps_weak (ps_par hc hN hi hj hij hx hy ha hw) fun D σ H ⟨S, B, H0, G0, ρ, μ, E, s, w, r⟩ => ⟨S, B, ρ, μ, _, s.st, w, fun vs H1 as e1 g1 ra q1 => ?_⟩
  unfold wPar at w
  split at q1
  · rename_i a b
    cases ra with
    | cons r1 ra =>
      cases ra with
      | cons r2 ra =>
        cases ra
        exact ⟨_, _, rfl, r.nx _ _ _ _ (((s.ex e1 g1).set i r1).set j r2) q1⟩
  · exact q1.elim
/-- x += e of ints -/
def wAug (i : Nat) (w : WE) : WS := fun E ρ μ => match ρ[i]? with | some (some (.dat (.int x))) => w ρ μ fun a => (match a with | .dat (.int y) => E.nx (ρ.set i (some (.dat (.int (x + y))))) μ | _ => False) | _ => False
theorem vs_aug {i : Nat} {x : Str} {pos' : Pos} (hN : X.N.Nodup) (hi : X.N[i]? = some x) (hx : Loc X.env.scope x) (he : VE X xl e w) (hf : X.fn x = true ∨ X.env.scope.names.lookup x = some .local := by first | exact .inl rfl | exact .inr rfl | assumption) :
    VS X xl (.AugAssign (.Name x pos') .Add e pos) (wAug i w) := by
  refine ps_weak (ps_aug hN hi hx he ip_add hf) fun D σ H ⟨S, B, H0, G0, ρ, μ, E, s, w, r⟩ => ?_
  unfold wAug at w
  split at w
  · rename_i x hx
    obtain ⟨v, h1, h2⟩ := s.st.sl.get hx
    cases h2 with
    | dat h2 =>
      cases h2
      refine ⟨_, h1, S, B, ρ, μ, _, s.st, w, fun v2 H1 a e1 g1 ra q1 => ?_⟩
      cases ra with
      | dat ra =>
        cases ra with
        | int y => exact ⟨_, _, rfl, rfl, r.nx _ _ _ _ ((s.ex e1 g1).set i (.dat (.int _))) q1⟩
        | _ => exact q1.elim
      | _ => exact q1.elim
  · exact w.elim
/-! own lists changed -/
theorem own_off {B : Hid} {μ : Mem} {H : Hp} {p : Addr} {o : HO} {xs : List A} (h : (μ p).isSome = true) : off B (put μ p xs) (upd H p o) = off B μ H := by
  funext a
  unfold off
  by_cases e : a = p
  · subst e
    rw [h, put_same]
    simp
  · rw [put_ne e, upd_ne e]
theorem own_set {K : PySem.W.Frag} {xl : XLT K} {S : Hs} {B : Hid} {H0 G0 H : Hp} {σ : L2.St} {ρ : Rho} {μ : Mem} {p : Addr} {xs ys : List A} {zs : List V} (s : Sts K xl S B H0 G0 σ H ρ μ) (hL : isL μ p = true) (hp : μ p = some xs) (r : Ras K S μ (off B μ H) zs ys) :
    Sts K xl S B H0 G0 σ (upd H p (.lst zs)) ρ (put μ p ys) := by
  have hm : (μ p).isSome = true := by rw [hp]; rfl
  obtain ⟨bp, vs, hv, _⟩ := s.st.gd.ls hL hp
  have sp : S p = false := s.st.gd.sb bp
  have oo := own_off (B := B) (H := H) (o := .lst zs) (xs := ys) hm
  have gw : Gw μ (put μ p ys) (off B μ H) (off B (put μ p ys) (upd H p (.lst zs))) := ⟨by rw [oo]; exact Same.refl _, fun a h => put_L r.unt h, fun a h => put_O (isO_L hL) h⟩
  refine .of ⟨fun a sa => ?_, fun a sa => ⟨(s.st.gd.tb a sa).1, tabs_upd (s.st.gd.tb a sa).2 hv⟩, fun a ba => ?_, fun a ws q => ?_⟩ (s.st.sl.gw gw) ⟨fun a o sa h => ?_, fun a h => ?_, fun a c r sa h => ?_⟩ (fun a h => ?_) (fun a o h => by rw [oo]; exact s.vis a o h) s.xs
  · obtain ⟨h1, c, ns, i, bg, seed, h2, h3, h4⟩ := s.st.gd.dr a sa
    have ne : a ≠ p := fun e => by rw [e, Hs.of_d sp] at sa; cases sa
    exact ⟨h1, c, ns, i, bg, seed, by rw [upd_ne ne]; exact h2, by rw [oo]; exact h3, h4⟩
  · by_cases e : a = p
    · rw [e, upd_same]; exact fun z => nomatch z
    · rw [upd_ne e]; exact s.st.gd.bd a ba
  · by_cases e : a = p
    · subst e
      rw [put_same] at q
      cases q
      exact ⟨bp, _, zs, upd_same, (hol_unt r.unt).mpr rfl, by rw [vals_unt r.unt]; exact r.gw gw⟩
    · rw [put_ne e] at q
      obtain ⟨h1, o, vs, h2, hh, h3⟩ := s.st.gd.ce a ws q
      exact ⟨h1, o, vs, by rw [upd_ne e]; exact h2, hh, h3.gw gw⟩
  · have ne : a ≠ p := fun e => by
      have := s.fre a (by rw [h]; exact fun z => nomatch z)
      rw [e, hp] at this
      cases this
    rw [upd_ne ne]
    exact s.old.keep a o sa h
  · by_cases e : a = p
    · rw [e, upd_same] at h; cases h
    · rw [upd_ne e] at h; exact s.old.dom a h
  · have ne : a ≠ p := fun e => by rw [e, Hs.of_d sp] at sa; cases sa
    rw [upd_ne ne]
    exact s.old.dr a c r sa h
  · have ne : a ≠ p := fun e => by
      have := s.fre a h
      rw [e, hp] at this
      cases this
    rw [put_ne ne]
    exact s.fre a h
/-- the items of one's own list -/
def cel (μ : Mem) : A → Option (Addr × List A)
  | .own p => match μ p with | some xs => some (p, xs) | none => none
  | _ => none
theorem cel_ok {K : PySem.W.Frag} {S : Hs} {B : Hid} {μ : Mem} {H : Hp} {v : V} {a : A} {p : Addr} {xs : List A} (g : Good K S B μ H) (r : Ra K S μ (off B μ H) v a) (h : cel μ a = some (p, xs)) : v = .ref p ∧ μ p = some xs ∧ ∃ vs, H p = some (.lst vs) ∧ Ras K S μ (off B μ H) vs xs := by
  cases r with
  | dat _ => cases h
  | drw _ => cases h
  | ty => cases h
  | fn => cases h
  | obj => cases h
  | @own q hL =>
    unfold cel at h
    dsimp only at h
    cases e : μ q with
    | none => rw [e] at h; cases h
    | some ys =>
      rw [e] at h
      cases h
      obtain ⟨_, vs, h1, h2⟩ := g.ls hL e
      exact ⟨rfl, e, vs, h1, h2⟩
theorem cel_L {K : PySem.W.Frag} {S : Hs} {μ : Mem} {G : Hp} {v : V} {a : A} {p : Addr} {xs : List A} (r : Ra K S μ G v a) (h : cel μ a = some (p, xs)) : isL μ p = true := by
  cases r with
  | dat _ => cases h
  | drw _ => cases h
  | ty => cases h
  | fn => cases h
  | obj => cases h
  | @own q hL =>
    unfold cel at h
    dsimp only at h
    cases e : μ q with
    | none => rw [e] at h; cases h
    | some ys =>
      rw [e] at h
      cases h
      exact hL
def wApp (wo we : WE) : WS := fun E ρ μ => wo ρ μ fun o => match cel μ o with | some (p, xs) => we ρ μ fun a => xs.length < 1000000 ∧ E.nx ρ (put μ p (xs ++ [a])) | none => False
theorem vs_app {o : Expr} {wo : WE} {cpos apos : Pos} (ho : VE X xl o wo) (he : VE X xl e w)
    (hbase : attributeBase o "append" X.env (eval o X.env) = eval o X.env := by rfl)
    (hfew : ((backTo cpos (starEach [e] X.env)).all (fun x => !x.1) && (backToKw cpos (keywordEach [] X.env)).all (fun x => x.1.isSome)
      && decide ([e].length + ([] : List Keyword).length + (if ([] : List Keyword).isEmpty then 0 else 1) < 30)) = true := by rfl)
    (hline : (apos.endLine == cpos.line) = true := by rfl) (hs : starEach [e] X.env = (false, eval e X.env) :: starEach [] X.env := by rfl)
    (hsw : swapsWith (.Call (.Attribute o "append" apos) [e] [] cpos) none pos.line X.env = pure false := by rfl) : VS X xl (.Expr (.Call (.Attribute o "append" apos) [e] [] cpos) pos) (wApp wo w) := by
  refine ps_weak (ps_expr (pe_bm PySem.F.plainAttrs_list PySem.F.slot_list_append PySem.F.type_list_append mt_append ho (pa_cons he pa_nil hs) hbase hfew hline hs) hsw) fun D σ H ⟨S, B, H0, G0, ρ, μ, E, s, w, r⟩ => ?_
  refine ⟨S, B, ρ, μ, _, s.st, w, fun v H1 a e1 g1 ra q1 => ?_⟩
  have s1 := s.ex e1 g1
  split at q1
  · rename_i p xs hc
    obtain ⟨rfl, hm, vs, h1, h2⟩ := cel_ok g1 ra hc
    refine ⟨.inl ⟨rfl, _, SqL.of h1⟩, S, B, ρ, μ, _, s1.st, q1, fun v2 H2 a2 e2 g2 r2 q2 => ?_⟩
    have s2 := s1.ex e2 g2
    obtain ⟨_, vs2, h3, h4⟩ := g2.ls (cel_L ra hc) hm
    exact ⟨p, vs2, v2, rfl, rfl, h3, million (by rw [h4.len]; exact q2.1), r.nx _ _ _ _ (own_set s2 (cel_L ra hc) hm (h4.app (.cons r2 .nil))) q2.2⟩
  · exact q1.elim
/-- xs.extend(ys), ys a list of data -/
def wExt (wo we : WE) : WS := fun E ρ μ => wo ρ μ fun o => match cel μ o with | some (p, xs) => we ρ μ fun a => (match a with | .dat (.list ds) => xs.length + ds.length ≤ 1000000 ∧ E.nx ρ (put μ p (xs ++ ds.map .dat)) | _ => False) | none => False
theorem vs_ext {o : Expr} {wo : WE} {cpos apos : Pos} (ho : VE X xl o wo) (he : VE X xl e w)
    (hbase : attributeBase o "extend" X.env (eval o X.env) = eval o X.env := by rfl)
    (hfew : ((backTo cpos (starEach [e] X.env)).all (fun x => !x.1) && (backToKw cpos (keywordEach [] X.env)).all (fun x => x.1.isSome)
      && decide ([e].length + ([] : List Keyword).length + (if ([] : List Keyword).isEmpty then 0 else 1) < 30)) = true := by rfl)
    (hline : (apos.endLine == cpos.line) = true := by rfl) (hs : starEach [e] X.env = (false, eval e X.env) :: starEach [] X.env := by rfl)
    (hsw : swapsWith (.Call (.Attribute o "extend" apos) [e] [] cpos) none pos.line X.env = pure false := by rfl) : VS X xl (.Expr (.Call (.Attribute o "extend" apos) [e] [] cpos) pos) (wExt wo w) := by
  refine ps_weak (ps_expr (pe_bm PySem.F.plainAttrs_list PySem.F.slot_list_extend PySem.F.type_list_extend mt_extend ho (pa_cons he pa_nil hs) hbase hfew hline hs) hsw) fun D σ H ⟨S, B, H0, G0, ρ, μ, E, s, w, r⟩ => ?_
  refine ⟨S, B, ρ, μ, _, s.st, w, fun v H1 a e1 g1 ra q1 => ?_⟩
  have s1 := s.ex e1 g1
  split at q1
  · rename_i p xs hc
    obtain ⟨rfl, hm, vs, h1, h2⟩ := cel_ok g1 ra hc
    refine ⟨.inl ⟨rfl, _, SqL.of h1⟩, S, B, ρ, μ, _, s1.st, q1, fun v2 H2 a2 e2 g2 r2 q2 => ?_⟩
    have s2 := s1.ex e2 g2
    obtain ⟨_, vs2, h3, h4⟩ := g2.ls (cel_L ra hc) hm
    cases r2 with
    | dat r2 =>
      cases r2 with
      | @lst p2 ys ds k1 k2 =>
        exact ⟨p, p2, vs2, ys, rfl, rfl, h3, off_same _ _ k1, big (by rw [h4.len, k2.len]; exact q2.1), r.nx _ _ _ _ (own_set s2 (cel_L ra hc) hm (h4.app k2.ras)) q2.2⟩
      | _ => exact q2.elim
    | _ => exact q2.elim
  · exact q1.elim
/-- xs[i] = e -/
def wSto (wo wi we : WE) : WS := fun E ρ μ => we ρ μ fun a => wo ρ μ fun o => wi ρ μ fun i => match cel μ o, i with
  | some (p, xs), .dat (.int k) => (match ixN xs.length k with | some j => E.nx ρ (put μ p (xs.set j a)) | none => False)
  | _, _ => False
theorem vs_sto {o i : Expr} {wo wi : WE} {tp : Pos} (he : VE X xl e w) (ho : VE X xl o wo) (hi : VE X xl i wi) (hg : ∀ {to ti : TE} {t : TSet}, PE X o to → PE X i ti → PSet X t → PG X (.Subscript o i tp) (L2.gSub to ti t))
    (hs : swapsWithSole [.Subscript o i tp] e pos.line X.env = pure false := by rfl) (hw : swappedStores [.Subscript o i tp] e X.env = pure none := by rfl) (h1 : (assignEach [.Subscript o i tp] X.env).map (·.2) = [assign (.Subscript o i tp) X.env] := by rfl) : VS X xl (.Assign [.Subscript o i tp] e pos) (wSto wo wi w) := by
  refine ps_weak (ps_asg he (hg ho hi set_list) hs hw h1) fun D σ H ⟨S, B, H0, G0, ρ, μ, E, s, w, r⟩ => ⟨S, B, ρ, μ, _, s.st, w, fun v H1 a e1 g1 ra q1 => ?_⟩
  have s1 := s.ex e1 g1
  refine ⟨S, B, ρ, μ, _, s1.st, q1, fun v2 H2 a2 e2 g2 r2 q2 => ?_⟩
  have s2 := s1.ex e2 g2
  refine ⟨S, B, ρ, μ, _, s2.st, q2, fun v3 H3 a3 e3 g3 r3 q3 => ?_⟩
  have s3 := s2.ex e3 g3
  split at q3
  · rename_i p xs k hc
    obtain ⟨rfl, hm, vs, h1, h2⟩ := cel_ok g2 r2 hc
    split at q3
    · rename_i j hj
      cases r3 with
      | dat r3 =>
        cases r3
        obtain ⟨_, vs3, h3, h4⟩ := g3.ls (cel_L r2 hc) hm
        exact ⟨p, vs3, k, j, rfl, rfl, h3, by rw [h4.len]; exact hj, r.nx _ _ _ _ (own_set s3 (cel_L r2 hc) hm (h4.set j ((ra.mono (e2.off g1)).mono (e3.off g2)))) q3⟩
    · exact q3.elim
  · exact q3.elim
/-! ### other statements -/
def wDrop (w : WE) : WS := fun E ρ μ => w ρ μ fun _ => E.nx ρ μ
theorem vs_expr (he : VE X xl e w) (hs : swapsWith e none pos.line X.env = pure false := by rfl) : VS X xl (.Expr e pos) (wDrop w) :=
  ps_weak (ps_expr he hs) fun D σ H ⟨S, B, H0, G0, ρ, μ, E, s, w, r⟩ => ⟨S, B, ρ, μ, _, s.st, w, fun v H1 a e1 g1 ra q1 => r.nx _ _ _ _ (s.ex e1 g1) q1⟩
def wIfS (u : WT) (W W2 : WS) : WS := fun E ρ μ => u ρ μ fun b => if b = true then W E ρ μ else W2 E ρ μ
theorem vs_if {c : Expr} {s1 s2 : List Stmt} {u : WT} (hc : VT X xl c u) (ha : VSs X xl s1 W) (hb : VSs X xl s2 W2) : VS X xl (.If c s1 s2 pos) (wIfS u W W2) := by
  refine ps_weak (ps_if hc ha hb) fun D σ H ⟨S, B, H0, G0, ρ, μ, E, s, w, r⟩ => ⟨S, B, ρ, μ, _, s.st, w, fun b H1 e1 g1 q1 => ?_⟩
  cases b with
  | true => exact ⟨S, B, H0, G0, ρ, μ, E, s.ex e1 g1, q1, r⟩
  | false => exact ⟨S, B, H0, G0, ρ, μ, E, s.ex e1 g1, q1, r⟩
def retA (E : Ends2) (μ : Mem) : A → Prop
  | .dat (.list ds) => E.fr = false ∧ E.rt (.list ds)
  | .dat d => E.rt d
  | .own p => match μ p with | some xs => (match dats xs with | some ds => E.rt (.list ds) | none => False) | none => False
  | _ => False
theorem ret_ok {K : PySem.W.Frag} {xl : XLT K} {S : Hs} {B : Hid} {H0 G0 H : Hp} {σ : L2.St} {ρ : Rho} {μ : Mem} {D : Ends} {E : Ends2} {v : V} {a : A} (s : Sts K xl S B H0 G0 σ H ρ μ) (r : Ref K xl S B H0 G0 D E) (ra : Ra K S μ (off B μ H) v a) (q : retA E μ a) : D.rt v H := by
  have g := s.st.gd
  cases ra with
  | dat ra =>
    cases ra with
    | @lst p xs ds h1 h2 => exact r.rt _ _ _ s.old g.open (Rp.mono same_open _ _ (.lst h1 h2)) (fun f => by rw [q.1] at f; cases f) q.2
    | non => exact r.rt _ _ _ s.old g.open .non (fun _ _ _ e => nomatch e) q
    | bl z => exact r.rt _ _ _ s.old g.open (.bl z) (fun _ _ _ e => nomatch e) q
    | int z => exact r.rt _ _ _ s.old g.open (.int z) (fun _ _ _ e => nomatch e) q
    | str z => exact r.rt _ _ _ s.old g.open (.str z) (fun _ _ _ e => nomatch e) q
    | tup h1 h2 => exact r.rt _ _ _ s.old g.open (Rp.mono same_open _ _ (.tup h1 h2)) (fun _ _ _ _ e => nomatch e) q
  | @own p h =>
    unfold retA at q
    dsimp only at q
    split at q
    · rename_i xs hx
      split at q
      · rename_i ds hd
        obtain ⟨b1, vs, h1, h2⟩ := g.ls h hx
        refine r.rt _ _ _ s.old g.open (.lst (by rw [off_of b1 rfl]; exact h1) ((h2.rps hd).mono same_open _ _)) (fun _ p2 _ e _ => ?_) q
        cases e
        cases hz : H0 p with
        | none => rfl
        | some o => have := s.fre p (by rw [hz]; exact fun z => nomatch z); rw [hx] at this; cases this
      · exact q.elim
    · exact q.elim
  | drw h => exact q.elim
  | ty => exact q.elim
  | fn => exact q.elim
  | obj => exact q.elim
def wRet (w : WE) : WS := fun E ρ μ => w ρ μ fun a => retA E μ a
theorem vs_ret (he : VE X xl e w) : VS X xl (.Return (some e) pos) (wRet w) :=
  ps_weak (ps_ret he) fun D σ H ⟨S, B, H0, G0, ρ, μ, E, s, w, r⟩ => ⟨S, B, ρ, μ, _, s.st, w, fun v H1 a e1 g1 ra q1 => ret_ok (s.ex e1 g1) r ra q1⟩
def wRetF (w : WE) : WS := fun E ρ μ => w ρ μ fun a => match a with | .dat d => E.rt d | _ => False
theorem vs_retF (he : VF X xl e w) : VS X xl (.Return (some e) pos) (wRetF w) := by
  refine ps_weak (ps_ret he) fun D σ H ⟨S, B, H0, G0, ρ, μ, E, s, w, r⟩ => ⟨S, B, ρ, μ, _, s.st, w, fun v H1 a e1 g1 ra n q1 => ?_⟩
  have s1 := s.ex e1 g1
  cases ra with
  | dat ra => exact r.rt _ _ _ s1.old g1.open (ra.mono same_open _ _) (fun _ p ds h1 h2 => s.old.dom _ (n p ds h1 (by rw [h2]))) q1
  | _ => exact q1.elim
theorem vs_retN : VS X xl (.Return none pos) (fun E _ _ => E.rt .none) :=
  ps_weak ps_retN fun D σ H ⟨S, B, H0, G0, ρ, μ, E, s, w, r⟩ => r.rt _ _ _ s.old s.st.gd.open .non (fun _ _ _ e => nomatch e) w
/-! loops -/
def forW (p : Pat) (W : WS) : List PyData → Ends2 → Rho → Mem → Prop
  | [], E, ρ, μ => E.nx ρ μ
  | d :: ds, E, ρ, μ => match bindP p d ρ with
    | some ρ' => W { E with nx := fun ρ μ => forW p W ds E ρ μ, ct := fun ρ μ => forW p W ds E ρ μ, bk := E.nx } ρ' μ
    | none => False
def wFor (wi : WI) (p : Pat) (W : WS) : WS := fun E ρ μ => wi ρ μ fun ds => forW p W ds E ρ μ
theorem vs_for {tg iter : Expr} {body : List Stmt} {wi : WI} (p : Pat) (hp : PassesOwn (model X.prog X.w) X.A X.env X.xe) (hc : X.calm = true) (hi : VI X xl tg iter wi) (hg : PG X tg (gOf X.K p)) (hb : VSs X xl body W)
    (hs : ∀ x, foldedSetIterable iter X.env x = pure x := by intro _; rfl) : VS X xl (.For tg iter body [] pos) (wFor wi p W) := by
  refine ps_weak (ps_for hp hc hi hg hb hs) fun D σ H ⟨S, B, H0, G0, ρ, μ, E, s, w, r⟩ => ⟨S, B, ρ, μ, _, s.st, w, fun J H1 ds e1 g1 ⟨G, Y, wk, hG, hY⟩ q1 => ?_⟩
  have s1 := s.ex e1 g1
  have key : ∀ {σ' H' ρ' μ'}, Sts X.K xl S B H0 (off B μ H1) σ' H' ρ' μ' → Sts X.K xl S B H0 G0 σ' H' ρ' μ' := fun z => ⟨z.st, z.old, z.fre, fun a o h => z.vis a o (s1.vis a o h), z.xs⟩
  refine for_it (n := ds.length) wk (fun i σ' H' => ∃ ρ' μ', Sts X.K xl S B H0 (off B μ H1) σ' H' ρ' μ' ∧ forW p W (ds.drop i) E ρ' μ') ⟨ρ, μ, ⟨s1.st, s1.old, s1.fre, Same.refl _, s1.xs⟩, q1⟩ ?_ ?_ ?_
  · rintro i σ' H' hi ⟨ρ', μ', z, _⟩
    exact hG H' fun a o h => off_same _ _ (z.vis a o h)
  · rintro i x σ' H' H2 hi ⟨ρ', μ', z, q⟩ y
    obtain ⟨ex2, g2, d, hd, rd⟩ := hY i H' x H2 B μ' hi z.vis z.st.gd y
    have z2 := z.ex ex2 g2
    have hdr : ds.drop i = d :: ds.drop (i + 1) := by
      obtain ⟨h1, h2⟩ := List.getElem?_eq_some_iff.mp hd
      rw [List.drop_eq_getElem_cons h1, h2]
    rw [hdr] at q
    unfold forW at q
    split at q
    · rename_i ρ2 hb
      refine gOf_ok (S := S) (μ := μ') (G := off B μ' H2) off_same p d ρ' ρ2 x σ' _ hb rd z2.st.sl fun σ2 sl _ => ?_
      refine ⟨S, B, H0, off B μ H1, ρ2, μ', _, .of g2 sl z2.old z2.fre z2.vis z2.xs, q, ⟨?_, ?_, ?_, ?_, ?_⟩⟩
      · exact fun σ3 H3 ρ3 μ3 s3 q3 => ⟨ρ3, μ3, s3, q3⟩
      · exact fun σ3 H3 ρ3 μ3 s3 q3 => r.nx _ _ _ _ (key s3) q3
      · exact fun σ3 H3 ρ3 μ3 s3 q3 => ⟨ρ3, μ3, s3, q3⟩
      · exact r.rt
      · exact fun σ3 H3 ρ3 μ3 q s3 hq q3 => r.ow _ _ _ _ q (key s3) hq q3
    · exact q.elim
  · rintro σ' H' ⟨ρ', μ', z, q⟩
    rw [List.drop_length] at q
    exact r.nx _ _ _ _ (key z) q
def wWhile (u : WT) (W : WS) : WS := fun E ρ μ => ∃ (I : Rho → Mem → Prop) (m : Rho → Mem → Nat), I ρ μ ∧ ∀ ρ μ, I ρ μ → u ρ μ fun b => if b = true then W { E with nx := fun ρ' μ' => I ρ' μ' ∧ m ρ' μ' < m ρ μ, ct := fun ρ' μ' => I ρ' μ' ∧ m ρ' μ' < m ρ μ, bk := E.nx } ρ μ else E.nx ρ μ
theorem vs_while {c : Expr} {body : List Stmt} {u : WT} (hp : PassesOwn (model X.prog X.w) X.A X.env X.xe) (hc : VT X xl c u) (hb : VSs X xl body W) : VS X xl (.While c body [] pos) (wWhile u W) := by
  refine ps_weak (ps_while hp hc hb) fun D σ H ⟨S, B, H0, G0, ρ, μ, E, s, ⟨I, m, i0, turn⟩, r⟩ => ?_
  refine ⟨fun n σ' H' => ∃ ρ' μ', Sts X.K xl S B H0 G0 σ' H' ρ' μ' ∧ I ρ' μ' ∧ n = m ρ' μ', ⟨_, ρ, μ, s, i0, rfl⟩, ?_⟩
  rintro n σ' H' ⟨ρ', μ', z, hI, rfl⟩
  refine ⟨S, B, ρ', μ', _, z.st, turn ρ' μ' hI, fun b H1 e1 g1 q1 => ?_⟩
  cases b with
  | false => exact r.nx _ _ _ _ (z.ex e1 g1) q1
  | true =>
    refine ⟨fun σ2 H2 => ∃ ρ2 μ2, Sts X.K xl S B H0 G0 σ2 H2 ρ2 μ2 ∧ I ρ2 μ2 ∧ m ρ2 μ2 < m ρ' μ', fun σ2 H2 ⟨ρ2, μ2, z2, h1, h2⟩ => ⟨_, h2, ρ2, μ2, z2, h1, rfl⟩, ?_⟩
    exact ⟨S, B, H0, G0, ρ', μ', _, z.ex e1 g1, q1, ⟨fun σ3 H3 ρ3 μ3 s3 q3 => ⟨ρ3, μ3, s3, q3⟩, fun σ3 H3 ρ3 μ3 s3 q3 => r.nx _ _ _ _ s3 q3, fun σ3 H3 ρ3 μ3 s3 q3 => ⟨ρ3, μ3, s3, q3⟩, r.rt, r.ow⟩⟩
/-- a word of one's own for a statement -/
theorem vs_weak {U : WS} (h : VS X xl st W) (k : ∀ E ρ μ, U E ρ μ → W E ρ μ) : VS X xl st U := ps_weak h fun D σ H ⟨S, B, H0, G0, ρ, μ, E, s, w, r⟩ => ⟨S, B, H0, G0, ρ, μ, E, s, k E ρ μ w, r⟩
theorem vss_weak {U : WS} (h : VSs X xl rest W) (k : ∀ E ρ μ, U E ρ μ → W E ρ μ) : VSs X xl rest U := pss_weak h fun D σ H ⟨S, B, H0, G0, ρ, μ, E, s, w, r⟩ => ⟨S, B, H0, G0, ρ, μ, E, s, k E ρ μ w, r⟩
/-- slots are forgotten -/
theorem forget (i : Nat) {K : PySem.W.Frag} {xl : XLT K} {S : Hs} {B : Hid} {H0 G0 H : Hp} {σ : L2.St} {ρ : Rho} {μ : Mem} (s : Sts K xl S B H0 G0 σ H ρ μ) : Sts K xl S B H0 G0 σ H (ρ.set i none) μ := .of s.st.gd (s.st.sl.forget i) s.old s.fre s.vis s.xs
end
/-! ### a def -/
def startA (N : List Str) (as : List A) : Rho := as.map some ++ List.replicate (N.length - as.length) none
theorem fnD {P : Program} {w : World} {K : PySem.W.Frag} {mg : Str → Option Value} {base : Heap} {x qual : Str} {st : Stmt} {f : Addr} {fd : FuncData} {N ps : List Str} {k : Nat} {fr : Bool} {F : FS} {W : WS}
    (Fn : Fun K x qual st f fd) (Sc : FnScope N ps (defScope st)) (len : ∀ as Q, F as Q → as.length = ps.length)
    (hbody : ∀ (cdv : Value) (A : Around) (outer : List Env) (s : Shared) (H : Hp) (E : XK), Room k (A.deeper (envOfC qual (defScope st) s.heap.objs.size f cdv)) → VSs (cxOf CX0 P w K mg base N qual (defScope st) f cdv A outer s H E).nox xl0 (defBody st) W)
    (hw : ∀ as Q, F as Q → W { nx := fun _ _ => Q .none, rt := Q, fr := fr } (startA N as) emp) : FnOk P w K mg base CX0 (k + 1) f fd ps (spD K fr F) := by
  refine Fn.ok Sc (fun vs H Q E h => ?_) (fun cdv A outer s H vs Q E hr h => ?_)
  · obtain ⟨S, B, as, Q2, _, h2, h3, _⟩ := h
    rw [h2.len]
    exact len _ _ h3
  · obtain ⟨S, B, as, Q2, h1, h2, h3, h4⟩ := h
    refine ⟨_, hbody cdv A outer s H E hr, S, B, H, off B emp H, startA N as, emp, _, .of h1 ?_ .refl (fun _ _ => rfl) (Same.refl _) (fun _ _ _ _ _ => trivial), hw as Q2 h3, ⟨?_, ?_, ?_, ?_, fun _ _ _ _ _ _ _ q => q.elim⟩⟩
    · have q := Sls.start (N.length - vs.length) h2
      unfold L2.start startA
      rw [h2.len] at q ⊢
      exact q
    · intro σ' H' ρ' μ' z q
      exact h4 _ _ _ z.old z.st.gd.open .non (fun _ _ _ e => nomatch e) q
    · exact fun _ _ _ _ _ q => q.elim
    · exact fun _ _ _ _ _ q => q.elim
    · exact fun v H' d e g r n q => h4 v H' d e g r n q
end Hv

set_option Elab.async false
set_option linter.all false
set_option maxRecDepth 100000
namespace Hv
open PySem PySem.Spec PyProof.Rows L2 Hod
/-! ### the law's own draws -/
def DrawC (H : Hp) (d c : Addr) (ns : List Int) : Prop := ∃ (i : Nat) (big seed : Int), H d = some (.lst [.ref c, .int i, .int big, .int seed]) ∧ H c = some (.lst (ns.map V.int)) ∧ 0 ≤ big ∧ 0 ≤ seed ∧ seed < 2147483647
def spPull : Sp := fun vs H Q _ => ∃ (d : Addr) (n : Int) (c : Addr) (ns : List Int), vs = [.ref d, .int n] ∧ 0 < n ∧ n < 1073741824 ∧ DrawC H d c ns ∧ ∀ (r : Int) (H2 : Hp), Sb d H H2 → DrawC H2 d c ns → 0 ≤ r → r < n → Q (.int r) H2
def spOpen (K : PySem.W.Frag) : Sp := fun vs H Q _ => ∃ (a : Addr) (ns : List Int), vs = [.ref a] ∧ SqL K H a (ns.map V.int) ∧ ns.length ≤ 63 ∧ ∀ (d c : Addr) (H2 : Hp), Same H H2 → H d = none → H c = none → DrawC H2 d c ns → Q (.ref d) H2
/-- a number below n -/
def Fpull : FS := fun as Q => ∃ n : Int, as = [.drw, .dat (.int n)] ∧ 0 < n ∧ n < 1073741824 ∧ ∀ r : Int, 0 ≤ r → r < n → Q (.int r)
theorem tabs_sb {H H2 : Hp} {a d : Addr} {q : Str} {xs : List V} (t : LamX.TabS H a q) (hd : H d = some (.lst xs)) (sb : Sb d H H2) : LamX.TabS H2 a q := by
  obtain ⟨ps, h1, h2, h3⟩ := t
  refine ⟨ps, sb a _ (ne_of h1 hd (fun z => nomatch z)) h1, h2, fun pos cv hc => ?_⟩
  obtain ⟨c, e1, e2⟩ := h3 pos cv hc
  exact ⟨c, e1, sb c _ (ne_of e2 hd (fun z => by unfold LamX.CodeO at z; cases z)) e2⟩
theorem pull_spD {K : PySem.W.Frag} (vs : List V) (H : Hp) (Q : VK) (E : XK) (h : spD K false Fpull vs H Q E) : spPull vs H Q E := by
  obtain ⟨S, B, as, Q2, g, rs, ⟨n, rfl, n0, n1, k⟩, fin⟩ := h
  cases rs with
  | cons r1 rs =>
    cases rs with
    | cons r2 rs =>
      cases rs
      cases r1 with
      | @drw d sd =>
        cases r2 with
        | dat r2 =>
          cases r2
          obtain ⟨bd, c, ns, i, big, seed, h1, h2, h3⟩ := g.dr d sd
          obtain ⟨bc, mc, hc⟩ := off_some h2
          refine ⟨d, n, c, ns, rfl, n0, n1, ⟨i, big, seed, h1, hc, h3⟩, fun r H2 sb ⟨i2, big2, seed2, k1, k2, k3⟩ r0 r1 => ?_⟩
          have ex : Ex S H H2 := by
            refine ⟨fun a o sa ha => sb a o (fun e => by rw [e] at sa; rw [Hs.of_d sa] at sd; cases sd) ha, fun a ha => ?_, fun a c2 r2 sa ha => ?_⟩
            · cases q : H a with
              | none => rfl
              | some o =>
                by_cases e : a = d
                · rw [e, k1] at ha; cases ha
                · rw [sb a o e q] at ha; cases ha
            · by_cases e : a = d
              · subst e
                rw [h1] at ha
                cases ha
                exact ⟨_, k1⟩
              · exact ⟨r2, sb a _ e ha⟩
          have g2 : Good K S B emp H2 := by
            have so := ex.off g
            refine ⟨fun a sa => ?_, fun a sa => ⟨(g.tb a sa).1, tabs_sb (g.tb a sa).2 h1 sb⟩, fun a ba hn => g.bd a ba (ex.dom a hn), fun a xs q => nomatch q⟩
            by_cases e : a = d
            · subst e
              exact ⟨bd, c, ns, i2, big2, seed2, k1, so _ _ h2, k3⟩
            · obtain ⟨ba, c', ns', i', big', seed', q1, q2, q3⟩ := g.dr a sa
              exact ⟨ba, c', ns', i', big', seed', sb a _ e q1, so _ _ q2, q3⟩
          exact fin _ _ _ ex g2 (.int r) (fun e => nomatch e) (k r r0 r1)
/-! ### defs as their callers know them -/
def Dfn (P : Program) (w : World) (K : PySem.W.Frag) (mg : Str → Option Value) (base : Heap) (k : Nat) (x : Str) (ps : List Str) (sp : Sp) : Prop :=
  ∃ f fd, FnOk P w K mg base CX0 k f fd ps sp ∧ mg x = some (.ref f) ∧ PySem.W.keepIn K (.ref f) = true ∧ Binds K fd ps []
/-- where a def stands -/
def Raw (K : PySem.W.Frag) (mg : Str → Option Value) (x : Str) (st : Stmt) (ps : List Str) (f : Addr) (fd : FuncData) : Prop := Fun K x x st f fd ∧ mg x = some (.ref f) ∧ Binds K fd ps []
/-! ### like -/
mutual
def like : PyData → PyData → Bool
  | .none, .none => true
  | .bool a, .bool b => decide (a = b)
  | .int a, .int b => decide (a = b)
  | .str a, .str b => decide (a = b)
  | .list as, .list bs => likes as bs
  | .tuple as, .tuple bs => likes as bs
  | _, _ => false
def likes : List PyData → List PyData → Bool
  | [], [] => true
  | a :: as, b :: bs => like a b && likes as bs
  | _, _ => false
end
mutual
def dep : PyData → Nat
  | .list ds => if ds.length ≤ 100000 then deps ds + 1 else 1000
  | .tuple ds => if ds.length ≤ 100000 then deps ds + 1 else 1000
  | .dict _ => 1000
  | _ => 0
def deps : List PyData → Nat
  | [] => 0
  | d :: ds => max (dep d) (deps ds)
end
mutual
theorem like_refl : ∀ d : PyData, dep d < 1000 → like d d = true
  | .none, _ => rfl
  | .bool a, _ => by simp [like]
  | .int a, _ => by simp [like]
  | .str a, _ => by simp [like]
  | .list as, h => by unfold like; exact likes_refl as (by unfold dep at h; split at h <;> omega)
  | .tuple as, h => by unfold like; exact likes_refl as (by unfold dep at h; split at h <;> omega)
  | .dict _, h => by unfold dep at h; omega
theorem likes_refl : ∀ ds : List PyData, deps ds < 1000 → likes ds ds = true
  | [], _ => rfl
  | d :: ds, h => by
    unfold likes
    unfold deps at h
    rw [like_refl d (by omega), likes_refl ds (by omega)]
    rfl
end
theorem deps_le {ds : List PyData} {n : Nat} (h : deps ds ≤ n) : ∀ d ∈ ds, dep d ≤ n := by
  induction ds with
  | nil => intro d hd; cases hd
  | cons e es ih =>
    unfold deps at h
    intro d hd
    rcases List.mem_cons.mp hd with rfl | hd
    · omega
    · exact ih (by omega) d hd
theorem dep_lst {ds : List PyData} {n : Nat} (h : dep (.list ds) < n) (hn : n ≤ 1000) : ds.length ≤ 100000 ∧ deps ds < n - 1 := by
  unfold dep at h
  split at h
  · rename_i hl; exact ⟨hl, by omega⟩
  · omega
theorem dep_tup {ds : List PyData} {n : Nat} (h : dep (.tuple ds) < n) (hn : n ≤ 1000) : ds.length ≤ 100000 ∧ deps ds < n - 1 := by
  unfold dep at h
  split at h
  · rename_i hl; exact ⟨hl, by omega⟩
  · omega
theorem dep_lst_of {ds : List PyData} {n : Nat} (h1 : ds.length ≤ 100000) (h2 : deps ds < n) : dep (.list ds) < n + 1 := by
  unfold dep
  rw [if_pos h1]
  omega
theorem dep_tup_of {ds : List PyData} {n : Nat} (h1 : ds.length ≤ 100000) (h2 : deps ds < n) : dep (.tuple ds) < n + 1 := by
  unfold dep
  rw [if_pos h1]
  omega
theorem deps_lt {ds : List PyData} {n : Nat} (h : ∀ d ∈ ds, dep d < n) (h0 : 0 < n) : deps ds < n := by
  induction ds with
  | nil => exact h0
  | cons e es ih =>
    unfold deps
    have h1 := h e (by simp)
    have h2 := ih fun d hd => h d (by simp [hd])
    omega
theorem likes_len : ∀ {as bs : List PyData}, likes as bs = true → as.length = bs.length
  | [], [], _ => rfl
  | a :: as, b :: bs, h => by
    unfold likes at h
    rw [Bool.and_eq_true] at h
    simp [likes_len h.2]
  | [], _ :: _, h => by cases h
  | _ :: _, [], h => by cases h
/-- _law_like: of pure things, the due ones of depth n at most -/
def Flike (n : Nat) : FS := fun as Q => ∃ f d, as = [.dat f, .dat d] ∧ dep d < n ∧ dep f < 1000 ∧ Q (.bool (like f d))
def Fnum : FS := fun as Q => ∃ d, as = [.dat d] ∧ dep d < 1000 ∧ Q (.bool (match d with | .int _ => true | _ => false))
theorem lcF_yes {p : Pat} {we : WE} {ρ ρ' : Rho} {μ : Mem} {d : PyData} {R : Option PyData → Prop} (hb : bindP p d ρ = some ρ') (h : we ρ' μ (fun a => match a with | .dat e => R (some e) | _ => False)) : lcF p wYes we ρ μ d R := by
  unfold lcF
  rw [hb]
  exact h
theorem lcF_if {p : Pat} {wt : WT} {we : WE} {ρ ρ' : Rho} {μ : Mem} {d : PyData} {R : Option PyData → Prop} (hb : bindP p d ρ = some ρ') (h : wt ρ' μ fun b => if b = true then we ρ' μ (fun a => match a with | .dat e => R (some e) | _ => False) else R none) : lcF p wt we ρ μ d R := by
  unfold lcF
  rw [hb]
  exact h
/-- by the number -/
def onI (f : Nat → PyData) : PyData → PyData
  | .int i => f i.toNat
  | _ => .none
theorem map_onI (f : Nat → PyData) (n : Nat) : (rng 0 n).map (onI f) = (List.range n).map f := by
  unfold rng
  rw [List.map_map]
  refine List.map_congr_left fun i _ => ?_
  show f ((0 + (i : Int)).toNat) = f i
  rw [show (0 + (i : Int)).toNat = i by omega]
theorem mem_rng {n : Nat} {d : PyData} (h : d ∈ rng 0 n) : ∃ i : Nat, i < n ∧ d = .int (i : Nat) := by
  unfold rng at h
  obtain ⟨i, hi, rfl⟩ := List.mem_map.mp h
  exact ⟨i, List.mem_range.mp hi, by rw [show (0 : Int) + (i : Nat) = (i : Nat) by omega]⟩
@[simp] theorem rng_len {lo : Int} {n : Nat} : (rng lo n).length = n := by simp [rng]
/-- what a comprehension over i in range(n) makes by a plain function -/
theorem lcW_map {f : PyData → (Option PyData → Prop) → Prop} {g : PyData → PyData} {ds : List PyData} {Q : List PyData → Prop} (hf : ∀ d ∈ ds, ∀ R : Option PyData → Prop, R (some (g d)) → f d R) (h : Q (ds.map g)) : lcW f ds Q := by
  induction ds generalizing Q with
  | nil => exact h
  | cons d ds ih =>
    refine hf d (by simp) _ ?_
    exact ih (fun e he R => hf e (by simp [he]) R) h
/-- .. with a test -/
theorem lcW_fm {f : PyData → (Option PyData → Prop) → Prop} {g : PyData → Option PyData} {ds : List PyData} {Q : List PyData → Prop} (hf : ∀ d ∈ ds, ∀ R : Option PyData → Prop, R (g d) → f d R) (h : Q (ds.filterMap g)) : lcW f ds Q := by
  induction ds generalizing Q with
  | nil => exact h
  | cons d ds ih =>
    refine hf d (by simp) _ ?_
    refine ih (fun e he R => hf e (by simp [he]) R) ?_
    cases q : g d with
    | none => rw [List.filterMap_cons_none q] at h; exact h
    | some e => rw [List.filterMap_cons_some q] at h; exact h
/-- .. of some things of a kind -/
theorem lcW_all {f : PyData → (Option PyData → Prop) → Prop} {P : PyData → Prop} {ds : List PyData} {Q : List PyData → Prop} (hf : ∀ d ∈ ds, ∀ R : Option PyData → Prop, (∀ e, P e → R (some e)) → f d R) (h : ∀ es : List PyData, es.length = ds.length → (∀ e ∈ es, P e) → Q es) : lcW f ds Q := by
  induction ds generalizing Q with
  | nil => exact h [] rfl (by simp)
  | cons d ds ih =>
    refine hf d (by simp) _ fun e pe => ?_
    refine ih (fun e he R => hf e (by simp [he]) R) fun es hl ha => ?_
    refine h (e :: es) (by simp [hl]) fun z hz => ?_
    rcases List.mem_cons.mp hz with rfl | hz
    · exact pe
    · exact ha z hz
end Hv

set_option Elab.async false
set_option linter.all false
set_option maxRecDepth 100000
namespace Hv
open PySem PySem.Spec PyProof.Rows L2 Hod
/-! ### what surely evaluates to what -/
def Evs (w : WE) (ρ : Rho) (μ : Mem) (a : A) : Prop := ∀ Q : A → Prop, Q a → w ρ μ Q
def EvAs (w : WA) (ρ : Rho) (μ : Mem) (as : List A) : Prop := ∀ Q : List A → Prop, Q as → w ρ μ Q
def EvTs (w : WT) (ρ : Rho) (μ : Mem) (b : Bool) : Prop := ∀ Q : Bool → Prop, Q b → w ρ μ Q
def EvIs (w : WI) (ρ : Rho) (μ : Mem) (ds : List PyData) : Prop := ∀ Q : List PyData → Prop, Q ds → w ρ μ Q
def EvOs (w : WO) (ρ : Rho) (μ : Mem) (o : Option Int) : Prop := ∀ Q : Option Int → Prop, Q o → w ρ μ Q
section
variable {ρ : Rho} {μ : Mem} {w wa wb wc : WE} {a b : A} {i j : Int} {d e : PyData} {ds es : List PyData} {t u : WT} {k l : Bool}
theorem EvTs.eq (h : EvTs t ρ μ k) (e : k = l) : EvTs t ρ μ l := e ▸ h
theorem EvIs.eq {w : WI} (h : EvIs w ρ μ ds) (e : ds = es) : EvIs w ρ μ es := e ▸ h
theorem Evs.eq (h : Evs w ρ μ a) (e : a = b) : Evs w ρ μ b := e ▸ h
theorem ev_v {n : Nat} (h : ρ[n]? = some (some a) := by rfl) : Evs (wVar n) ρ μ a := fun Q q => by unfold wVar; rw [h]; exact q
theorem ev_k : Evs (wC d) ρ μ (.dat d) := fun Q q => q
theorem ev_ty {n : String} : Evs (wTy n) ρ μ (.ty n) := fun Q q => q
theorem ev_I {f : Int → Int → PyData} (h1 : Evs wa ρ μ (.dat (.int i))) (h2 : Evs wb ρ μ (.dat (.int j))) : Evs (wOp (gI f) wa wb) ρ μ (.dat (f i j)) := fun Q q => h1 _ (h2 _ q)
theorem ev_C {C : Int → Int → Prop} {f : Int → Int → PyData} (h1 : Evs wa ρ μ (.dat (.int i))) (h2 : Evs wb ρ μ (.dat (.int j))) (c : C i j) : Evs (wOp (gC C f) wa wb) ρ μ (.dat (f i j)) := fun Q q => h1 _ (h2 _ ⟨c, q⟩)
theorem ev_neg (h1 : Evs wa ρ μ (.dat (.int i))) : Evs (wUn (fun i => -i) wa) ρ μ (.dat (.int (-i))) := fun Q q => h1 _ q
theorem ev_eq (h1 : Evs wa ρ μ (.dat d)) (h2 : Evs wb ρ μ (.dat e)) (h : eqF d e = some k) : Evs (wOp gEq wa wb) ρ μ (.dat (.bool k)) := fun Q q => h1 _ (h2 _ (by show (match eqF d e with | some k => _ | none => False); rw [h]; exact q))
theorem ev_ne (h1 : Evs wa ρ μ (.dat d)) (h2 : Evs wb ρ μ (.dat e)) (h : eqF d e = some k) : Evs (wOp gNe wa wb) ρ μ (.dat (.bool (!k))) := fun Q q => h1 _ (h2 _ (by show (match eqF d e with | some k => _ | none => False); rw [h]; exact q))
theorem ev_eqI (h1 : Evs wa ρ μ (.dat (.int i))) (h2 : Evs wb ρ μ (.dat (.int j))) : Evs (wOp gEq wa wb) ρ μ (.dat (.bool (decide (i = j)))) := ev_eq h1 h2 rfl
theorem ev_neI (h1 : Evs wa ρ μ (.dat (.int i))) (h2 : Evs wb ρ μ (.dat (.int j))) : Evs (wOp gNe wa wb) ρ μ (.dat (.bool (!decide (i = j)))) := ev_ne h1 h2 rfl
theorem ev_eqD (h1 : Evs wa ρ μ a) (h2 : Evs wb ρ μ b) (r1 : rsv μ a = some d) (r2 : rsv μ b = some e) (s1 : SeqAt.shaped d = true) (s2 : SeqAt.shaped e = true) : Evs (wOp gEqD wa wb) ρ μ (.dat (.bool (PyData.eqv d e))) := fun Q q => h1 _ (h2 _ ⟨d, e, r1, r2, s1, s2, q⟩)
theorem ev_neD (h1 : Evs wa ρ μ a) (h2 : Evs wb ρ μ b) (r1 : rsv μ a = some d) (r2 : rsv μ b = some e) (s1 : SeqAt.shaped d = true) (s2 : SeqAt.shaped e = true) : Evs (wOp gNeD wa wb) ρ μ (.dat (.bool (!PyData.eqv d e))) := fun Q q => h1 _ (h2 _ ⟨d, e, r1, r2, s1, s2, q⟩)
theorem ev_isN (h1 : Evs wa ρ μ a) : Evs (wOp gIsN wa (wC .none)) ρ μ (.dat (.bool (isNoneA a))) := fun Q q => h1 _ q
theorem ev_notN (h1 : Evs wa ρ μ a) : Evs (wOp gNotN wa (wC .none)) ρ μ (.dat (.bool (!isNoneA a))) := fun Q q => h1 _ q
theorem ev_ixL (h1 : Evs wa ρ μ (.dat (.list ds))) (h2 : Evs wb ρ μ (.dat (.int i))) (h : atI ds i = some d) : Evs (wOp gIx wa wb) ρ μ (.dat d) := fun Q q => h1 _ (h2 _ (by show (match atI ds i with | some d => _ | none => False); rw [h]; exact q))
theorem ev_ixT (h1 : Evs wa ρ μ (.dat (.tuple ds))) (h2 : Evs wb ρ μ (.dat (.int i))) (h : atI ds i = some d) : Evs (wOp gIx wa wb) ρ μ (.dat d) := fun Q q => h1 _ (h2 _ (by show (match atI ds i with | some d => _ | none => False); rw [h]; exact q))
theorem ev_ixO {p : Addr} {xs : List A} (h1 : Evs wa ρ μ (.own p)) (h2 : Evs wb ρ μ (.dat (.int i))) (hp : μ p = some xs) (h : atI xs i = some a) : Evs (wOp gIx wa wb) ρ μ a := fun Q q => h1 _ (h2 _ (by show (match μ p with | some xs => (match atI xs i with | some d => _ | none => False) | none => False); rw [hp]; show (match atI xs i with | some d => _ | none => False); rw [h]; exact q))
theorem ev_in {neg : Bool} (h1 : Evs wa ρ μ (.dat d)) (h2 : Evs wb ρ μ b) (h : seqA μ b = some ds) (f1 : flatD d = true) (f2 : ds.all flatD = true) : Evs (wOp (gIn neg) wa wb) ρ μ (.dat (.bool (if neg then !(ds.any fun z => PyData.eqv z d) else ds.any fun z => PyData.eqv z d))) :=
  fun Q q => h1 _ (h2 _ (by show (match seqA μ b with | some ds => _ | none => False); rw [h]; exact ⟨f1, f2, q⟩))
theorem ev_cat (h1 : Evs wa ρ μ (.dat (.list ds))) (h2 : Evs wb ρ μ (.dat (.list es))) (h : ds.length + es.length ≤ 1000000) : Evs (wOp gCat wa wb) ρ μ (.dat (.list (ds ++ es))) := fun Q q => h1 _ (h2 _ ⟨h, q⟩)
theorem ev_and (h1 : Evs wa ρ μ (.dat (.bool k))) (h2 : k = true → Evs wb ρ μ (.dat (.bool l))) : Evs (wAndE wa wb) ρ μ (.dat (.bool (k && l))) := fun Q q => h1 _ (by
  cases k with
  | true => exact h2 rfl _ q
  | false => exact q)
theorem ev_or (h1 : Evs wa ρ μ (.dat (.bool k))) (h2 : k = false → Evs wb ρ μ (.dat (.bool l))) : Evs (wOrE wa wb) ρ μ (.dat (.bool (k || l))) := fun Q q => h1 _ (by
  cases k with
  | false => exact h2 rfl _ q
  | true => exact q)
theorem ev_not (h1 : Evs wa ρ μ (.dat (.bool k))) : Evs (wNotE wa) ρ μ (.dat (.bool (!k))) := fun Q q => h1 _ q
theorem ev_if (h : EvTs t ρ μ k) (h1 : k = true → Evs wa ρ μ a) (h2 : k = false → Evs wb ρ μ a) : Evs (wIf t wa wb) ρ μ a := fun Q q => h _ (by
  cases k with
  | true => exact h1 rfl _ q
  | false => exact h2 rfl _ q)
theorem ev_chain {f g : Int → Int → Bool} {m : Int} (h1 : Evs wa ρ μ (.dat (.int i))) (h2 : Evs wb ρ μ (.dat (.int j))) (h3 : f i j = true → Evs wc ρ μ (.dat (.int m))) : Evs (wChain (gI fun i j => .bool (f i j)) (gI fun i j => .bool (g i j)) wa wb wc) ρ μ (.dat (.bool (f i j && g j m))) := fun Q q => h1 _ (h2 _ (by
  show (match A.dat (.bool (f i j)) with | .dat (.bool true) => wc ρ μ fun c => gI (fun i j => .bool (g i j)) μ (.dat (.int j)) c Q | .dat (.bool false) => Q (.dat (.bool false)) | _ => False)
  cases e : f i j with
  | true => rw [e] at q; exact h3 e _ q
  | false => rw [e] at q; exact q))
theorem et_B (h : Evs w ρ μ (.dat (.bool k))) : EvTs (wB w) ρ μ k := fun Q q => h _ q
theorem et_and (h1 : EvTs t ρ μ k) (h2 : k = true → EvTs u ρ μ l) : EvTs (wAndT t u) ρ μ (k && l) := fun Q q => h1 _ (by
  cases k with
  | true => exact h2 rfl _ q
  | false => exact q)
theorem et_or (h1 : EvTs t ρ μ k) (h2 : k = false → EvTs u ρ μ l) : EvTs (wOrT t u) ρ μ (k || l) := fun Q q => h1 _ (by
  cases k with
  | false => exact h2 rfl _ q
  | true => exact q)
theorem et_not (h1 : EvTs t ρ μ k) : EvTs (wNotT t) ρ μ (!k) := fun Q q => h1 _ q
theorem et_tru (h : Evs w ρ μ a) (hk : truA μ a = some k) : EvTs (wTru w) ρ μ k := fun Q q => h _ (by show (match truA μ a with | some k => Q k | none => False); rw [hk]; exact q)
theorem ea_nil : EvAs waNil ρ μ [] := fun Q q => q
theorem ea_cons {v : WA} {as : List A} (h1 : Evs w ρ μ a) (h2 : EvAs v ρ μ as) : EvAs (waCons w v) ρ μ (a :: as) := fun Q q => h1 _ (h2 _ q)
theorem ev_tup {v : WA} {as : List A} (h : EvAs v ρ μ as) (hd : dats as = some ds := by rfl) (hl : as.length ≤ 1000 := by exact Nat.le_of_ble_eq_true rfl) : Evs (wTup v) ρ μ (.dat (.tuple ds)) := fun Q q => h _ (by show (match dats as with | some ds => _ | none => False); rw [hd]; exact ⟨hl, q⟩)
theorem ev_lst {v : WA} {as : List A} (h : EvAs v ρ μ as) (hd : dats as = some ds := by rfl) (hl : as.length ≤ 1000 := by exact Nat.le_of_ble_eq_true rfl) : Evs (wLst v) ρ μ (.dat (.list ds)) := fun Q q => h _ (by show (match dats as with | some ds => _ | none => False); rw [hd]; exact ⟨hl, q⟩)
theorem ev_len {n : Nat} (h : Evs w ρ μ a) (hn : lenA μ a = some n) : Evs (wCB gLen (waCons w waNil)) ρ μ (.dat (.int n)) := fun Q q => h _ (by show (match lenA μ a with | some n => _ | none => False); rw [hn]; exact q)
theorem ev_list (h : Evs w ρ μ a) (hn : seqA μ a = some ds) : Evs (wCB gList (waCons w waNil)) ρ μ (.dat (.list ds)) := fun Q q => h _ (by show (match seqA μ a with | some n => _ | none => False); rw [hn]; exact q)
theorem ev_tuple (h : Evs w ρ μ a) (hn : seqA μ a = some ds) : Evs (wCB gTuple (waCons w waNil)) ρ μ (.dat (.tuple ds)) := fun Q q => h _ (by show (match seqA μ a with | some n => _ | none => False); rw [hn]; exact q)
theorem ev_all {bs : List Bool} (h : Evs w ρ μ (.dat (.list (bs.map PyData.bool)))) : Evs (wCB gAll (waCons w waNil)) ρ μ (.dat (.bool (bs.all id))) := fun Q q => h _ (by show (match boolsD (bs.map PyData.bool) with | some bs => Q (.dat (.bool (bs.all id))) | none => False); rw [bools_map]; exact q)
theorem ev_sum {bs : List Int} (h : Evs w ρ μ (.dat (.list (bs.map PyData.int)))) : Evs (wCB gSum (waCons w waNil)) ρ μ (.dat (.int bs.sum)) := fun Q q => h _ (by show (match intsD (bs.map PyData.int) with | some bs => Q (.dat (.int bs.sum)) | none => False); rw [ints_map]; exact q)
theorem ev_min (h1 : Evs wa ρ μ (.dat (.int i))) (h2 : Evs wb ρ μ (.dat (.int j))) : Evs (wCB gMin2 (waCons wa (waCons wb waNil))) ρ μ (.dat (.int (if j < i then j else i))) := fun Q q => h1 _ (h2 _ q)
theorem ev_max (h1 : Evs wa ρ μ (.dat (.int i))) (h2 : Evs wb ρ μ (.dat (.int j))) : Evs (wCB gMax2 (waCons wa (waCons wb waNil))) ρ μ (.dat (.int (if j > i then j else i))) := fun Q q => h1 _ (h2 _ q)
theorem x_call {F : FS} {v : WA} {as : List A} {Q : A → Prop} (h : EvAs v ρ μ as) (hF : F as fun d => Q (.dat d)) (hn : noOwn as = true := by rfl) : wCall F v ρ μ Q := h _ (by show wF F μ as Q; unfold wF; rw [if_pos hn]; exact hF)
/-- a call that is given lists of one's own: its answer is a flat thing -/
theorem x_callO {F : FS} {v : WA} {as bs : List A} {Q : A → Prop} (h : EvAs v ρ μ as) (hr : rsvs μ as = some bs) (hF : F bs fun d => flatD d = true ∧ Q (.dat d)) (hn : noOwn as = false := by rfl) : wCall F v ρ μ Q := h _ (by show wF F μ as Q; unfold wF; rw [hn, if_neg (by decide), hr]; exact hF)
theorem ev_call {F : FS} {v : WA} {as : List A} (h : EvAs v ρ μ as) (hF : ∀ Q : PyData → Prop, Q d → F as Q) (hn : noOwn as = true := by rfl) : Evs (wCall F v) ρ μ (.dat d) := fun Q q => x_call h (hF _ q) hn
theorem ev_callO {F : FS} {v : WA} {as bs : List A} (h : EvAs v ρ μ as) (hr : rsvs μ as = some bs) (hF : ∀ Q : PyData → Prop, Q d → F bs Q) (hd : flatD d = true) (hn : noOwn as = false := by rfl) : Evs (wCall F v) ρ μ (.dat d) := fun Q q => x_callO h hr (hF _ ⟨hd, q⟩) hn
theorem ei_T (h : Evs w ρ μ (.dat (.tuple ds))) : EvIs (wiT w) ρ μ ds := fun Q q => h _ q
theorem ei_L (h : Evs w ρ μ (.dat (.list ds))) : EvIs (wiL w) ρ μ ds := fun Q q => h _ q
theorem ei_R1 (h : Evs w ρ μ (.dat (.int i))) (h1 : -1000000 ≤ i) (h2 : i ≤ 1000000) : EvIs (wiR1 (waCons w waNil)) ρ μ (rng 0 i.toNat) := fun Q q => h _ ⟨⟨by omega, by omega⟩, q⟩
theorem ei_R2 (h : Evs wa ρ μ (.dat (.int i))) (h' : Evs wb ρ μ (.dat (.int j))) (h1 : -1000000 ≤ i ∧ i ≤ 1000000) (h2 : -1000000 ≤ j ∧ j ≤ 1000000) : EvIs (wiR2 (waCons wa (waCons wb waNil))) ρ μ (rng i (j - i).toNat) := fun Q q => h _ (h' _ ⟨⟨by omega, by omega, by omega, by omega⟩, q⟩)
theorem ei_E (h : Evs w ρ μ (.dat (.list ds))) : EvIs (wiE (waCons w waNil)) ρ μ (enumD ds) := fun Q q => h _ q
theorem ei_ET (h : Evs w ρ μ (.dat (.tuple ds))) : EvIs (wiET (waCons w waNil)) ρ μ (enumD ds) := fun Q q => h _ q
theorem eo_n : EvOs woNone ρ μ none := fun Q q => q
theorem eo_s (h : Evs w ρ μ (.dat (.int i))) : EvOs (woSome w) ρ μ (some i) := fun Q q => h _ q
theorem ev_slL {wl wh : WO} {lo hi : Option Int} (h : Evs w ρ μ (.dat (.list ds))) (h1 : EvOs wl ρ μ lo) (h2 : EvOs wh ρ μ hi) : Evs (wSlL w wl wh) ρ μ (.dat (.list (cutD ds lo hi))) := fun Q q => h _ (h1 _ (h2 _ q))
theorem ev_slT {wl wh : WO} {lo hi : Option Int} (h : Evs w ρ μ (.dat (.tuple ds))) (h1 : EvOs wl ρ μ lo) (h2 : EvOs wh ρ μ hi) (hn : ¬ (HT.sIx ds.length 0 lo = 0 ∧ HT.sIx ds.length ds.length hi = ds.length)) : Evs (wSlT w wl wh) ρ μ (.dat (.tuple (cutD ds lo hi))) := fun Q q => h _ (h1 _ (h2 _ ⟨hn, q⟩))
/-- a comprehension of a plain function -/
theorem ev_lcm {wi : WI} {p : Pat} {we : WE} {vs : List Nat} {g : PyData → PyData} (hi : EvIs wi ρ μ ds) (hl : ds.length ≤ 1000000) (h : ∀ d ∈ ds, ∃ ρ', bindP p d (wipeA ρ vs) = some ρ' ∧ Evs we ρ' μ (.dat (g d))) : Evs (wLc wi p wYes we vs) ρ μ (.dat (.list (ds.map g))) :=
  fun Q q => hi _ ⟨hl, lcW_map (g := g) (fun d hd R r => by obtain ⟨ρ', h1, h2⟩ := h d hd; exact lcF_yes h1 (h2 _ r)) q⟩
theorem ev_lcf {wi : WI} {p : Pat} {wt : WT} {we : WE} {vs : List Nat} {g : PyData → Option PyData} (hi : EvIs wi ρ μ ds) (hl : ds.length ≤ 1000000) (h : ∀ d ∈ ds, ∃ ρ', bindP p d (wipeA ρ vs) = some ρ' ∧ ((∃ e, g d = some e ∧ EvTs wt ρ' μ true ∧ Evs we ρ' μ (.dat e)) ∨ (g d = none ∧ EvTs wt ρ' μ false))) : Evs (wLc wi p wt we vs) ρ μ (.dat (.list (ds.filterMap g))) :=
  fun Q q => hi _ ⟨hl, lcW_fm (g := g) (fun d hd R r => by
    obtain ⟨ρ', h1, h2⟩ := h d hd
    rcases h2 with ⟨e, h2, h3, h4⟩ | ⟨h2, h3⟩
    · rw [h2] at r; exact lcF_if h1 (h3 _ (h4 _ r))
    · rw [h2] at r; exact lcF_if h1 (h3 _ r)) q⟩
/-- things of a kind, whatever was drawn -/
theorem x_lca {wi : WI} {p : Pat} {we : WE} {vs : List Nat} {P : PyData → Prop} {Q : A → Prop} (hi : EvIs wi ρ μ ds) (hl : ds.length ≤ 1000000) (h : ∀ d ∈ ds, ∃ ρ', bindP p d (wipeA ρ vs) = some ρ' ∧ ∀ R : A → Prop, (∀ e, P e → R (.dat e)) → we ρ' μ R) (q : ∀ es : List PyData, es.length = ds.length → (∀ e ∈ es, P e) → Q (.dat (.list es))) : wLc wi p wYes we vs ρ μ Q :=
  hi _ ⟨hl, lcW_all (P := P) (fun d hd R r => by obtain ⟨ρ', h1, h2⟩ := h d hd; exact lcF_yes h1 (h2 _ r)) q⟩
/-! ### statements -/
variable {E : Ends2} {W W2 : WS}
theorem x_set {n : Nat} (h : Evs w ρ μ a) (q : E.nx (ρ.set n (some a)) μ) : wSet n w E ρ μ := h _ q
theorem x_if (h : EvTs t ρ μ k) (h1 : k = true → W E ρ μ) (h2 : k = false → W2 E ρ μ) : wIfS t W W2 E ρ μ := h _ (by
  cases k with
  | true => exact h1 rfl
  | false => exact h2 rfl)
theorem x_ret (h : Evs w ρ μ a) (q : retA E μ a) : wRet w E ρ μ := h _ q
theorem x_retF (h : Evs w ρ μ (.dat d)) (q : E.rt d) : wRetF w E ρ μ := h _ q
theorem x_own {n : Nat} (h : Evs w ρ μ (.dat (.list ds))) (hn : nols ds = true) (q : ∀ p, μ p = none → E.nx (ρ.set n (some (.own p))) (put μ p (ds.map .dat))) : wOwn n w E ρ μ := h _ ⟨hn, q⟩
theorem x_app {p : Addr} {xs : List A} (h : Evs wa ρ μ (.own p)) (hp : μ p = some xs) (h2 : Evs wb ρ μ a) (hl : xs.length < 1000000) (q : E.nx ρ (put μ p (xs ++ [a]))) : wApp wa wb E ρ μ := h _ (by
  have e : cel μ (.own p) = some (p, xs) := by unfold cel; dsimp only; rw [hp]
  show (match cel μ (.own p) with | some (p, xs) => _ | none => False)
  rw [e]
  exact h2 _ ⟨hl, q⟩)
/-- a for by what holds between its turns -/
theorem x_for {wi : WI} {p : Pat} (I : Nat → Rho → Mem → Prop) (hi : EvIs wi ρ μ ds) (h0 : I 0 ρ μ) (hs : ∀ n d ρ μ (N : Rho → Mem → Prop), ds[n]? = some d → I n ρ μ → (∀ ρ μ, I (n + 1) ρ μ → N ρ μ) → ∃ ρ', bindP p d ρ = some ρ' ∧ W { E with nx := N, ct := N, bk := E.nx } ρ' μ) (hd : ∀ ρ μ, I ds.length ρ μ → E.nx ρ μ) : wFor wi p W E ρ μ := by
  refine hi _ ?_
  have gen : ∀ (es : List PyData) (n : Nat) (ρ : Rho) (μ : Mem), ds.drop n = es → I n ρ μ → n ≤ ds.length → forW p W es E ρ μ := by
    intro es
    induction es with
    | nil =>
      intro n ρ μ h hI hn
      have : n = ds.length := by
        have := congrArg List.length h
        simp at this
        omega
      subst this
      exact hd ρ μ hI
    | cons d es ih =>
      intro n ρ μ h hI hn
      have hlt : n < ds.length := by
        have := congrArg List.length h
        simp at this
        omega
      have e1 : ds[n]? = some d := by
        rw [List.drop_eq_getElem_cons hlt] at h
        rw [List.getElem?_eq_getElem hlt, (List.cons.inj h).1]
      have e2 : ds.drop (n + 1) = es := by
        rw [List.drop_eq_getElem_cons hlt] at h
        exact (List.cons.inj h).2
      obtain ⟨ρ', h1, h2⟩ := hs n d ρ μ (fun ρ μ => forW p W es E ρ μ) e1 hI (fun ρ μ q => ih (n + 1) ρ μ e2 q hlt)
      unfold forW
      rw [h1]
      exact h2
  exact gen ds 0 ρ μ rfl h0 (Nat.zero_le _)
end
end Hv

set_option Elab.async false
set_option linter.all false
set_option maxRecDepth 100000
namespace Hv
open PySem PySem.Spec PyProof.Rows L2 Hod
def spLaw (K : PySem.W.Frag) : Sp := fun vs H Q _ => ∃ (a : Addr) (ns : List Int), vs = [.ref a] ∧ SqL K H a (ns.map V.int) ∧ ns.length ≤ 63 ∧ ∀ H', Q (.bl true) H'
def lawE : Ends2 := { nx := fun _ _ => False, rt := fun d => d = .bool true }
/-- behind draw = open(script): the rest by values -/
theorem law_startT {K : PySem.W.Frag} {i n : Nat} {W : WS} {D : Ends} {H : Hp} {a : Addr} {ns : List Int} {E : XK} (tb : Addr → Bool) (ht : ∀ b, tb b = true → LamX.TabS H b lamQ) (hi : i < n) (hS : SqL K H a (ns.map V.int)) (hl : ns.length ≤ 63) (hrt : ∀ H', D.rt (.bl true) H')
    (hw : W lawE ((List.replicate (n + 1) none).set (i + 1) (some .drw)) emp) : tSeq (tAsg (tCall (spOpen K) [] E (tCons (tVar 0) tNil)) (gName (i + 1))) (LS K xl0 W) D (some (.ref a) :: List.replicate n none) H := by
  refine ⟨.ref a, rfl, a, ns, rfl, hS, hl, fun d c H2 sm nd nc dc => ?_⟩
  obtain ⟨j, big, seed, h1, h2, h3⟩ := dc
  have ncd : c ≠ d := cell_ne h1 h2
  have ht2 : ∀ b, tb b = true → LamX.TabS H2 b lamQ := fun b hb => (ht b hb).ext sm
  have ntc : ∀ b xs, H2 b = some (.lst xs) → tb b = false := fun b xs hb => by
    cases q : tb b with
    | false => rfl
    | true =>
      obtain ⟨ps, e, _⟩ := ht2 b q
      rw [hb] at e
      cases e
  have vis : ∀ b, b ≠ d → tb b = false → off (fun x => decide (x = d) || tb x) emp H2 b = H2 b := fun b hb hc => off_of (by simp [hb, hc]) rfl
  refine ⟨⟨fun x => decide (x = d), tb, fun _ => lamQ⟩, fun x => decide (x = d) || tb x, H2, off (fun x => decide (x = d) || tb x) emp H2, _, emp, lawE, .of ⟨fun b hb => ?_, fun b hb => ⟨by simp [show tb b = true from hb], ht2 b hb⟩, fun b hb => ?_, fun b xs q => nomatch q⟩ ?_ .refl (fun _ _ => rfl) (Same.refl _) (fun _ _ _ _ _ => trivial), hw, ⟨?_, ?_, ?_, ?_, fun _ _ _ _ _ _ _ q => q.elim⟩⟩
  · have e : b = d := of_decide_eq_true hb
    subst e
    exact ⟨by simp, c, ns, j, big, seed, h1, by rw [vis c ncd (ntc c _ h2)]; exact h2, h3⟩
  · have hb : (decide (b = d) || tb b) = true := hb
    rcases Bool.or_eq_true_iff.mp hb with e | e
    · have e : b = d := of_decide_eq_true e
      rw [e, h1]
      exact fun z => nomatch z
    · obtain ⟨ps, e2, _⟩ := ht2 b e
      rw [e2]
      exact fun z => nomatch z
  · have base : Sls K ⟨fun x => decide (x = d), tb, fun _ => lamQ⟩ emp (off (fun x => decide (x = d) || tb x) emp H2) (some (.ref a) :: List.replicate n none) (List.replicate (n + 1) none) := by
      rw [List.replicate_succ]
      refine .any ?_
      have q := Sls.start (K := K) (S := ⟨fun x => decide (x = d), tb, fun _ => lamQ⟩) (μ := emp) (G := off (fun x => decide (x = d) || tb x) emp H2) (as := []) (vs := []) n .nil
      simpa using q
    exact base.set (i + 1) (.drw (decide_eq_true rfl))
  · exact fun _ _ _ _ _ q => q.elim
  · exact fun _ _ _ _ _ q => q.elim
  · exact fun _ _ _ _ _ q => q.elim
  · intro v H' dd _ _ r _ q
    have q : dd = .bool true := q
    subst q
    cases r
    exact hrt H'
theorem law_start {K : PySem.W.Frag} {i n : Nat} {W : WS} {D : Ends} {H : Hp} {a : Addr} {ns : List Int} {E : XK} (hi : i < n) (hS : SqL K H a (ns.map V.int)) (hl : ns.length ≤ 63) (hrt : ∀ H', D.rt (.bl true) H')
    (hw : W lawE ((List.replicate (n + 1) none).set (i + 1) (some .drw)) emp) : tSeq (tAsg (tCall (spOpen K) [] E (tCons (tVar 0) tNil)) (gName (i + 1))) (LS K xl0 W) D (some (.ref a) :: List.replicate n none) H := law_startT (fun _ => false) (fun _ h => nomatch h) hi hS hl hrt hw
theorem raw_mk {K : PySem.W.Frag} {h : Heap} {mg : Str → Option Value} {x : Str} {st : Stmt} {ps : List Str} {f : Addr} {oc : Value} {od an : Option Addr} {osl : Array (Option Value)} {kV doc pm cdv ct : Value} (X : K.In h) (G : h.Ns mainGlobals mg)
    (a : PySem.W.nsIn K mainGlobals x = some (some (.ref f))) (l : K.lookup f = some ⟨oc, od, .func (PySem.W.fnOf x x (defArgs st) (defBody st) (defScope st) .none kV doc pm an cdv ct), osl⟩) (c : PySem.W.codeIn K cdv x = true) (k : PySem.W.keepIn K (.ref f) = true)
    (hb : ∀ (kV doc pm : Value) (an : Option Addr) (cdv ct : Value) (us : List Value), us.length = ps.length → bindArgs (PySem.W.fnOf x x (defArgs st) (defBody st) (defScope st) .none kV doc pm an cdv ct) ⟨us, []⟩ = pure (ps.zip us)) :
    Raw K mg x st ps f (PySem.W.fnOf x x (defArgs st) (defBody st) (defScope st) .none kV doc pm an cdv ct) := by
  have F := fun_mk (st := st) l c k
  exact ⟨F, PySem.W.mg_of X G a, F.binds hb⟩
/-! ### comprehensions over numbers, over what is counted -/
section
variable {ρ : Rho} {μ : Mem} {n : Nat} {wi : WI} {p : Pat} {wt : WT} {we : WE} {vs : List Nat}
theorem ev_lcr {g : Nat → PyData} (hi : EvIs wi ρ μ (rng 0 n)) (hl : n ≤ 1000000) (h : ∀ i : Nat, i < n → ∃ ρ', bindP p (.int i) (wipeA ρ vs) = some ρ' ∧ Evs we ρ' μ (.dat (g i))) : Evs (wLc wi p wYes we vs) ρ μ (.dat (.list ((List.range n).map g))) := by
  rw [← map_onI]
  refine ev_lcm hi (by simpa using hl) fun d hd => ?_
  obtain ⟨i, hn, rfl⟩ := mem_rng hd
  exact h i hn
theorem ev_lcrf {g : Nat → Option PyData} (hi : EvIs wi ρ μ (rng 0 n)) (hl : n ≤ 1000000) (h : ∀ i : Nat, i < n → ∃ ρ', bindP p (.int i) (wipeA ρ vs) = some ρ' ∧ ((∃ e, g i = some e ∧ EvTs wt ρ' μ true ∧ Evs we ρ' μ (.dat e)) ∨ (g i = none ∧ EvTs wt ρ' μ false))) : Evs (wLc wi p wt we vs) ρ μ (.dat (.list ((List.range n).filterMap g))) := by
  have e : (List.range n).filterMap g = (rng 0 n).filterMap fun d => match d with | .int i => g i.toNat | _ => none := by
    unfold rng
    rw [List.filterMap_map]
    refine congrArg (fun f => List.filterMap f (List.range n)) (funext fun i => ?_)
    show g i = g ((0 + (i : Int)).toNat)
    rw [show (0 + (i : Int)).toNat = i by omega]
  rw [e]
  refine ev_lcf hi (by simpa using hl) fun d hd => ?_
  obtain ⟨i, hn, rfl⟩ := mem_rng hd
  exact h i hn
theorem enumD_eq (ds : List PyData) : enumD ds = (List.range ds.length).map fun i => .tuple [.int (i : Nat), ds.getD i .none] := by
  refine List.ext_getElem? fun i => ?_
  by_cases hi : i < ds.length
  · rw [enumD_at (d := ds[i]) (by simp [hi])]
    simp [hi, List.getD]
  · rw [List.getElem?_eq_none (by simp [enumD]; omega), List.getElem?_eq_none (by simp; omega)]
theorem ev_lcef {g : Nat → Option PyData} {ds : List PyData} (hi : EvIs wi ρ μ (enumD ds)) (hl : ds.length ≤ 1000000) (h : ∀ i : Nat, i < ds.length → ∃ ρ', bindP p (.tuple [.int i, ds.getD i .none]) (wipeA ρ vs) = some ρ' ∧ ((∃ e, g i = some e ∧ EvTs wt ρ' μ true ∧ Evs we ρ' μ (.dat e)) ∨ (g i = none ∧ EvTs wt ρ' μ false))) : Evs (wLc wi p wt we vs) ρ μ (.dat (.list ((List.range ds.length).filterMap g))) := by
  have e : (List.range ds.length).filterMap g = (enumD ds).filterMap fun d => match d with | .tuple (.int i :: _) => g i.toNat | _ => none := by
    rw [enumD_eq, List.filterMap_map]
    rfl
  rw [e]
  refine ev_lcf hi (by simpa [enumD] using hl) fun d hd => ?_
  rw [enumD_eq] at hd
  obtain ⟨i, hn, rfl⟩ := List.mem_map.mp hd
  exact h i (List.mem_range.mp hn)
theorem ev_lce {g : Nat → PyData} {ds : List PyData} (hi : EvIs wi ρ μ (enumD ds)) (hl : ds.length ≤ 1000000) (h : ∀ i : Nat, i < ds.length → ∃ ρ', bindP p (.tuple [.int i, ds.getD i .none]) (wipeA ρ vs) = some ρ' ∧ Evs we ρ' μ (.dat (g i))) : Evs (wLc wi p wYes we vs) ρ μ (.dat (.list ((List.range ds.length).map g))) := by
  have e : (List.range ds.length).map g = (enumD ds).map fun d => match d with | .tuple (.int i :: _) => g i.toNat | _ => .none := by
    rw [enumD_eq, List.map_map]
    rfl
  rw [e]
  refine ev_lcm hi (by simpa [enumD] using hl) fun d hd => ?_
  rw [enumD_eq] at hd
  obtain ⟨i, hn, rfl⟩ := List.mem_map.mp hd
  exact h i (List.mem_range.mp hn)
theorem at_nat {ds : List PyData} {i : Nat} {d : PyData} (h : ds[i]? = some d) : atI ds (i : Int) = some d := atI_nat (j := i) h
theorem at_natA {ds : List A} {i : Nat} {d : A} (h : ds[i]? = some d) : atI ds (i : Int) = some d := atI_nat (j := i) h
theorem at_int {ds : List PyData} {i : Int} {d : PyData} (h0 : 0 ≤ i) (h : ds[i.toNat]? = some d) : atI ds i = some d := by
  have e : ((i.toNat : Nat) : Int) = i := by omega
  rw [← e]
  exact atI_nat (j := i.toNat) h
end
/-! ### a step at a time -/
section
variable {ρ : Rho} {μ : Mem} {w wa wb : WE} {u : WA} {Q : A → Prop} {E : Ends2} {W W2 : WS} {n : Nat}
theorem x_seq (h : W { E with nx := fun ρ μ => W2 E ρ μ } ρ μ) : wSeq W W2 E ρ μ := h
theorem x_setN (h : w ρ μ fun a => E.nx (ρ.set n (some a)) μ) : wSet n w E ρ μ := h
theorem x_lc {wi : WI} {p : Pat} {wt : WT} {we : WE} {vs : List Nat} (h : wi ρ μ fun ds => ds.length ≤ 1000000 ∧ lcW (lcF p wt we (wipeA ρ vs) μ) ds fun es => Q (.dat (.list es))) : wLc wi p wt we vs ρ μ Q := h
theorem x_r1 {R : List PyData → Prop} (h : u ρ μ fun as => match as with | [.dat (.int n)] => (-(2 ^ 62) ≤ n ∧ n < 2 ^ 62) ∧ R (rng 0 n.toNat) | _ => False) : wiR1 u ρ μ R := h
theorem x_ac {R : List A → Prop} (h : w ρ μ fun a => u ρ μ fun as => R (a :: as)) : waCons w u ρ μ R := h
theorem x_an {R : List A → Prop} (h : R []) : waNil ρ μ R := h
theorem x_tup (h : u ρ μ fun as => match dats as with | some ds => as.length ≤ 1000 ∧ Q (.dat (.tuple ds)) | none => False) : wTup u ρ μ Q := h
theorem x_lst (h : u ρ μ fun as => match dats as with | some ds => as.length ≤ 1000 ∧ Q (.dat (.list ds)) | none => False) : wLst u ρ μ Q := h
theorem x_cb {g : GC} (h : u ρ μ fun as => g μ as Q) : wCB g u ρ μ Q := h
theorem x_retN (h : w ρ μ fun a => retA E μ a) : wRet w E ρ μ := h
theorem x_retFN (h : w ρ μ fun a => match a with | .dat d => E.rt d | _ => False) : wRetF w E ρ μ := h
theorem x_ifN {t : WT} (h : t ρ μ fun b => if b = true then W E ρ μ else W2 E ρ μ) : wIfS t W W2 E ρ μ := h
theorem x_opN {g : G2} (h : wa ρ μ fun a => wb ρ μ fun b => g μ a b Q) : wOp g wa wb ρ μ Q := h
theorem x_B {R : Bool → Prop} (h : w ρ μ fun a => match a with | .dat (.bool b) => R b | _ => False) : wB w ρ μ R := h
theorem x_ifE {t : WT} (h : t ρ μ fun b => if b = true then wa ρ μ Q else wb ρ μ Q) : wIf t wa wb ρ μ Q := h
end
/-! ### draws, operands one after another -/
section
variable {ρ : Rho} {μ : Mem} {w wa wb : WE} {a b : A} {n : Int} {Q : A → Prop} {E : Ends2}
theorem x_pull {i : Nat} (k : ∀ r : Int, 0 ≤ r → r < n → Q (.dat (.int r))) (h0 : 0 < n := by omega) (h1 : n < 1073741824 := by omega) (hw : Evs w ρ μ (.dat (.int n)) := by exact ev_k) (hd : ρ[i]? = some (some .drw) := by rfl) : wCall Fpull (waCons (wVar i) (waCons w waNil)) ρ μ Q :=
  x_call (ea_cons (ev_v hd) (ea_cons hw ea_nil)) ⟨n, rfl, h0, h1, k⟩
theorem x_op {g : G2} (h1 : Evs wa ρ μ a) (h2 : wb ρ μ fun b => g μ a b Q) : wOp g wa wb ρ μ Q := h1 _ h2
theorem x_ixL {ds : List PyData} {i : Int} {d : PyData} (h : atI ds i = some d) (q : Q (.dat d)) : gIx μ (.dat (.list ds)) (.dat (.int i)) Q := by
  show (match atI ds i with | some d => Q (.dat d) | none => False)
  rw [h]
  exact q
theorem x_ixT {ds : List PyData} {i : Int} {d : PyData} (h : atI ds i = some d) (q : Q (.dat d)) : gIx μ (.dat (.tuple ds)) (.dat (.int i)) Q := by
  show (match atI ds i with | some d => Q (.dat d) | none => False)
  rw [h]
  exact q
theorem x_appN {p : Addr} {xs : List A} (h : Evs wa ρ μ (.own p)) (hp : μ p = some xs) (h2 : wb ρ μ fun a => xs.length < 1000000 ∧ E.nx ρ (put μ p (xs ++ [a]))) : wApp wa wb E ρ μ := h _ (by
  have e : cel μ (.own p) = some (p, xs) := by unfold cel; dsimp only; rw [hp]
  show (match cel μ (.own p) with | some (p, xs) => _ | none => False)
  rw [e]
  exact h2)
end
theorem seqA_own {μ : Mem} {p : Addr} {ds : List PyData} (h : μ p = some (ds.map .dat)) : seqA μ (.own p) = some ds := by
  unfold seqA
  dsimp only
  rw [h]
  exact dats_map ds
theorem rsv_own {μ : Mem} {p : Addr} {ds : List PyData} (h : μ p = some (ds.map .dat)) : rsv μ (.own p) = some (.list ds) := by
  unfold rsv
  dsimp only
  rw [h]
  dsimp only
  rw [dats_map]
  rfl
theorem rsvA_own {μ : Mem} {p : Addr} {ds : List PyData} (h : μ p = some (ds.map .dat)) : rsvA μ (.own p) = some (.dat (.list ds)) := by
  unfold rsvA
  dsimp only
  rw [h]
  dsimp only
  rw [dats_map]
theorem rsvs_own {μ : Mem} {p : Addr} {ds : List PyData} {d : PyData} (h : μ p = some (ds.map .dat)) : rsvs μ [.own p, .dat d] = some [.dat (.list ds), .dat d] := by
  unfold rsvs
  rw [rsvA_own h]
  rfl
theorem nols_of : ∀ {ds : List PyData}, (∀ d ∈ ds, nol d = true) → nols ds = true
  | [], _ => rfl
  | d :: ds, h => by
    unfold nols
    rw [h d (by simp), nols_of fun e he => h e (by simp [he])]
    rfl
theorem list_of {α : Type} {f : α → PyData} : ∀ {es : List PyData}, (∀ e ∈ es, ∃ q, e = f q) → ∃ l : List α, es = l.map f
  | [], _ => ⟨[], rfl⟩
  | e :: es, h => by
    obtain ⟨q, rfl⟩ := h e (by simp)
    obtain ⟨l, rfl⟩ := list_of (es := es) fun z hz => h z (by simp [hz])
    exact ⟨q :: l, rfl⟩
/-! ### shapes -/
theorem shp_all : ∀ {ds : List PyData} {n : Nat}, (∀ d ∈ ds, d.canLay0 = true ∧ d.depth ≤ n) → PyData.canLayAll0 ds = true ∧ PyData.depthAll ds ≤ n
  | [], _, _ => ⟨rfl, Nat.zero_le _⟩
  | d :: ds, n, h => by
    obtain ⟨h1, h2⟩ := h d (by simp)
    obtain ⟨h3, h4⟩ := shp_all (ds := ds) fun z hz => h z (by simp [hz])
    unfold PyData.canLayAll0 PyData.depthAll
    rw [h1, h3]
    exact ⟨rfl, by omega⟩
theorem shp_list {ds : List PyData} (h : ∀ d ∈ ds, d.canLay0 = true ∧ d.depth ≤ 60) : SeqAt.shaped (.list ds) = true := by
  obtain ⟨h1, h2⟩ := shp_all h
  unfold SeqAt.shaped PyData.canLay0 PyData.depth
  rw [h1, decide_eq_true (by omega)]
  rfl
theorem eqv_same {d : PyData} (h : SeqAt.shaped d = true) : PyData.eqv d d = true := SeqAt.eqv_refl d (SeqAt.canLay_of_shaped h)
/-! ### calls by names: the values in the parameters' order -/
def perm {α : Type} (z : α) (π : List Nat) (n m : Nat) : List α → List α → List α := fun us ws => if us.length = n ∧ ws.length = m then π.map (fun i => (us ++ ws).getD i z) else []
theorem perm_rel {K : PySem.W.Frag} {S : Hs} {μ : Mem} {G : Hp} {π : List Nat} {n m : Nat} {vs zs : List V} {as bs : List A} (h1 : Ras K S μ G vs as) (h2 : Ras K S μ G zs bs) : Ras K S μ G (perm .non π n m vs zs) (perm (.dat .none) π n m as bs) := by
  unfold perm
  rw [h1.len, h2.len]
  split
  · have h := h1.app h2
    have at_ : ∀ i, Ra K S μ G ((vs ++ zs).getD i .non) ((as ++ bs).getD i (.dat .none)) := fun i => by
      by_cases hi : i < (as ++ bs).length
      · obtain ⟨v, e1, e2⟩ := h.get (i := i) (List.getElem?_eq_getElem hi)
        rw [List.getD, e1, List.getD, List.getElem?_eq_getElem hi]
        exact e2
      · rw [List.getD, List.getD, List.getElem?_eq_none (by rw [h.len]; omega), List.getElem?_eq_none (by omega)]
        exact .dat .non
    clear h1 h2 h
    induction π with
    | nil => exact .nil
    | cons i π ih => exact .cons (at_ i) ih
  · exact .nil
theorem perm_vals {π : List Nat} {n m : Nat} {vs zs : List V} {us ws : List Value} (h1 : Vals vs us) (h2 : Vals zs ws) : Vals (perm .non π n m vs zs) (perm Value.none π n m us ws) := by
  unfold perm
  rw [h1.length, h2.length]
  split
  · have h := h1.append h2
    have at_ : ∀ i, RelV ((vs ++ zs).getD i .non) ((us ++ ws).getD i Value.none) := fun i => by
      by_cases hi : i < (vs ++ zs).length
      · obtain ⟨v, e1, e2⟩ := h.get (i := i) (List.getElem?_eq_getElem hi)
        rw [List.getD, List.getD, e1, List.getElem?_eq_getElem hi]
        exact e2
      · rw [List.getD, List.getD, List.getElem?_eq_none (by omega), List.getElem?_eq_none (by rw [← h.length]; omega)]
        rfl
    clear h1 h2 h
    induction π with
    | nil => exact .nil
    | cons i π ih => exact .cons (at_ i) ih
  · exact .nil
theorem kb_mk {K : PySem.W.Frag} {mg : Str → Option Value} {x : Str} {st : Stmt} {ps ks : List Str} {f : Addr} {fd : FuncData} {π : List Nat} {n m : Nat} (R : Raw K mg x st ps f fd) (h0 : 0 < ps.length)
    (hb : ∀ (kV doc pm : Value) (an : Option Addr) (cdv ct : Value) (us ws : List Value), us.length = n → ws.length = m → bindArgs (PySem.W.fnOf x x (defArgs st) (defBody st) (defScope st) .none kV doc pm an cdv ct) ⟨us, ks.zip ws⟩ = pure (ps.zip (π.map fun i => (us ++ ws).getD i Value.none))) :
    KBinds K fd ps ks (perm Value.none π n m) (perm .non π n m) := by
  obtain ⟨oc, od, kV, doc, pm, an, cdv, ct, osl, rfl, lk, hcd⟩ := R.1.ex
  refine ⟨fun s us ws _ hl => ?_, fun h1 h2 => perm_vals h1 h2⟩
  unfold perm at hl ⊢
  split at hl
  · rename_i h
    rw [if_pos h]
    exact .of_eq (hb kV doc pm an cdv ct us ws h.1 h.2)
  · exact absurd hl (by show ¬ (0 = ps.length); omega)
theorem ga_mk {π : List Nat} {n m : Nat} : GA (perm .non π n m) (perm (.dat .none) π n m) := fun K S μ G vs as zs bs h1 h2 => perm_rel h1 h2
section
variable {ρ : Rho} {μ : Mem}
theorem x_callK {F : FS} {gA : List A → List A → List A} {u v : WA} {as bs cs : List A} {Q : A → Prop} (h : EvAs u ρ μ as) (h2 : EvAs v ρ μ bs) (hF : F cs fun d => Q (.dat d)) (hc : gA as bs = cs := by rfl) (hn : noOwn cs = true := by rfl) : wCallK F gA u v ρ μ Q := h _ (h2 _ (by show wF F μ (gA as bs) Q; rw [hc]; unfold wF; rw [if_pos hn]; exact hF))
theorem ev_callK {F : FS} {gA : List A → List A → List A} {u v : WA} {as bs cs : List A} {d : PyData} (h : EvAs u ρ μ as) (h2 : EvAs v ρ μ bs) (hF : ∀ Q : PyData → Prop, Q d → F cs Q) (hc : gA as bs = cs := by rfl) (hn : noOwn cs = true := by rfl) : Evs (wCallK F gA u v) ρ μ (.dat d) := fun Q q => x_callK h h2 (hF _ q) hc hn
end
end Hv

set_option Elab.async false
set_option linter.all false
set_option maxRecDepth 100000
namespace Hv
open PySem PySem.Spec PyProof.Rows L2 Hod
/-! ### a chain of three comparisons, as a test -/
def tChain3 (r1 r2 r3 : R2) (ta tb tc td : TE) : TT := fun σ H Q => ta σ H fun x H1 => tb σ H1 fun y H2 => r1 x y H2 fun z H3 => ∃ k, z = .bl k ∧
  (if k = true then tc σ H3 fun u H4 => r2 y u H4 fun z2 H5 => ∃ k2, z2 = .bl k2 ∧ (if k2 = true then td σ H5 fun v H6 => r3 u v H6 fun z3 H7 => ∃ k3, z3 = .bl k3 ∧ Q k3 H7 else Q false H5) else Q false H3)
theorem pt_chain3 {X : Cx} {a b c d : Expr} {ta tb tc td : TE} {pos : Pos} {o1 o2 o3 : CmpOp} {r1 r2 r3 : R2} (h1 : OpR X (compareOp o1) r1) (h2 : OpR X (compareOp o2) r2) (h3 : OpR X (compareOp o3) r3) (ha : PE X a ta) (hb : PE X b tb) (hc : PE X c tc) (hd : PE X d td)
    (hm : lastMarks [o1, o2, o3] [b, c, d] = false := by with_unfolding_all rfl) : PT X (.Compare a [o1, o2, o3] [b, c, d] pos) (tChain3 r1 r2 r3 ta tb tc td) := by
  refine ⟨fun pins s σ H Q I h => ?_⟩
  refine isTrue_chain (thn (ha.run pins s σ H _ I h) fun v s1 ⟨x, H1, I1, q1, p1⟩ => test_link (thn (hb.run pins s1 σ H1 _ I1 p1) fun u s2 ⟨y, H2, I2, q2, p2⟩ =>
    thn (h1 pins s2 σ H2 x y v u _ I2 q1 q2 p2) fun e s3 ⟨z, H3, I3, q3, k, ek, p3⟩ => ?_)) hm
  subst ek
  cases q3
  refine wpAny_truthy_bool ?_
  cases k with
  | false => exact ite_ff ⟨H3, I3, p3⟩
  | true =>
    refine ite_tt (test_link (thn (hc.run pins s3 σ H3 _ I3 p3) fun w s4 ⟨z', H4, I4, q4, p4⟩ => thn (h2 pins s4 σ H4 y z' u w _ I4 q2 q4 p4) fun e2 s5 ⟨z2, H5, I5, q5, k2, ek2, p5⟩ => ?_))
    subst ek2
    cases q5
    refine wpAny_truthy_bool ?_
    cases k2 with
    | false => exact ite_ff ⟨H5, I5, p5⟩
    | true =>
      refine ite_tt (test_last (thn (hd.run pins s5 σ H5 _ I5 p5) fun w2 s6 ⟨z3, H6, I6, q6, p6⟩ => thn (h3 pins s6 σ H6 z' z3 w w2 _ I6 q4 q6 p6) fun e3 s7 ⟨z4, H7, I7, q7, k3, ek3, p7⟩ => ?_))
      subst ek3
      cases q7
      exact wpAny_truthy_bool ⟨H7, I7, p7⟩
def bA (Q : Bool → Prop) : A → Prop | .dat (.bool b) => Q b | _ => False
def wChain3 (g1 g2 g3 : G2) (wa wb wc wd : WE) : WT := fun ρ μ Q => wa ρ μ fun a => wb ρ μ fun b => g1 μ a b (bA fun k => if k = true then wc ρ μ fun c => g2 μ b c (bA fun k2 => if k2 = true then wd ρ μ fun d => g3 μ c d (bA Q) else Q false) else Q false)
theorem vt_chain3 {X : Cx} {xl : XLT X.K} {a b c d : Expr} {wa wb wc wd : WE} {pos : Pos} {o1 o2 o3 : CmpOp} {r1 r2 r3 : R2} {g1 g2 g3 : G2} (h1 : OpR X (compareOp o1) r1) (k1 : RV X.K r1 g1) (h2 : OpR X (compareOp o2) r2) (k2 : RV X.K r2 g2) (h3 : OpR X (compareOp o3) r3) (k3 : RV X.K r3 g3) (ha : VE X xl a wa) (hb : VE X xl b wb) (hc : VE X xl c wc) (hd : VE X xl d wd)
    (hm : lastMarks [o1, o2, o3] [b, c, d] = false := by with_unfolding_all rfl) : VT X xl (.Compare a [o1, o2, o3] [b, c, d] pos) (wChain3 g1 g2 g3 wa wb wc wd) := by
  refine pt_weak (pt_chain3 h1 h2 h3 ha hb hc hd hm) fun σ H Q ⟨S, B, ρ, μ, Q2, st, w, k⟩ => ?_
  refine ⟨S, B, ρ, μ, _, st, w, fun x H1 a e1 g1 ra q1 => ⟨S, B, ρ, μ, _, st.ex e1 g1, q1, fun y H2 b e2 g2 rb q2 => ?_⟩⟩
  refine k1 S B x y H2 μ a b _ _ g2 (ra.mono (e2.off g1)) rb q2 fun v H3 c e3 g3 rc q3 => ?_
  cases rc with
  | dat rc =>
    cases rc with
    | bl z =>
      refine ⟨z, rfl, ?_⟩
      have q3 : (if z = true then _ else _) := q3
      cases z with
      | false => exact k _ H3 (e1.trans (e2.trans e3)) g3 q3
      | true =>
        refine ⟨S, B, ρ, μ, _, (st.ex e1 g1).ex (e2.trans e3) g3, q3, fun z2 H4 c4 e4 g4 r4 q4 => ?_⟩
        refine k2 S B y z2 H4 μ b c4 _ _ g4 ((rb.mono (e3.off g2)).mono (e4.off g3)) r4 q4 fun v5 H5 c5 e5 g5 r5 q5 => ?_
        cases r5 with
        | dat r5 =>
          cases r5 with
          | bl z5 =>
            refine ⟨z5, rfl, ?_⟩
            have q5 : (if z5 = true then _ else _) := q5
            cases z5 with
            | false => exact k _ H5 (e1.trans (e2.trans (e3.trans (e4.trans e5)))) g5 q5
            | true =>
              refine ⟨S, B, ρ, μ, _, (st.ex e1 g1).ex (e2.trans (e3.trans (e4.trans e5))) g5, q5, fun z6 H6 c6 e6 g6 r6 q6 => ?_⟩
              refine k3 S B z2 z6 H6 μ c4 c6 _ _ g6 ((r4.mono (e5.off g4)).mono (e6.off g5)) r6 q6 fun v7 H7 c7 e7 g7 r7 q7 => ?_
              cases r7 with
              | dat r7 =>
                cases r7 with
                | bl z7 => exact ⟨z7, rfl, k _ H7 (e1.trans (e2.trans (e3.trans (e4.trans (e5.trans (e6.trans e7)))))) g7 q7⟩
                | _ => exact q7.elim
              | _ => exact q7.elim
          | _ => exact q5.elim
        | _ => exact q5.elim
    | _ => exact q3.elim
  | _ => exact q3.elim
theorem et_chain3 {ρ : Rho} {μ : Mem} {wa wb wc wd : WE} {i j k l : Int} {f g h : Int → Int → Bool} (h1 : Evs wa ρ μ (.dat (.int i))) (h2 : Evs wb ρ μ (.dat (.int j))) (h3 : Evs wc ρ μ (.dat (.int k))) (h4 : Evs wd ρ μ (.dat (.int l))) : EvTs (wChain3 (gI fun i j => .bool (f i j)) (gI fun i j => .bool (g i j)) (gI fun i j => .bool (h i j)) wa wb wc wd) ρ μ (f i j && g j k && h k l) := fun Q q => h1 _ (h2 _ (by
  show (if f i j = true then _ else _)
  cases e1 : f i j with
  | false => rw [e1] at q; exact q
  | true =>
    rw [e1] at q
    refine h3 _ ?_
    show (if g j k = true then _ else _)
    cases e2 : g j k with
    | false => rw [e2] at q; exact q
    | true =>
      rw [e2] at q
      refine h4 _ ?_
      exact q))
structure Bl (mg : Str → Option Value) : Prop where
  len : mg "len" = none
  list : mg "list" = none
  tuple : mg "tuple" = none
  range : mg "range" = none
  enumerate : mg "enumerate" = none
  isinstance : mg "isinstance" = none
  int : mg "int" = none
  bool : mg "bool" = none
  str : mg "str" = none
  all : mg "all" = none
  min : mg "min" = none
  max : mg "max" = none
  sum : mg "sum" = none
structure Cs (mg : Str → Option Value) : Prop where
  d : ∃ t, mg "MOST_DAYS" = some (.int 20 t)
  s : ∃ t, mg "MOST_STUFFS" = some (.int 3 t)
  w : ∃ t, mg "MOST_WORKS" = some (.int 6 t)
  y : ∃ t, mg "MOST_WAYS" = some (.int 3 t)
  t : ∃ t, mg "MOST_TIES" = some (.int 12 t)
  l : ∃ t, mg "MOST_LONG" = some (.int 9 t)
  m : ∃ t, mg "MOST_MANY" = some (.int 9 t)
  g : ∃ t, mg "MOST_GAP" = some (.int 20 t)
  st : ∃ t, mg "START" = some (.int 0 t)
  en : ∃ t, mg "END" = some (.int 1 t)
section
variable {ρ : Rho} {μ : Mem} {w : WE} {a : A} {d : PyData} {E : Ends2} {wi : WI} {p : Pat} {we : WE} {vs : List Nat}
theorem x_asg {ρ' : Rho} (h : Evs w ρ μ (.dat d)) (hb : bindP p d ρ = some ρ' := by rfl) (q : E.nx ρ' μ) : wAsg p w E ρ μ := h _ (by show (match bindP p d ρ with | some ρ' => E.nx ρ' μ | none => False); rw [hb]; exact q)
theorem x_drop (h : Evs w ρ μ a) (q : E.nx ρ μ) : wDrop w E ρ μ := h _ q
/-! one statement, and the rest -/
theorem s_set {n : Nat} {W2 : WS} (h : Evs w ρ μ a) (q : W2 E (ρ.set n (some a)) μ) : wSeq (wSet n w) W2 E ρ μ := h _ q
theorem s_setN {n : Nat} {W2 : WS} (h : w ρ μ fun a => W2 E (ρ.set n (some a)) μ) : wSeq (wSet n w) W2 E ρ μ := h
theorem s_asg {ρ' : Rho} {W2 : WS} (h : Evs w ρ μ (.dat d)) (hb : bindP p d ρ = some ρ' := by rfl) (q : W2 E ρ' μ) : wSeq (wAsg p w) W2 E ρ μ := x_seq (x_asg h hb q)
theorem s_drop {W2 : WS} (h : Evs w ρ μ a) (q : W2 E ρ μ) : wSeq (wDrop w) W2 E ρ μ := h _ q
theorem s_if0 {t : WT} {W W2 : WS} (h : EvTs t ρ μ false) (q : W2 E ρ μ) : wSeq (wIfS t W wNext) W2 E ρ μ := h _ q
theorem s_if {t : WT} {W W2 : WS} {k : Bool} (h : EvTs t ρ μ k) (h1 : k = true → W { E with nx := fun ρ μ => W2 E ρ μ } ρ μ) (h2 : k = false → W2 E ρ μ) : wSeq (wIfS t W wNext) W2 E ρ μ := x_seq (x_if h h1 h2)
theorem s_own {n : Nat} {W2 : WS} {ds : List PyData} (h : Evs w ρ μ (.dat (.list ds))) (hn : nols ds = true) (q : ∀ p, μ p = none → W2 E (ρ.set n (some (.own p))) (put μ p (ds.map .dat))) : wSeq (wOwn n w) W2 E ρ μ := h _ ⟨hn, q⟩
theorem s_app {wb : WE} {W2 : WS} {p : Addr} {xs : List A} (h : Evs w ρ μ (.own p)) (hp : μ p = some xs) (h2 : Evs wb ρ μ a) (hl : xs.length < 1000000) (q : W2 E ρ (put μ p (xs ++ [a]))) : wSeq (wApp w wb) W2 E ρ μ := x_seq (x_app h hp h2 hl q)
theorem s_for {W W2 : WS} {ds : List PyData} (I : Nat → Rho → Mem → Prop) (hi : EvIs wi ρ μ ds) (h0 : I 0 ρ μ) (hs : ∀ n d ρ μ (N : Rho → Mem → Prop), ds[n]? = some d → I n ρ μ → (∀ ρ μ, I (n + 1) ρ μ → N ρ μ) → ∃ ρ', bindP p d ρ = some ρ' ∧ W { nx := N, ct := N, bk := fun ρ μ => W2 E ρ μ, rt := E.rt, fr := E.fr, ow := E.ow } ρ' μ) (hd : ∀ ρ μ, I ds.length ρ μ → W2 E ρ μ) : wSeq (wFor wi p W) W2 E ρ μ := x_seq (x_for I hi h0 hs hd)
/-- a comprehension over the pictures of a list -/
theorem ev_lcg {α : Type} {f g : α → PyData} {l : List α} (hi : EvIs wi ρ μ (l.map f)) (hl : l.length ≤ 1000000) (h : ∀ x ∈ l, ∃ ρ', bindP p (f x) (wipeA ρ vs) = some ρ' ∧ Evs we ρ' μ (.dat (g x))) : Evs (wLc wi p wYes we vs) ρ μ (.dat (.list (l.map g))) := fun Q q => hi _ ⟨by simpa using hl, by
  clear hi hl
  induction l generalizing Q with
  | nil => exact q
  | cons x l ih =>
    obtain ⟨ρ', h1, h2⟩ := h x (by simp)
    refine lcF_yes h1 (h2 _ ?_)
    refine ih (fun z hz => h z (by simp [hz])) (fun es => Q (match es with | .dat (.list es) => .dat (.list (g x :: es)) | z => z)) q⟩
theorem ev_allm {α : Type} {l : List α} {b : α → Bool} (h : Evs w ρ μ (.dat (.list (l.map fun x => PyData.bool (b x))))) : Evs (wCB gAll (waCons w waNil)) ρ μ (.dat (.bool (l.all b))) := by
  have e : (l.map b).all id = l.all b := by rw [List.all_map]; rfl
  rw [← e]
  refine ev_all ?_
  rw [List.map_map]
  exact h
theorem enumD_get {α : Type} {f : α → PyData} {l : List α} {n : Nat} {d : PyData} (h : (enumD (l.map f))[n]? = some d) : ∃ x, l[n]? = some x ∧ d = .tuple [.int (n : Nat), f x] := by
  rw [enumD_eq, List.getElem?_map, List.length_map] at h
  by_cases hn : n < l.length
  · rw [List.getElem?_range hn] at h
    refine ⟨l[n], List.getElem?_eq_getElem hn, ?_⟩
    have e : (l.map f).getD n .none = f l[n] := by simp [List.getD, hn]
    rw [Option.map_some, e] at h
    exact (Option.some.inj h).symm
  · rw [List.getElem?_eq_none (by simpa using hn)] at h
    cases h
theorem map_get {α : Type} {f : α → PyData} {l : List α} {n : Nat} {d : PyData} (h : (l.map f)[n]? = some d) : ∃ x, l[n]? = some x ∧ d = f x := by
  rw [List.getElem?_map] at h
  cases e : l[n]? with
  | none => rw [e] at h; cases h
  | some x => rw [e] at h; exact ⟨x, rfl, (Option.some.inj h).symm⟩
theorem at_map {α : Type} {f : α → PyData} {l : List α} {n : Nat} {x : α} (h : l[n]? = some x) : atI (l.map f) (n : Int) = some (f x) := at_nat (by rw [List.getElem?_map, h]; rfl)
theorem lt_of_get {α : Type} {l : List α} {n : Nat} {x : α} (h : l[n]? = some x) : n < l.length := by
  rcases Nat.lt_or_ge n l.length with q | q
  · exact q
  · rw [List.getElem?_eq_none q] at h; cases h
end
/-! ### yards -/
structure Way where
  long : Int
  rests : Int
  needs : List Int
structure Wrk where
  low : Int
  high : Int
  ways : List Way
structure Tie where
  kind : Int
  one : Int
  other : Int
  gap : Int
structure Yard where
  days : Int
  shut : List Int
  stuffs : List (List Int)
  works : List Wrk
  ties : List Tie
def eI (ns : List Int) : PyData := .tuple (ns.map .int)
def Way.e (w : Way) : PyData := .tuple [.int w.long, .int w.rests, eI w.needs]
def Wrk.e (w : Wrk) : PyData := .tuple [.int w.low, .int w.high, .tuple (w.ways.map Way.e)]
def Tie.e (t : Tie) : PyData := .tuple [.int t.kind, .int t.one, .int t.other, .int t.gap]
def Yard.e (y : Yard) : PyData := .tuple [.int y.days, eI y.shut, .tuple (y.stuffs.map eI), .tuple (y.works.map Wrk.e), .tuple (y.ties.map Tie.e)]
/-- numbers from 0 to 9 -/
def Few (ns : List Int) : Prop := ∀ x ∈ ns, 0 ≤ x ∧ x ≤ 9
structure Way.ok (n : Nat) (w : Way) : Prop where
  l1 : 1 ≤ w.long
  l9 : w.long ≤ 9
  r : w.rests = 0 ∨ w.rests = 1
  nl : w.needs.length = n
  nf : Few w.needs
structure Wrk.ok (days : Int) (n : Nat) (w : Wrk) : Prop where
  l0 : 0 ≤ w.low
  lh : w.low < w.high
  hd : w.high ≤ days
  w1 : 1 ≤ w.ways.length
  w3 : w.ways.length ≤ 3
  ws : ∀ v ∈ w.ways, v.ok n
structure Tie.ok (m : Nat) (t : Tie) : Prop where
  k : t.kind = 0 ∨ t.kind = 1
  ne : t.one ≠ t.other
  o0 : 0 ≤ t.one
  om : t.one < m
  p0 : 0 ≤ t.other
  pm : t.other < m
  g0 : -20 ≤ t.gap
  g1 : t.gap ≤ 20
/-- rising, each above lo and below hi -/
def Ris (hi : Int) : Int → List Int → Prop
  | _, [] => True
  | lo, x :: xs => lo < x ∧ x < hi ∧ Ris hi x xs
structure Yard.ok (y : Yard) : Prop where
  d1 : 1 ≤ y.days
  d20 : y.days ≤ 20
  sh : Ris y.days (-1) y.shut
  s3 : y.stuffs.length ≤ 3
  st : ∀ r ∈ y.stuffs, (r.length : Int) = y.days ∧ Few r
  w6 : y.works.length ≤ 6
  ws : ∀ w ∈ y.works, w.ok y.days y.stuffs.length
  t12 : y.ties.length ≤ 12
  ts : ∀ t ∈ y.ties, t.ok y.works.length
/-! ### days -/
def rngI (b : Int) (n : Nat) : List Int := (List.range n).map fun i => b + (i : Nat)
theorem rng_eq (b : Int) (n : Nat) : rng b n = (rngI b n).map .int := by
  unfold rng rngI
  rw [List.map_map]
  rfl
theorem rngI_add (b : Int) (m n : Nat) : rngI b (m + n) = rngI b m ++ rngI (b + (m : Nat)) n := by
  unfold rngI
  rw [List.range_add, List.map_append, List.map_map]
  congr 1
  refine List.map_congr_left fun i _ => ?_
  show b + ((m + i : Nat) : Int) = b + (m : Nat) + (i : Nat)
  omega
theorem rngI_one (b : Int) : rngI b 1 = [b] := by
  show [b + ((0 : Nat) : Int)] = [b]
  rw [show b + ((0 : Nat) : Int) = b by omega]
theorem mem_rngI {b x : Int} {n : Nat} : x ∈ rngI b n ↔ b ≤ x ∧ x < b + (n : Nat) := by
  unfold rngI
  rw [List.mem_map]
  constructor
  · rintro ⟨i, hi, rfl⟩
    have := List.mem_range.mp hi
    omega
  · intro h
    exact ⟨(x - b).toNat, List.mem_range.mpr (by omega), by omega⟩
theorem rng_get {n k : Nat} {d : PyData} (h : (rng 0 n)[k]? = some d) : k < n ∧ d = .int (k : Nat) := by
  by_cases hk : k < n
  · refine ⟨hk, ?_⟩
    rw [rng, List.getElem?_map, List.getElem?_range hk] at h
    rw [← Option.some.inj h]
    show PyData.int (0 + (k : Nat)) = _
    rw [show (0 : Int) + (k : Nat) = (k : Nat) by omega]
  · rw [List.getElem?_eq_none (by simpa using hk)] at h
    cases h
/-- the days that count from b to ahead of e -/
def free (idle : List Int) (b e : Int) : List Int := (rngI b (e - b).toNat).filter fun d => !idle.contains d
theorem free_snoc {idle : List Int} {b e : Int} (h : b ≤ e) : free idle b (e + 1) = free idle b e ++ (if idle.contains e then [] else [e]) := by
  unfold free
  rw [show (e + 1 - b).toNat = (e - b).toNat + 1 by omega, rngI_add, List.filter_append, show b + (((e - b).toNat : Nat) : Int) = e by omega, rngI_one]
  congr 1
  cases hc : idle.contains e <;> simp [hc] <;> simpa using hc
theorem free_app {idle : List Int} {b c e : Int} (h1 : b ≤ c) (h2 : c ≤ e) : free idle b e = free idle b c ++ free idle c e := by
  unfold free
  rw [show (e - b).toNat = (c - b).toNat + (e - c).toNat by omega, rngI_add, List.filter_append, show b + (((c - b).toNat : Nat) : Int) = c by omega]
theorem free_nil {idle : List Int} {b : Int} : free idle b b = [] := by
  unfold free
  rw [show (b - b).toNat = 0 by omega]
  rfl
theorem free_len {idle : List Int} {b e : Int} : (free idle b e).length ≤ (e - b).toNat := by
  unfold free
  have := List.length_filter_le (fun d => !idle.contains d) (rngI b (e - b).toNat)
  simpa [rngI] using this
/-- the days on which it goes on -/
def going (days : Int) (idle : List Int) (long : Int) (b : Int) : Option (List Int) :=
  if idle.contains b then none else
    let g := (free idle b days).take long.toNat
    if (g.length : Int) = long then some g else none
def Yard.idle (y : Yard) (w : Way) : List Int := if w.rests = 0 then [] else y.shut
def Yard.go (y : Yard) (w : Way) (b : Int) : Option (List Int) := going y.days (y.idle w) w.long b
def eL : Option (List Int) → PyData
  | none => .none
  | some l => .list (l.map .int)
/-- the way of a number of a work of a number -/
def Yard.way? (y : Yard) (k m : Nat) : Option Way := (y.works[k]?).bind fun w => w.ways[m]?
theorem any_contains (ns : List Int) (x : Int) : ((ns.map PyData.int).any fun z => PyData.eqv z (.int x)) = ns.contains x := by
  induction ns with
  | nil => rfl
  | cons n ns ih =>
    rw [List.map_cons, List.any_cons, ih, List.contains_cons]
    congr 1
    show (n == x) = (x == n)
    by_cases h : n = x
    · rw [h]
    · rw [beq_false_of_ne h, beq_false_of_ne (Ne.symm h)]
theorem flat_ints (ns : List Int) : (ns.map PyData.int).all flatD = true := by
  induction ns with
  | nil => rfl
  | cons n ns ih => rw [List.map_cons, List.all_cons, ih]; rfl
theorem deps_ints (ns : List Int) : deps (ns.map PyData.int) < 1 := deps_lt (fun d hd => by obtain ⟨k, _, rfl⟩ := List.mem_map.mp hd; exact Nat.zero_lt_one) (by decide)
/-- some of the items, in their order -/
theorem lcW_sub {f : PyData → (Option PyData → Prop) → Prop} {ds : List PyData} {Q : List PyData → Prop} (hf : ∀ d ∈ ds, ∀ R : Option PyData → Prop, R none → R (some d) → f d R) (h : ∀ es, es.Sublist ds → Q es) : lcW f ds Q := by
  induction ds generalizing Q with
  | nil => exact h [] (List.Sublist.refl _)
  | cons d ds ih =>
    refine hf d (by simp) _ ?_ ?_
    · exact ih (fun e he R => hf e (by simp [he]) R) fun es hs => h es (hs.cons _)
    · exact ih (fun e he R => hf e (by simp [he]) R) fun es hs => h (d :: es) (hs.cons₂ _)
theorem ris_mono {hi lo lo2 : Int} {l : List Int} (h : Ris hi lo l) (h2 : lo2 ≤ lo) : Ris hi lo2 l := by
  cases l with
  | nil => exact trivial
  | cons x xs => exact ⟨by have := h.1; omega, h.2⟩
theorem ris_sub : ∀ {l l2 : List Int} {hi lo : Int}, l2.Sublist l → Ris hi lo l → Ris hi lo l2
  | _, _, _, _, .slnil, _ => trivial
  | _, _, _, _, .cons a s, h => ris_sub s (ris_mono h.2.2 (by have := h.1; omega))
  | _, _, _, _, .cons₂ a s, h => ⟨h.1, h.2.1, ris_sub s h.2.2⟩
theorem ris_rng {n : Nat} : ∀ (b : Int) (m : Nat), (b + (m : Nat) ≤ (n : Int)) → Ris n (b - 1) (rngI b m)
  | b, 0, _ => trivial
  | b, m + 1, h => by
    rw [show m + 1 = 1 + m by omega, rngI_add, rngI_one]
    have := ris_rng (n := n) (b + ((1 : Nat) : Int)) m (by omega)
    exact ⟨by omega, by omega, ris_mono this (by omega)⟩
theorem sub_map {ds : List PyData} {l : List Int} (h : ds.Sublist (l.map .int)) : ∃ l2 : List Int, l2.Sublist l ∧ ds = l2.map .int := by
  induction l generalizing ds with
  | nil => cases h; exact ⟨[], .slnil, rfl⟩
  | cons x xs ih =>
    rw [List.map_cons] at h
    cases h with
    | cons _ h => obtain ⟨l2, h1, rfl⟩ := ih h; exact ⟨l2, h1.cons _, rfl⟩
    | cons_cons _ h => obtain ⟨l2, h1, rfl⟩ := ih h; exact ⟨x :: l2, h1.cons₂ _, rfl⟩
/-! ### the law's own yards -/
def FgoodRow : FS := fun as Q => ∃ n : Int, as = [.drw, .dat (.int n)] ∧ 0 ≤ n ∧ n ≤ 1000 ∧ ∀ row : List Int, (row.length : Int) = n → Few row → Q (eI row)
def Fmode : FS := fun as Q => ∃ (n : Int) (g : Nat), as = [.drw, .dat (.int n), .dat (.int g)] ∧ 1 ≤ n ∧ g ≤ 1000 ∧ ∀ w : Way, w.ok g → Q w.e
def Fjob : FS := fun as Q => ∃ (n : Int) (g : Nat) (m : Int), as = [.drw, .dat (.int n), .dat (.int g), .dat (.int m)] ∧ 1 ≤ n ∧ n ≤ 1000 ∧ g ≤ 1000 ∧ 1 ≤ m ∧ m ≤ 3 ∧ ∀ w : Wrk, w.ok n g → (w.ways.length : Int) ≤ m → Q w.e
def Flink : FS := fun as Q => ∃ j : Nat, as = [.drw, .dat (.int j)] ∧ 2 ≤ j ∧ j ≤ 1000 ∧ ∀ t : Tie, t.ok j → Q t.e
def Fclosed : FS := fun as Q => ∃ n : Int, as = [.drw, .dat (.int n)] ∧ 0 ≤ n ∧ n ≤ 1000 ∧ ∀ l : List Int, Ris n (-1) l → Q (eI l)
def Fnet : FS := fun as Q => ∃ d j m g t : Int, as = [.drw, .dat (.int d), .dat (.int j), .dat (.int m), .dat (.int g), .dat (.int t)] ∧ 1 ≤ d ∧ d ≤ 20 ∧ 0 ≤ j ∧ j ≤ 6 ∧ 1 ≤ m ∧ m ≤ 3 ∧ 0 ≤ g ∧ g ≤ 3 ∧ 0 ≤ t ∧ t ≤ 12 ∧
  ∀ y : Yard, y.ok → y.days ≤ d → (y.works.length : Int) ≤ j → (∀ w ∈ y.works, (w.ways.length : Int) ≤ m) → (y.stuffs.length : Int) ≤ g → (y.ties.length : Int) ≤ t → Q y.e
def Fdates : FS := fun as Q => ∃ (y : Yard) (k m : Nat) (w : Way) (b : Int), as = [.dat y.e, .dat (.int k), .dat (.int m), .dat (.int b)] ∧ y.ok ∧ y.way? k m = some w ∧ 0 ≤ b ∧ b < y.days ∧ Q (eL (y.go w b))
/-! ### the program's look at yards -/
def Frow : FS := fun as Q => ∃ (row : List Int) (n : Int), as = [.dat (eI row), .dat (.int n)] ∧ (row.length : Int) = n ∧ n ≤ 1000 ∧ Few row ∧ Q (.bool true)
def Fway : FS := fun as Q => ∃ (w : Way) (n : Nat), as = [.dat w.e, .dat (.int n)] ∧ w.ok n ∧ n ≤ 1000 ∧ Q (.bool true)
def Fwork : FS := fun as Q => ∃ (w : Wrk) (d : Int) (n : Nat), as = [.dat w.e, .dat (.int d), .dat (.int n)] ∧ w.ok d n ∧ n ≤ 1000 ∧ Q (.bool true)
def Ftie : FS := fun as Q => ∃ (t : Tie) (m : Nat), as = [.dat t.e, .dat (.int m)] ∧ t.ok m ∧ Q (.bool true)
def Fwshut : FS := fun as Q => ∃ (l : List Int) (d : Int), as = [.dat (eI l), .dat (.int d)] ∧ Ris d (-1) l ∧ Q .none
def Fwstuff : FS := fun as Q => ∃ (l : List (List Int)) (d : Int), as = [.dat (.tuple (l.map eI)), .dat (.int d)] ∧ d ≤ 1000 ∧ l.length ≤ 3 ∧ (∀ r ∈ l, (r.length : Int) = d ∧ Few r) ∧ Q .none
def Fwwork : FS := fun as Q => ∃ (l : List Wrk) (d : Int) (n : Nat), as = [.dat (.tuple (l.map Wrk.e)), .dat (.int d), .dat (.int n)] ∧ n ≤ 1000 ∧ l.length ≤ 6 ∧ (∀ w ∈ l, w.ok d n) ∧ Q .none
def Fwtie : FS := fun as Q => ∃ (l : List Tie) (m : Nat), as = [.dat (.tuple (l.map Tie.e)), .dat (.int m)] ∧ l.length ≤ 12 ∧ (∀ t ∈ l, t.ok m) ∧ Q .none
def Fyard : FS := fun as Q => ∃ y : Yard, as = [.dat y.e] ∧ y.ok ∧ Q .none
def Fcway : FS := fun as Q => ∃ (y : Yard) (k m : Nat) (w : Way), as = [.dat y.e, .dat (.int k), .dat (.int m)] ∧ y.ok ∧ y.way? k m = some w ∧ Q .none
def Fcday : FS := fun as Q => ∃ (y : Yard) (b : Int), as = [.dat y.e, .dat (.int b)] ∧ y.ok ∧ 0 ≤ b ∧ b < y.days ∧ Q .none
/-! ### steps with draws -/
section
variable {ρ : Rho} {μ : Mem} {w wa wb : WE} {a : A} {n i : Int} {Q : A → Prop} {E : Ends2} {W W2 : WS} {c : Nat}
theorem x_ev (h : Evs w ρ μ a) (q : Q a) : w ρ μ Q := h _ q
theorem x_ev2 {i j : Nat} {u : WA} {a b : A} (h : EvAs u ρ μ [a, b]) (q : E.nx ((ρ.set i (some a)).set j (some b)) μ) : wPar i j u E ρ μ := h _ q
theorem x_tupleL {es : List PyData} (q : Q (.dat (.tuple es))) : gTuple μ [.dat (.list es)] Q := q
theorem x_addP (h : Evs wa ρ μ (.dat (.int i))) (k : ∀ r : Int, 0 ≤ r → r < n → Q (.dat (.int (i + r)))) (h0 : 0 < n := by omega) (h1 : n < 1073741824 := by omega) (hw : Evs w ρ μ (.dat (.int n)) := by exact ev_k) (hd : ρ[c]? = some (some .drw) := by rfl) : wOp gAdd wa (wCall Fpull (waCons (wVar c) (waCons w waNil))) ρ μ Q := h _ (x_pull k h0 h1 hw hd)
theorem x_subP (k : ∀ r : Int, 0 ≤ r → r < n → Q (.dat (.int (r - i)))) (h : Evs wa ρ μ (.dat (.int i))) (h0 : 0 < n := by omega) (h1 : n < 1073741824 := by omega) (hw : Evs w ρ μ (.dat (.int n)) := by exact ev_k) (hd : ρ[c]? = some (some .drw) := by rfl) : wOp gSub (wCall Fpull (waCons (wVar c) (waCons w waNil))) wa ρ μ Q := x_pull (Q := fun a => wa ρ μ fun b => gSub μ a b Q) (fun r r0 r1 => h _ (k r r0 r1)) h0 h1 hw hd
/-- whether a draw is nought: either -/
theorem x_coin {R : Bool → Prop} (k : ∀ b, R b) (h0 : 0 < n := by omega) (h1 : n < 1073741824 := by omega) (hw : Evs w ρ μ (.dat (.int n)) := by exact ev_k) (hd : ρ[c]? = some (some .drw) := by rfl) : wB (wOp gEq (wCall Fpull (waCons (wVar c) (waCons w waNil))) (wC (.int 0))) ρ μ R := x_pull (Q := fun a => wC (.int 0) ρ μ fun b => gEq μ a b fun a => match a with | .dat (.bool b) => R b | _ => False) (fun r _ _ => k (decide (r = 0))) h0 h1 hw hd
theorem s_coin (h1 : W { E with nx := fun ρ μ => W2 E ρ μ } ρ μ) (h2 : W2 E ρ μ) (h0 : 0 < n := by omega) (h3 : n < 1073741824 := by omega) (hw : Evs w ρ μ (.dat (.int n)) := by exact ev_k) (hd : ρ[c]? = some (some .drw) := by rfl) : wSeq (wIfS (wB (wOp gEq (wCall Fpull (waCons (wVar c) (waCons w waNil))) (wC (.int 0)))) W wNext) W2 E ρ μ :=
  x_seq (x_ifN (x_coin (n := n) (fun b => by
    cases b with
    | true => exact h1
    | false => exact h2) h0 h3 hw hd))
theorem s_andCoin {t : WT} {k : Bool} (ht : EvTs t ρ μ k) (h1 : k = true → W { E with nx := fun ρ μ => W2 E ρ μ } ρ μ) (h2 : W2 E ρ μ) (h0 : 0 < n := by omega) (h3 : n < 1073741824 := by omega) (hw : Evs w ρ μ (.dat (.int n)) := by exact ev_k) (hd : ρ[c]? = some (some .drw) := by rfl) : wSeq (wIfS (wAndT t (wB (wOp gEq (wCall Fpull (waCons (wVar c) (waCons w waNil))) (wC (.int 0))))) W wNext) W2 E ρ μ :=
  x_seq (x_ifN (ht _ (by
    cases k with
    | false => exact h2
    | true =>
      refine x_coin (n := n) (fun b => ?_) h0 h3 hw hd
      cases b with
      | true => exact h1 rfl
      | false => exact h2)))
theorem x_ownN (h : w ρ μ fun a => match a with
  | .dat (.list ds) => nols ds = true ∧ ∀ p, μ p = none → E.nx (ρ.set c (some (.own p))) (put μ p (ds.map .dat))
  | .dat d => E.nx (ρ.set c (some (.dat d))) μ
  | _ => False) : wOwn c w E ρ μ := h
theorem s_ownLc {wi : WI} {p : Pat} {we : WE} {vs : List Nat} {P : PyData → Prop} {ds : List PyData} (hi : EvIs wi ρ μ ds) (hl : ds.length ≤ 1000000) (h : ∀ d ∈ ds, ∃ ρ', bindP p d (wipeA ρ vs) = some ρ' ∧ ∀ R : A → Prop, (∀ e, P e → R (.dat e)) → we ρ' μ R)
    (hn : ∀ e, P e → nol e = true) (q : ∀ es : List PyData, es.length = ds.length → (∀ e ∈ es, P e) → ∀ a, μ a = none → W2 E (ρ.set c (some (.own a))) (put μ a (es.map .dat))) : wSeq (wOwn c (wLc wi p wYes we vs)) W2 E ρ μ :=
  x_seq (x_ownN (x_lca (P := P) hi hl h fun es h1 h2 => ⟨nols_of fun e he => hn e (h2 e he), fun a ha => q es h1 h2 a ha⟩))
theorem x_stoN {wo wi we : WE} (h : we ρ μ fun a => wo ρ μ fun o => wi ρ μ fun i => match cel μ o, i with
  | some (p, xs), .dat (.int k) => (match ixN xs.length k with | some j => E.nx ρ (put μ p (xs.set j a)) | none => False)
  | _, _ => False) : wSto wo wi we E ρ μ := h
theorem x_stoE {p : Addr} {xs : List A} {k : Int} {a : A} {R : Prop} {f : Addr → List A → Nat → Prop} (hp : μ p = some xs) (h0 : 0 ≤ k) (h1 : k < xs.length) (q : f p xs k.toNat) : (match cel μ (.own p), A.dat (.int k) with
  | some (p, xs), .dat (.int k) => (match ixN xs.length k with | some j => f p xs j | none => False)
  | _, _ => False) := by
  have e : cel μ (.own p) = some (p, xs) := by unfold cel; dsimp only; rw [hp]
  rw [e]
  show (match ixN xs.length k with | some j => f p xs j | none => False)
  have e2 : ixN xs.length k = some k.toNat := by unfold ixN; rw [if_pos h0, if_pos h1]
  rw [e2]
  exact q
end
theorem list_of' {α : Type} {f : α → PyData} {C : α → Prop} : ∀ {es : List PyData}, (∀ e ∈ es, ∃ q, e = f q ∧ C q) → ∃ l : List α, es = l.map f ∧ ∀ q ∈ l, C q
  | [], _ => ⟨[], rfl, fun _ h => nomatch h⟩
  | e :: es, h => by
    obtain ⟨q, rfl, hq⟩ := h e (by simp)
    obtain ⟨l, rfl, hl⟩ := list_of' (es := es) fun z hz => h z (by simp [hz])
    refine ⟨q :: l, rfl, fun z hz => ?_⟩
    rcases List.mem_cons.mp hz with rfl | hz
    · exact hq
    · exact hl z hz
theorem few_set {l : List Int} {k : Nat} {x : Int} (h : Few l) (h0 : 0 ≤ x) (h9 : x ≤ 9) : Few (l.set k x) := fun z hz => by
  rcases List.mem_or_eq_of_mem_set hz with hz | rfl
  · exact h z hz
  · exact ⟨h0, h9⟩
section
variable {ρ : Rho} {μ : Mem} {w wa wb : WE} {a : A} {d : PyData} {E : Ends2} {W W2 : WS} {wi : WI} {p : Pat} {wt : WT} {we : WE} {vs : List Nat} {c : Nat}
theorem ev_lcgf {α : Type} {f g : α → PyData} {b : α → Bool} {l : List α} (hi : EvIs wi ρ μ (l.map f)) (hl : l.length ≤ 1000000) (h : ∀ x ∈ l, ∃ ρ', bindP p (f x) (wipeA ρ vs) = some ρ' ∧ EvTs wt ρ' μ (b x) ∧ (b x = true → Evs we ρ' μ (.dat (g x)))) : Evs (wLc wi p wt we vs) ρ μ (.dat (.list ((l.filter b).map g))) := fun Q q => hi _ ⟨by simpa using hl, by
  clear hi hl
  induction l generalizing Q with
  | nil => exact q
  | cons x l ih =>
    obtain ⟨ρ', h1, h2, h3⟩ := h x (by simp)
    refine lcF_if h1 (h2 _ ?_)
    cases hb : b x with
    | true =>
      rw [List.filter_cons_of_pos hb] at q
      exact h3 hb _ (ih (fun z hz => h z (by simp [hz])) (fun es => Q (match es with | .dat (.list es) => .dat (.list (g x :: es)) | z => z)) q)
    | false =>
      rw [List.filter_cons_of_neg (by simp [hb])] at q
      exact ih (fun z hz => h z (by simp [hz])) Q q⟩
theorem s_ownD (h : Evs w ρ μ (.dat d)) (hd : flatD d = true) (q : W2 E (ρ.set c (some (.dat d))) μ) : wSeq (wOwn c w) W2 E ρ μ := x_seq (x_ownN (h _ (by
  cases d with
  | list _ => cases hd
  | none => exact q
  | bool _ => exact q
  | int _ => exact q
  | str _ => exact q
  | tuple _ => cases hd
  | dict _ => cases hd)))
theorem s_while {t : WT} (I : Rho → Mem → Prop) (m : Rho → Mem → Nat) (h0 : I ρ μ) (hs : ∀ ρ μ, I ρ μ → t ρ μ fun b => if b = true then W { nx := fun ρ' μ' => I ρ' μ' ∧ m ρ' μ' < m ρ μ, ct := fun ρ' μ' => I ρ' μ' ∧ m ρ' μ' < m ρ μ, bk := fun ρ μ => W2 E ρ μ, rt := E.rt, fr := E.fr, ow := E.ow } ρ μ else W2 E ρ μ) : wSeq (wWhile t W) W2 E ρ μ := ⟨I, m, h0, hs⟩
theorem ret_own {p : Addr} {ds : List PyData} (hp : μ p = some (ds.map .dat)) (q : E.rt (.list ds)) : retA E μ (.own p) := by
  unfold retA
  dsimp only
  rw [hp]
  dsimp only
  rw [dats_map]
  exact q
end
theorem cut_take {α : Type} {xs : List α} {i : Int} (h : 0 ≤ i) : cutD xs none (some i) = xs.take i.toNat := by
  unfold cutD
  rw [HT.sIx_none, show HT.sIx xs.length xs.length (some i) = min i.toNat xs.length by
    have e : i = ((i.toNat : Nat) : Int) := by omega
    rw [e]
    exact HT.sIx_nat xs.length xs.length i.toNat, List.drop_zero, Nat.sub_zero]
  rw [List.take_eq_take_iff]
  omega
theorem way_get {y : Yard} {k m : Nat} {w : Way} (h : y.way? k m = some w) : ∃ v : Wrk, y.works[k]? = some v ∧ v.ways[m]? = some w := by
  unfold Yard.way? at h
  cases e : y.works[k]? with
  | none => rw [e] at h; cases h
  | some v => rw [e] at h; exact ⟨v, rfl, h⟩
theorem ev_wrk {y : Yard} {k : Nat} {v : Wrk} {ρ : Rho} {μ : Mem} {wa wb : WE} (h0 : Evs wa ρ μ (.dat y.e)) (h1 : Evs wb ρ μ (.dat (.int k))) (hk : y.works[k]? = some v) : Evs (wOp gIx (wOp gIx wa (wC (.int 3))) wb) ρ μ (.dat v.e) := ev_ixT (ev_ixT h0 ev_k rfl) h1 (at_map (f := Wrk.e) hk)
theorem ev_way {y : Yard} {k m : Nat} {w : Way} {ρ : Rho} {μ : Mem} {wa wb wc : WE} (h0 : Evs wa ρ μ (.dat y.e)) (h1 : Evs wb ρ μ (.dat (.int k))) (h2 : Evs wc ρ μ (.dat (.int m))) (hw : y.way? k m = some w) : Evs (wOp gIx (wOp gIx (wOp gIx (wOp gIx wa (wC (.int 3))) wb) (wC (.int 2))) wc) ρ μ (.dat w.e) := by
  obtain ⟨v, hk, hm⟩ := way_get hw
  exact ev_ixT (ev_ixT (ev_wrk h0 h1 hk) ev_k rfl) h2 (at_map (f := Way.e) hm)
theorem Yard.ok.way {y : Yard} (ho : y.ok) {k m : Nat} {w : Way} (h : y.way? k m = some w) : w.ok y.stuffs.length := by
  obtain ⟨v, h1, h2⟩ := way_get h
  exact (ho.ws v (List.mem_of_getElem? h1)).ws w (List.mem_of_getElem? h2)
theorem idle_contains {y : Yard} {w : Way} {x : Int} : (y.idle w).contains x = (!decide (w.rests = 0) && y.shut.contains x) := by
  unfold Yard.idle
  by_cases h : w.rests = 0
  · rw [if_pos h, decide_eq_true h]; rfl
  · rw [if_neg h, decide_eq_false h]; rfl
/-- what was gone through day by day is what is due -/
theorem go_of {y : Yard} {w : Way} {b d : Int} (hl : 0 ≤ w.long) (hb : b ≤ d) (hd : d ≤ y.days) (hlen : ((free (y.idle w) b d).length : Int) ≤ w.long) (hend : ¬ (d < y.days ∧ ((free (y.idle w) b d).length : Int) < w.long)) : (free (y.idle w) b y.days).take w.long.toNat = free (y.idle w) b d := by
  rw [free_app hb hd]
  by_cases h : d < y.days
  · rw [List.take_append_of_le_length (by omega), List.take_of_length_le (by omega)]
  · rw [show d = y.days by omega, free_nil, List.append_nil]
    exact List.take_of_length_le (by rw [show d = y.days by omega] at hlen; omega)
/-! ### defs with defaults behind a star -/
def permD {α : Type} (z : α) (π : List Nat) (n m : Nat) (mv : List α) : List α → List α → List α := fun us ws => if us.length = n ∧ ws.length = m then π.map (fun i => (us ++ ws ++ mv).getD i z) else []
theorem getD_rel {K : PySem.W.Frag} {S : Hs} {μ : Mem} {G : Hp} {vs : List V} {as : List A} (h : Ras K S μ G vs as) (i : Nat) : Ra K S μ G (vs.getD i .non) (as.getD i (.dat .none)) := by
  by_cases hi : i < as.length
  · obtain ⟨v, e1, e2⟩ := h.get (i := i) (List.getElem?_eq_getElem hi)
    rw [List.getD, e1, List.getD, List.getElem?_eq_getElem hi]
    exact e2
  · rw [List.getD, List.getD, List.getElem?_eq_none (by rw [h.len]; omega), List.getElem?_eq_none (by omega)]
    exact .dat .non
theorem getD_vals {vs : List V} {us : List Value} (h : Vals vs us) (i : Nat) : RelV (vs.getD i .non) (us.getD i Value.none) := by
  by_cases hi : i < vs.length
  · obtain ⟨v, e1, e2⟩ := h.get (i := i) (List.getElem?_eq_getElem hi)
    rw [List.getD, List.getD, e1, List.getElem?_eq_getElem hi]
    exact e2
  · rw [List.getD, List.getD, List.getElem?_eq_none (by omega), List.getElem?_eq_none (by rw [← h.length]; omega)]
    rfl
theorem gaD_mk {π : List Nat} {n m : Nat} {mz : List V} {das : List A} (h : ∀ K S μ G, Ras K S μ G mz das) : GA (permD .non π n m mz) (permD (.dat .none) π n m das) := fun K S μ G vs as zs bs h1 h2 => by
  unfold permD
  rw [h1.len, h2.len]
  split
  · have h3 := (h1.app h2).app (h K S μ G)
    induction π with
    | nil => exact .nil
    | cons i π ih => exact .cons (getD_rel h3 i) ih
  · exact .nil
theorem kbD_mk {K : PySem.W.Frag} {x : Str} {st : Stmt} {ps ks : List Str} {kws ms : List (Str × V)} {f : Addr} {fd : FuncData} {π : List Nat} {n m : Nat} (F : FunD K x x (defArgs st) (defBody st) (defScope st) [] kws f fd) (h0 : 0 < ps.length) (hk : kws ≠ []) (hms : ∀ q ∈ ms, q ∈ kws)
    (hb : ∀ (D : Addr) (doc pm : Value) (an : Option Addr) (cdv ct : Value) (us ws mv : List Value), us.length = n → ws.length = m → mv.length = ms.length → KwChain D ((ms.map (·.1)).zip mv) (bindArgs (PySem.W.fnOf x x (defArgs st) (defBody st) (defScope st) .none (.ref D) doc pm an cdv ct) ⟨us, ks.zip ws⟩) (ps.zip (π.map fun i => (us ++ ws ++ mv).getD i Value.none))) :
    ∃ mv, KBinds K fd ps ks (permD Value.none π n m mv) (permD .non π n m (ms.map (·.2))) := by
  obtain ⟨oc, od, dV, kV, doc, pm, an, cdv, ct, osl, rfl, lk, hcd, hD, hK⟩ := F.ex
  rcases hD with ⟨_, rfl⟩ | ⟨e, _⟩
  · rcases hK with e | ⟨D, rfl, hq⟩
    · exact absurd e hk
    · obtain ⟨mv, hl, rk, hks⟩ := kwd_vals (ms := ms) fun q hm => hq q (hms q hm)
      refine ⟨mv, fun s us ws X hlen => ?_, fun {vs us zs ws} r1 r2 => ?_⟩
      · unfold permD at hlen ⊢
        split at hlen
        · rename_i h
          rw [if_pos h]
          exact BindsTo.of_looks fun M => KwChain.looks X hks (hb D doc pm an cdv ct us ws mv h.1 h.2 hl)
        · exact absurd hlen (by show ¬ (0 = ps.length); omega)
      · unfold permD
        rw [r1.length, r2.length]
        split
        · have h3 := (r1.append r2).append rk
          clear hb
          induction π with
          | nil => exact .nil
          | cons i π ih => exact .cons (getD_vals h3 i) ih
        · exact .nil
  · exact absurd rfl e
theorem funD_mk {K : PySem.W.Frag} {x : Str} {st : Stmt} {kws : List (Str × V)} {f D : Addr} {oc : Value} {od an : Option Addr} {osl : Array (Option Value)} {doc pm cdv ct : Value} (l : K.lookup f = some ⟨oc, od, .func (PySem.W.fnOf x x (defArgs st) (defBody st) (defScope st) .none (.ref D) doc pm an cdv ct), osl⟩) (c : PySem.W.codeIn K cdv x = true) (k : PySem.W.keepIn K (.ref f) = true)
    (hq : ∀ q ∈ kws, ∃ u, PySem.W.nsIn K D q.1 = some (some u) ∧ RelV q.2 u) : FunD K x x (defArgs st) (defBody st) (defScope st) [] kws f (PySem.W.fnOf x x (defArgs st) (defBody st) (defScope st) .none (.ref D) doc pm an cdv ct) :=
  ⟨⟨oc, od, .none, .ref D, doc, pm, an, cdv, ct, osl, rfl, l, c, .inl ⟨rfl, rfl⟩, .inr ⟨D, rfl, hq⟩⟩, k⟩
/-! ### what is held -/
def eO : Option Int → PyData
  | none => .none
  | some i => .int i
/-- what is held from fi to ahead of pa -/
def Yard.held (y : Yard) (w : Way) (b : Int) (n fi pa : Int) : Option Int := (y.go w b).map fun l => n * ((l.filter fun d => decide (fi ≤ d) && decide (d < pa)).length : Nat)
def Fcstuff : FS := fun as Q => ∃ (y : Yard) (s : Nat), as = [.dat y.e, .dat (.int s)] ∧ y.ok ∧ s < y.stuffs.length ∧ Q .none
def Fheld : FS := fun as Q => ∃ (y : Yard) (k m : Nat) (w : Way) (b : Int) (s : Nat) (n fi pa : Int), as = [.dat y.e, .dat (.int k), .dat (.int m), .dat (.int b), .dat (.int s), .dat (.int fi), .dat (.int pa)] ∧ y.ok ∧ y.way? k m = some w ∧ 0 ≤ b ∧ b < y.days ∧ w.needs[s]? = some n ∧ Q (eO (y.held w b n fi pa))
def Fholding : FS := fun as Q => ∃ (y : Yard) (k m : Nat) (w : Way) (b : Int) (s : Nat) (n fi : Int) (pa : Option Int), as = [.dat y.e, .dat (.int k), .dat (.int m), .dat (.int b), .dat (.int s), .dat (.int fi), .dat (eO pa)] ∧ y.ok ∧ y.way? k m = some w ∧ 0 ≤ b ∧ b < y.days ∧ w.needs[s]? = some n ∧ Q (eO (y.held w b n fi (pa.getD y.days)))
def Ffar : FS := fun as Q => as = [.drw] ∧ ∀ x : Int, Q (.int x)
theorem mulOk {i j : Int} (h0 : 0 ≤ i) (h9 : i ≤ 9) : CMul i j := .inl ⟨by omega, by omega⟩
theorem go_len {y : Yard} {w : Way} {b : Int} {l : List Int} (h : y.go w b = some l) : (l.length : Int) = w.long := by
  unfold Yard.go going at h
  split at h
  · cases h
  · dsimp only at h
    split at h
    · rename_i e; rw [← Option.some.inj h]; exact e
    · cases h
/-! shapes of yards -/
theorem shp_eI (ns : List Int) : (eI ns).canLay0 = true ∧ (eI ns).depth ≤ 1 := by
  obtain ⟨h1, h2⟩ := shp_all (ds := ns.map PyData.int) (n := 0) fun d hd => by obtain ⟨k, _, rfl⟩ := List.mem_map.mp hd; exact ⟨rfl, Nat.le_refl _⟩
  unfold eI PyData.canLay0 PyData.depth
  exact ⟨h1, by omega⟩
theorem shp_tup {ds : List PyData} {n : Nat} (h : ∀ d ∈ ds, d.canLay0 = true ∧ d.depth ≤ n) : (PyData.tuple ds).canLay0 = true ∧ (PyData.tuple ds).depth ≤ n + 1 := by
  obtain ⟨h1, h2⟩ := shp_all h
  unfold PyData.canLay0 PyData.depth
  exact ⟨h1, by omega⟩
theorem shp_int (i : Int) {n : Nat} : (PyData.int i).canLay0 = true ∧ (PyData.int i).depth ≤ n := ⟨rfl, Nat.zero_le _⟩
theorem shp_way (w : Way) : w.e.canLay0 = true ∧ w.e.depth ≤ 2 := shp_tup fun d hd => by
  rcases (show d = .int w.long ∨ d = .int w.rests ∨ d = eI w.needs by simpa using hd) with rfl | rfl | rfl
  · exact shp_int _
  · exact shp_int _
  · exact shp_eI _
theorem shp_wrk (w : Wrk) : w.e.canLay0 = true ∧ w.e.depth ≤ 4 := shp_tup fun d hd => by
  rcases (show d = .int w.low ∨ d = .int w.high ∨ d = .tuple (w.ways.map Way.e) by simpa using hd) with rfl | rfl | rfl
  · exact shp_int _
  · exact shp_int _
  · exact shp_tup fun e he => by obtain ⟨v, _, rfl⟩ := List.mem_map.mp he; exact shp_way v
theorem shaped_of {d : PyData} {n : Nat} (h : d.canLay0 = true ∧ d.depth ≤ n) (hn : n ≤ 64) : SeqAt.shaped d = true := by
  unfold SeqAt.shaped
  rw [h.1, decide_eq_true (by omega)]
  rfl
theorem shp_works (y : Yard) : SeqAt.shaped (.tuple (y.works.map Wrk.e)) = true := shaped_of (n := 5) (shp_tup fun d hd => by obtain ⟨v, _, rfl⟩ := List.mem_map.mp hd; exact shp_wrk v) (by decide)
theorem shp_stuffs (y : Yard) : SeqAt.shaped (.tuple (y.stuffs.map eI)) = true := shaped_of (n := 2) (shp_tup fun d hd => by obtain ⟨v, _, rfl⟩ := List.mem_map.mp hd; exact shp_eI v) (by decide)
theorem eqv_nil (ds : List PyData) : PyData.eqv (.tuple ds) (.tuple []) = ds.isEmpty := by cases ds <;> rfl
theorem rsvs_own2 {μ : Mem} {p q : Addr} {ds es : List PyData} (h : μ p = some (ds.map .dat)) (h2 : μ q = some (es.map .dat)) : rsvs μ [.own p, .own q] = some [.dat (.list ds), .dat (.list es)] := by
  unfold rsvs
  rw [rsvA_own h]
  unfold rsvs
  rw [rsvA_own h2]
  rfl
end Hv

set_option Elab.async false
set_option linter.all false
set_option maxRecDepth 100000
namespace Hv
open PySem PySem.Spec PyProof.Rows L2 Hod
/-! ### min of one list -/
def gMin1 : GC := fun μ as Q => match as with | [.dat (.list ds)] => (match intsD ds with | some ns => 0 < ns.length ∧ ∀ m, m ∈ ns → (∀ y, y ∈ ns → m ≤ y) → Q (.dat (.int m)) | none => False) | _ => False
theorem c_min1 {K : PySem.W.Frag} : CW K (rMin K) gMin1 := fun S B xs H μ as Q Q2 gd rs q k => by
  cases rs with
  | nil => exact q.elim
  | @cons v vs a as r rs =>
    cases rs with
    | cons _ _ => cases a <;> first | exact q.elim | (rename_i d; cases d <;> exact q.elim)
    | nil =>
      cases r with
      | dat r =>
        cases r with
        | @lst p xs ds h1 h2 =>
          unfold gMin1 at q
          dsimp only at q
          split at q
          · rename_i bs hb
            exact ⟨p, bs, rfl, by rw [← ints_ok h2 hb]; exact SqL.of (off_same _ _ h1), q.1, fun m hm hy => k _ H _ .refl gd (.dat (.int _)) (fun _ _ e => nomatch e) (q.2 m hm hy)⟩
          · exact q.elim
        | _ => exact q.elim
      | _ => exact q.elim
theorem ev_min1 {ρ : Rho} {μ : Mem} {w : WE} {ns : List Int} {m : Int} (h : Evs w ρ μ (.dat (.list (ns.map PyData.int)))) (hm : m ∈ ns) (hy : ∀ y ∈ ns, m ≤ y) : Evs (wCB gMin1 (waCons w waNil)) ρ μ (.dat (.int m)) := fun Q q => h _ (by
  show (match intsD (ns.map PyData.int) with | some ns => 0 < ns.length ∧ ∀ m, m ∈ ns → (∀ y, y ∈ ns → m ≤ y) → Q (.dat (.int m)) | none => False)
  rw [ints_map]
  refine ⟨List.length_pos_of_mem hm, fun m2 h1 h2 => ?_⟩
  have e : m2 = m := Int.le_antisymm (h2 m hm) (hy m2 h1)
  rw [e]
  exact q)
theorem rsvs_own3 {μ : Mem} {p : Addr} {ds : List PyData} {d : PyData} (h : μ p = some (ds.map .dat)) : rsvs μ [.dat d, .own p] = some [.dat d, .dat (.list ds)] := by
  unfold rsvs
  show (match rsvs μ [.own p] with | some bs => some (A.dat d :: bs) | none => none) = _
  unfold rsvs
  rw [rsvA_own h]
  rfl
/-! ### ends -/
/-- rising -/
def Up : List Int → Prop
  | [] => True
  | x :: xs => (∀ z ∈ xs, x < z) ∧ Up xs
theorem up_filter {c : Int → Bool} : ∀ {l : List Int}, Up l → Up (l.filter c)
  | [], _ => trivial
  | x :: xs, h => by
    cases e : c x with
    | true =>
      rw [List.filter_cons_of_pos e]
      exact ⟨fun z hz => h.1 z (List.mem_filter.mp hz).1, up_filter h.2⟩
    | false =>
      rw [List.filter_cons_of_neg (by simp [e])]
      exact up_filter h.2
theorem up_rng : ∀ (n : Nat) (b : Int), Up (rngI b n)
  | 0, _ => trivial
  | n + 1, b => by
    rw [show n + 1 = 1 + n by omega, rngI_add, rngI_one]
    exact ⟨fun z hz => by have := mem_rngI.mp hz; omega, up_rng n _⟩
theorem up_free (idle : List Int) (b e : Int) : Up (free idle b e) := up_filter (up_rng _ _)
theorem up_get : ∀ {l : List Int} {i j : Nat} {x z : Int}, Up l → i < j → l[i]? = some x → l[j]? = some z → x < z
  | [], _, _, _, _, _, _, h, _ => by simp at h
  | a :: l, 0, j + 1, x, z, u, _, h1, h2 => by
    have e : a = x := by simpa using h1
    rw [← e]
    exact u.1 z (List.mem_of_getElem? (by simpa using h2))
  | a :: l, i + 1, j + 1, x, z, u, hij, h1, h2 => up_get u.2 (by omega : i < j) (by simpa using h1) (by simpa using h2)
def Yard.endOf (y : Yard) (w : Way) (b : Int) : Option Int := (y.go w b).bind fun l => l.getLast?.map fun x => x + 1
theorem go_some {y : Yard} {w : Way} {b : Int} {l : List Int} (h : y.go w b = some l) : l = (free (y.idle w) b y.days).take w.long.toNat := by
  unfold Yard.go going at h
  split at h
  · cases h
  · dsimp only at h
    split at h
    · exact (Option.some.inj h).symm
    · cases h
theorem last_go {y : Yard} {w : Way} {b : Int} {l : List Int} (h : y.go w b = some l) (h1 : 1 ≤ w.long) : ∃ x, l.getLast? = some x ∧ (free (y.idle w) b y.days)[w.long.toNat - 1]? = some x ∧ x < y.days := by
  have hl := go_len h
  have e := go_some h
  obtain ⟨x, hx⟩ : ∃ x, l.getLast? = some x := by
    cases l with
    | nil => exact absurd hl (by show ¬ ((0 : Int) = _); omega)
    | cons a r => exact ⟨_, List.getLast?_eq_getLast (List.cons_ne_nil _ _)⟩
  have h2 : (free (y.idle w) b y.days)[w.long.toNat - 1]? = some x := by
    rw [List.getLast?_eq_getElem?] at hx
    rw [show l.length - 1 = w.long.toNat - 1 by omega, e, List.getElem?_take_of_lt (by omega)] at hx
    exact hx
  refine ⟨x, hx, h2, ?_⟩
  have hm := List.mem_of_getElem? h2
  have := mem_rngI.mp (List.mem_filter.mp hm).1
  by_cases hb : b ≤ y.days
  · omega
  · have e0 : (y.days - b).toNat = 0 := by omega
    rw [e0] at this
    omega
theorem endOf_some {y : Yard} {w : Way} {b : Int} {l : List Int} (h : y.go w b = some l) (h1 : 1 ≤ w.long) : ∃ x, l.getLast? = some x ∧ y.endOf w b = some (x + 1) ∧ x < y.days := by
  obtain ⟨x, h2, _, h3⟩ := last_go h h1
  refine ⟨x, h2, ?_, h3⟩
  unfold Yard.endOf
  rw [h]
  show l.getLast?.map _ = _
  rw [h2]
  rfl
/-- later beginnings end no sooner -/
theorem endOf_mono {y : Yard} {w : Way} {b c e f : Int} (h1 : 1 ≤ w.long) (hbc : b ≤ c) (hc : c ≤ y.days) (hb : y.endOf w b = some e) (hf : y.endOf w c = some f) : e ≤ f := by
  cases gb : y.go w b with
  | none => unfold Yard.endOf at hb; rw [gb] at hb; cases hb
  | some l =>
    cases gc : y.go w c with
    | none => unfold Yard.endOf at hf; rw [gc] at hf; cases hf
    | some m =>
      obtain ⟨x, x1, x2, x3⟩ := last_go gb h1
      obtain ⟨z, z1, z2, z3⟩ := last_go gc h1
      obtain ⟨x', e1, e2, _⟩ := endOf_some gb h1
      obtain ⟨z', f1, f2, _⟩ := endOf_some gc h1
      rw [x1] at e1; rw [z1] at f1
      cases e1; cases f1
      rw [hb] at e2; rw [hf] at f2
      cases e2; cases f2
      have h3 : (free (y.idle w) b y.days)[(free (y.idle w) b c).length + (w.long.toNat - 1)]? = some z := by
        rw [free_app hbc hc, List.getElem?_append_right (by omega), show (free (y.idle w) b c).length + (w.long.toNat - 1) - (free (y.idle w) b c).length = w.long.toNat - 1 by omega]
        exact z2
      by_cases h0 : (free (y.idle w) b c).length = 0
      · rw [h0, Nat.zero_add, x2] at h3
        cases h3
        omega
      · have := up_get (up_free (y.idle w) b y.days) (show w.long.toNat - 1 < (free (y.idle w) b c).length + (w.long.toNat - 1) by omega) x2 h3
        omega
/-- the ends of the beginnings from d on, in their order -/
def Yard.ends (y : Yard) (w : Way) (d : Int) : List Int := (rngI d (y.days - d).toNat).filterMap (y.endOf w)
def Yard.endFrom (y : Yard) (w : Way) (d : Int) : Option Int := (y.ends w d).head?
theorem filterMap_up {f : Int → Option Int} {P : Int → Prop} (hm : ∀ b c e g, b < c → P b → P c → f b = some e → f c = some g → e ≤ g) : ∀ {l : List Int}, Up l → (∀ x ∈ l, P x) → ∀ {e : Int}, (l.filterMap f).head? = some e → ∀ g ∈ l.filterMap f, e ≤ g
  | [], _, _, e, h, g, hg => by cases hg
  | x :: l, u, hp, e, h, g, hg => by
    cases hx : f x with
    | none =>
      rw [List.filterMap_cons_none hx] at h hg
      exact filterMap_up hm u.2 (fun z hz => hp z (by simp [hz])) h g hg
    | some v =>
      rw [List.filterMap_cons_some hx] at h hg
      have ev : v = e := by simpa using h
      subst ev
      rcases List.mem_cons.mp hg with rfl | hg
      · exact Int.le_refl _
      · obtain ⟨c, hc, hfc⟩ := List.mem_filterMap.mp hg
        exact hm x c _ g (u.1 c hc) (hp x (by simp)) (hp c (by simp [hc])) hx hfc
theorem ends_small {y : Yard} {w : Way} {d e : Int} (h1 : 1 ≤ w.long) (h : e ∈ y.ends w d) : e ≤ y.days := by
  obtain ⟨c, _, hc⟩ := List.mem_filterMap.mp h
  cases g : y.go w c with
  | none => unfold Yard.endOf at hc; rw [g] at hc; cases hc
  | some l =>
    obtain ⟨x, _, h2, h3⟩ := endOf_some g h1
    rw [hc] at h2
    cases h2
    omega
theorem ends_least {y : Yard} {w : Way} {d e : Int} (h1 : 1 ≤ w.long) (h : y.endFrom w d = some e) : ∀ g ∈ y.ends w d, e ≤ g := by
  refine filterMap_up (P := fun x => x ≤ y.days) (fun b c e g hbc _ hc hb hg => endOf_mono h1 (by omega) hc hb hg) (up_rng _ _) (fun x hx => ?_) h
  have := mem_rngI.mp hx
  by_cases hd : d ≤ y.days
  · omega
  · rw [show (y.days - d).toNat = 0 by omega] at this; omega
def Fend : FS := fun as Q => ∃ (y : Yard) (k m : Nat) (w : Way) (b : Int), as = [.dat y.e, .dat (.int k), .dat (.int m), .dat (.int b)] ∧ y.ok ∧ y.way? k m = some w ∧ 0 ≤ b ∧ b < y.days ∧ Q (eO (y.endFrom w b))
def Fstop : FS := fun as Q => ∃ (y : Yard) (k m : Nat) (w : Way) (b : Int), as = [.dat y.e, .dat (.int k), .dat (.int m), .dat (.int b)] ∧ y.ok ∧ y.way? k m = some w ∧ 0 ≤ b ∧ b < y.days ∧ Q (eO (y.endOf w b))
def FstopFrom : FS := fun as Q => ∃ (y : Yard) (k m : Nat) (w : Way) (b : Int), as = [.dat y.e, .dat (.int k), .dat (.int m), .dat (.int b)] ∧ y.ok ∧ y.way? k m = some w ∧ 0 ≤ b ∧ b < y.days ∧ Q (.int ((y.endFrom w b).getD 1000000))
theorem at_last {l : List Int} {x : Int} (h : l.getLast? = some x) : atI (l.map PyData.int) (-1) = some (.int x) := by
  obtain ⟨r, rfl⟩ := List.getLast?_eq_some_iff.mp h
  rw [List.map_append]
  exact atI_last _ _
theorem dep_eO (o : Option Int) : dep (eO o) < 1 := by cases o <;> exact Nat.zero_lt_one
theorem nol_eO (o : Option Int) : nol (eO o) = true := by cases o <;> rfl
end Hv

set_option Elab.async false
set_option linter.all false
set_option maxRecDepth 100000
namespace Hv
open PySem PySem.Spec PyProof.Rows L2 Hod
/-! ### a list's item, by its getItem -/
theorem pget_list {X : Cx} : PGet X (rIxL X.K) := by
  intro pins s σ H o i ov iv Q I ro ri h
  obtain ⟨p, xs, k, z, rfl, rfl, hq, he, q⟩ := h
  cases ro
  obtain ⟨t, rfl⟩ := ri
  obtain ⟨its, r, pl, hz⟩ := I.list hq
  obtain ⟨j, h1, h2, h3, h4, h5⟩ := atI_get he
  obtain ⟨w, ew, rw'⟩ := r.get h2
  have hlen := r.length
  have hn := line63
  have done : EP X pins σ Q w s := ⟨z, H, I, rw', q⟩
  by_cases h0 : 0 ≤ k
  · have hj : k.toNat = j := Option.some.inj ((seqIndex_of h0 h5).symm.trans h1)
    exact wpAny_getItem_list pl.isList h0 (by omega) (by rw [hj]; simpa using ew) done
  · have hj : (k + (its.toArray.size : Int)).toNat = j := by
      rw [List.size_toArray, ← hlen]
      exact Option.some.inj ((seqIndex_neg (by omega) h4).symm.trans h1)
    exact wpAny_getItem_list_neg pl.isList (by omega) (by rw [List.size_toArray] <;> omega) (by omega) (by rw [hj]; simpa using ew) done
section
variable {X : Cx} {xl : XLT X.K} {o i e : Expr} {pos : Pos} {wo wi w : WE}
/-- o[i] += e, o a list of one's own with ints -/
def wAug2 (wo wi we : WE) : WS := fun E ρ μ => wo ρ μ fun o => wi ρ μ fun i => match cel μ o, i with
  | some (p, xs), .dat (.int k) => (match ixN xs.length k with
    | some j => (match xs[j]? with
      | some (.dat (.int x)) => we ρ μ fun a => (match a with | .dat (.int y) => E.nx ρ (put μ p (xs.set j (.dat (.int (x + y))))) | _ => False)
      | _ => False)
    | none => False)
  | _, _ => False
theorem vs_aug2 {tpos : Pos} (ho : VE X xl o wo) (hi : VE X xl i wi) (he : VE X xl e w)
    (ha : ∀ ov iv new, augStore i ov iv new = (do holding [new, ov, iv] (setItem ov iv new); release [new, ov, iv] []; pure .next) := by intros; rfl) : VS X xl (.AugAssign (.Subscript o i tpos) .Add e pos) (wAug2 wo wi w) := by
  refine ps_weak (ps_augS ho hi pget_list he ip_add set_list ha) fun D σ H ⟨S, B, H0, G0, ρ, μ, E, s, w, r⟩ => ⟨S, B, ρ, μ, _, s.st, w, fun v H1 a e1 g1 ra q1 => ?_⟩
  have s1 := s.ex e1 g1
  refine ⟨S, B, ρ, μ, _, s1.st, q1, fun v2 H2 a2 e2 g2 r2 q2 => ?_⟩
  have s2 := s1.ex e2 g2
  split at q2
  · rename_i p xs k hc
    obtain ⟨rfl, hm, _⟩ := cel_ok g1 ra hc
    split at q2
    · rename_i j hj
      split at q2
      · rename_i x hx
        cases r2 with
        | dat r2 =>
          cases r2
          obtain ⟨_, vs, h3, h4⟩ := g2.ls (cel_L ra hc) hm
          obtain ⟨z, z1, z2⟩ := h4.get hx
          cases z2 with
          | dat z2 =>
            cases z2
            refine ⟨p, vs, k, .int x, rfl, rfl, SqL.of h3, ?_, S, B, ρ, μ, _, s2.st, q2, fun v4 H4 a4 e4 g4 r4 q4 => ?_⟩
            · unfold atI
              rw [h4.len, hj]
              exact z1
            · have s4 := s2.ex e4 g4
              cases r4 with
              | dat r4 =>
                cases r4 with
                | int y =>
                  obtain ⟨_, vs4, h5, h6⟩ := g4.ls (cel_L ra hc) hm
                  exact ⟨x, y, rfl, rfl, p, vs4, k, j, rfl, rfl, h5, by rw [h6.len]; exact hj, r.nx _ _ _ _ (own_set s4 (cel_L ra hc) hm (h6.set j (.dat (.int _)))) q4⟩
                | _ => exact q4.elim
              | _ => exact q4.elim
      · exact q2.elim
    · exact q2.elim
  · exact q2.elim
end
/-! ### a list of lists handed back -/
def rsvL (μ : Mem) : List A → Option (List PyData)
  | [] => some []
  | a :: as => match rsv μ a, rsvL μ as with | some d, some ds => some (d :: ds) | _, _ => none
theorem rsv_rp {K : PySem.W.Frag} {S : Hs} {B : Hid} {μ : Mem} {H : Hp} {v : V} {a : A} {d : PyData} (g : Good K S B μ H) (r : Ra K S μ (off B μ H) v a) (h : rsv μ a = some d) : Rp K (off B emp H) v d := by
  cases r with
  | dat r => cases h; exact r.mono same_open _ _
  | @own p h1 =>
    unfold rsv at h
    dsimp only at h
    cases q : μ p with
    | none => rw [q] at h; cases h
    | some xs =>
      rw [q] at h
      dsimp only at h
      obtain ⟨b1, vs, e1, e2⟩ := g.ls h1 q
      cases hd : dats xs with
      | none => rw [hd] at h; cases h
      | some ds =>
        rw [hd] at h
        cases h
        exact .lst (by rw [off_of b1 rfl]; exact e1) ((e2.rps hd).mono same_open _ _)
  | drw _ => cases h
  | ty => cases h
  | fn => cases h
  | obj => cases h
theorem rsvL_rp {K : PySem.W.Frag} {S : Hs} {B : Hid} {μ : Mem} {H : Hp} (g : Good K S B μ H) : ∀ {as : List A} {vs : List V} {ds : List PyData}, Ras K S μ (off B μ H) vs as → rsvL μ as = some ds → Rps K (off B emp H) vs ds
  | [], _, _, h, e => by cases h; cases e; exact .nil
  | a :: as, _, _, h, e => by
    cases h with
    | cons h1 h2 =>
      unfold rsvL at e
      split at e
      · rename_i d ds e1 e2
        cases e
        exact .cons (rsv_rp g h1 e1) (rsvL_rp g h2 e2)
      · cases e
def wRet2 (w : WE) : WS := fun E ρ μ => w ρ μ fun a => match cel μ a with | some (p, xs) => (match rsvL μ xs with | some ds => E.rt (.list ds) | none => False) | none => False
theorem vs_ret2 {X : Cx} {xl : XLT X.K} {e : Expr} {pos : Pos} {w : WE} (he : VE X xl e w) : VS X xl (.Return (some e) pos) (wRet2 w) := by
  refine ps_weak (ps_ret he) fun D σ H ⟨S, B, H0, G0, ρ, μ, E, s, w, r⟩ => ⟨S, B, ρ, μ, _, s.st, w, fun v H1 a e1 g1 ra q1 => ?_⟩
  have s1 := s.ex e1 g1
  split at q1
  · rename_i p xs hc
    obtain ⟨rfl, hm, _⟩ := cel_ok g1 ra hc
    split at q1
    · rename_i ds hd
      obtain ⟨b1, vs, h1, h2⟩ := g1.ls (cel_L ra hc) hm
      refine r.rt _ _ _ s1.old g1.open (.lst (by rw [off_of b1 rfl]; exact h1) (rsvL_rp g1 h2 hd)) (fun _ p2 _ e _ => ?_) q1
      cases e
      cases hz : H0 p with
      | none => rfl
      | some o => have := s1.fre p (by rw [hz]; exact fun z => nomatch z); rw [hm] at this; cases this
    · exact q1.elim
  · exact q1.elim
/-! ### x = [a new list for ..]: the lists within are one's own too -/
/-- the cells of some addresses -/
def putAll (μ : Mem) : List Addr → List (List PyData) → Mem
  | p :: ps, ds :: dss => putAll (put μ p (ds.map .dat)) ps dss
  | _, _ => μ
theorem putAll_out : ∀ {ps : List Addr} {dss : List (List PyData)} {μ : Mem} {a : Addr}, a ∉ ps → putAll μ ps dss a = μ a
  | [], _, _, _, _ => rfl
  | _ :: _, [], _, _, _ => rfl
  | p :: ps, ds :: dss, μ, a, h => by
    show putAll (put μ p _) ps dss a = _
    rw [putAll_out (fun z => h (by simp [z])), put_ne (fun z => h (by simp [z]))]
theorem putAll_at : ∀ {ps : List Addr} {dss : List (List PyData)} {μ : Mem} {k : Nat} {p : Addr} {ds : List PyData}, ps.Nodup → ps[k]? = some p → dss[k]? = some ds → putAll μ ps dss p = some (ds.map .dat)
  | [], _, _, _, _, _, _, h, _ => by simp at h
  | _ :: _, [], _, _, _, _, _, _, h => by simp at h
  | p :: ps, ds :: dss, μ, 0, _, _, nd, h1, h2 => by
    cases h1; cases h2
    show putAll (put μ p _) ps dss p = _
    rw [putAll_out (List.nodup_cons.mp nd).1, put_same]
  | p :: ps, ds :: dss, μ, k + 1, q, es, nd, h1, h2 => putAll_at (ps := ps) (dss := dss) (μ := put μ p (ds.map .dat)) (k := k) (List.nodup_cons.mp nd).2 (by simpa using h1) (by simpa using h2)
theorem putAll_L : ∀ {ps : List Addr} {dss : List (List PyData)} {μ : Mem} {a : Addr}, isL μ a = true → isL (putAll μ ps dss) a = true
  | [], _, _, _, h => h
  | _ :: _, [], _, _, h => h
  | p :: ps, ds :: dss, μ, a, h => putAll_L (ps := ps) (dss := dss) (put_L (unt_dat ds) h)
theorem putAll_mem {ps : List Addr} {dss : List (List PyData)} {μ : Mem} {p : Addr} (nd : ps.Nodup) (hl : ps.length = dss.length) (h : p ∈ ps) : ∃ (k : Nat) (ds : List PyData), ps[k]? = some p ∧ dss[k]? = some ds ∧ putAll μ ps dss p = some (ds.map .dat) := by
  obtain ⟨k, hk, e⟩ := List.getElem_of_mem h
  have h1 : ps[k]? = some p := by rw [List.getElem?_eq_getElem hk, e]
  have h2 : dss[k]? = some dss[k] := List.getElem?_eq_getElem (by omega)
  exact ⟨k, _, h1, h2, putAll_at nd h1 h2⟩
/-- new lists within a new list become one's own -/
theorem own_new2 {K : PySem.W.Frag} {xl : XLT K} {S : Hs} {B : Hid} {H0 G0 H H1 : Hp} {σ : L2.St} {ρ : Rho} {μ : Mem} {q : Addr} {ps : List Addr} {dss : List (List PyData)} (s : Sts K xl S B H0 G0 σ H ρ μ) (e : Ex S H H1) (g : Good K S B μ H1) (nq : H q = none) (hq : off B μ H1 q = some (.lst (ps.map V.ref)))
    (nd : ps.Nodup) (hl : ps.length = dss.length) (np : ∀ p ∈ ps, p ≠ q ∧ H p = none) (hp : ∀ (k : Nat) (p : Addr) (ds : List PyData), ps[k]? = some p → dss[k]? = some ds → (∃ xs, off B μ H1 p = some (.lst xs) ∧ Rps K (off B μ H1) xs ds) ∧ nols ds = true) (i : Nat) :
    Sts K xl S B H0 G0 (σ.set i (some (.ref q))) H1 (ρ.set i (some (.own q))) (put (putAll μ ps dss) q (ps.map .own)) := by
  obtain ⟨bq, mq, hq1⟩ := off_some hq
  have uo : unt (ps.map A.own) = true := by cases ps <;> rfl
  have new : ∀ a, H a ≠ none → put (putAll μ ps dss) q (ps.map .own) a = μ a := fun a ha => by
    have n1 : a ≠ q := fun z => ha (by rw [z]; exact nq)
    have n2 : a ∉ ps := fun z => ha (np a z).2
    rw [put_ne n1, putAll_out n2]
  have so : Same (off B μ H) (off B (put (putAll μ ps dss) q (ps.map .own)) H1) := fun a o h => by
    obtain ⟨h1, h2, h3⟩ := off_some h
    rw [off_of h1 (by rw [new a (by rw [h3]; exact fun z => nomatch z)]; exact h2)]
    exact e.keep a o (s.st.gd.sb h1) h3
  have gw : Gw μ (put (putAll μ ps dss) q (ps.map .own)) (off B μ H) (off B (put (putAll μ ps dss) q (ps.map .own)) H1) := ⟨so, fun a h => put_L uo (putAll_L h), fun a h => by
    obtain ⟨t, ys, z⟩ := isO_tag h
    unfold isO
    obtain ⟨_, o, vs, z2, _⟩ := s.st.gd.ce a _ z
    rw [new a (by rw [z2]; exact fun z => nomatch z), z]
    rfl⟩
  have nolist : ∀ a o, off B μ H1 a = some o → (∀ xs, o ≠ .lst xs) → off B (put (putAll μ ps dss) q (ps.map .own)) H1 a = some o := fun a o h hn => by
    obtain ⟨h1, h2, h3⟩ := off_some h
    have n1 : a ≠ q := fun z => by rw [z, hq] at h; exact hn _ (Option.some.inj h).symm
    have n2 : a ∉ ps := fun z => by
      obtain ⟨k, ds, k1, k2, _⟩ := putAll_mem (μ := μ) nd hl z
      obtain ⟨⟨xs, x1, _⟩, _⟩ := hp k a ds k1 k2
      rw [x1] at h
      exact hn _ (Option.some.inj h).symm
    rw [off_of h1 (by rw [put_ne n1, putAll_out n2]; exact h2)]
    exact h3
  refine .of ⟨fun a sa => ?_, g.tb, g.bd, fun a ys hy => ?_⟩ ((s.st.sl.gw gw).set i (.own (isL_of put_same uo))) (s.old.trans e) (fun a h => ?_) (fun a o h => so a o (s.vis a o h)) s.xs
  · obtain ⟨h1, c, ns, j, bg, seed, h2, h3, h4⟩ := g.dr a sa
    obtain ⟨_, c0, ns0, j0, bg0, seed0, k2, k3, k4⟩ := s.st.gd.dr a sa
    obtain ⟨r', z⟩ := e.dr a c0 _ sa k2
    rw [h2] at z
    have ec : c = c0 := V.ref.inj (List.cons.inj (HO.lst.inj (Option.some.inj z))).1
    subst ec
    exact ⟨h1, c, ns0, j, bg, seed, h2, so _ _ k3, h4⟩
  · by_cases ea : a = q
    · subst ea
      rw [put_same] at hy
      cases hy
      refine ⟨bq, _, _, hq1, (hol_unt uo).mpr rfl, ?_⟩
      rw [vals_unt uo]
      have all : ∀ p ∈ ps, isL (put (putAll μ ps dss) a (ps.map .own)) p = true := fun p hpm => by
        obtain ⟨k, ds, _, _, k3⟩ := putAll_mem (μ := μ) nd hl hpm
        exact put_L uo (isL_of k3 (unt_dat ds))
      have gen : ∀ l : List Addr, (∀ p ∈ l, isL (put (putAll μ ps dss) a (ps.map .own)) p = true) → Ras K S (put (putAll μ ps dss) a (ps.map .own)) (off B (put (putAll μ ps dss) a (ps.map .own)) H1) (l.map V.ref) (l.map .own) := by
        intro l hl2
        induction l with
        | nil => exact .nil
        | cons x l ih => exact .cons (.own (hl2 x (by simp))) (ih fun p hp2 => hl2 p (by simp [hp2]))
      exact gen ps all
    · by_cases em : a ∈ ps
      · obtain ⟨k, ds, k1, k2, k3⟩ := putAll_mem (μ := μ) nd hl em
        rw [put_ne ea, k3] at hy
        cases hy
        obtain ⟨⟨xs, x1, x2⟩, x3⟩ := hp k a ds k1 k2
        obtain ⟨b1, _, b3⟩ := off_some x1
        exact ⟨b1, _, xs, b3, (hol_unt (unt_dat ds)).mpr rfl, by rw [vals_unt (unt_dat ds)]; exact Rps.ras (nols_ok nolist ds xs x3 x2)⟩
      · rw [put_ne ea, putAll_out em] at hy
        obtain ⟨h1, o, vs, h2, hh, h3⟩ := s.st.gd.ce a ys hy
        exact ⟨h1, o, vs, e.keep a _ (s.st.gd.sb h1) h2, hh, h3.gw gw⟩
  · have n1 : a ≠ q := fun z => h (by rw [z]; exact s.old.dom _ nq)
    have n2 : a ∉ ps := fun z => h (s.old.dom _ (np a z).2)
    rw [put_ne n1, putAll_out n2]
    exact s.fre a h
/-- x = [e for ..], each e a new list without lists in it -/
def wOwn2 (i : Nat) (wi : WI) (p : Pat) (we : WE) (vs : List Nat) : WS := fun E ρ μ => wi ρ μ fun ds => ds.length ≤ 1000 ∧ ∃ g : PyData → List PyData, (∀ d ∈ ds, nols (g d) = true ∧ ∃ ρ', bindP p d (wipeA ρ vs) = some ρ' ∧ Evs we ρ' μ (.dat (.list (g d)))) ∧
  ∀ (q : Addr) (ps : List Addr), ps.Nodup → ps.length = ds.length → q ∉ ps → μ q = none → (∀ a ∈ ps, μ a = none) → E.nx (ρ.set i (some (.own q))) (put (putAll μ ps (ds.map g)) q (ps.map .own))
theorem ls_own2 {K : PySem.W.Frag} {xl : XLT K} {i : Nat} {wi : WI} {p : Pat} {we : WE} {vs : List Nat} {D : Ends} {σ : L2.St} {H : Hp} (hv : p.sub vs = true) (h : LS K xl (wOwn2 i wi p we vs) D σ H) : tLc (LI K xl wi) (gOf K p) (LT K xl0 wYes) (LF K xl0 we) vs σ H fun x H1 => gName i x σ H1 D.nx := by
  obtain ⟨S, B, H0, G0, ρ, μ, E, s, w, r⟩ := h
  refine ⟨S, B, ρ, μ, _, s.st, w, fun J H1 ds e1 g1 ⟨G, Y, wk, hG, hY⟩ ⟨hz, g, hgd, fin⟩ L nL => ?_⟩
  have s1 := s.ex e1 g1
  obtain ⟨bL, mL⟩ := g1.free nL
  have sL : S L = false := g1.sb bL
  have so : ∀ {H2 : Hp}, Ex S H1 H2 → Same (off B μ H1) (off (plus B L) μ H2) := fun {H2} ex a o h => by
    obtain ⟨h1, h2, h3⟩ := off_some h
    have ne : a ≠ L := ne_of_none h3 nL
    rw [off_of (by simp [plus, h1, ne]) h2]
    exact ex.keep a o (g1.sb h1) h3
  have sl0 := s1.st.sl.wipe vs
  refine lc_it (n := ds.length) wk (fun n H2 => Ex S H1 H2 ∧ Good K S (plus B L) μ H2 ∧ ∃ ps : List Addr, ps.length = n ∧ ps.Nodup ∧ H2 L = some (.lst (ps.map V.ref)) ∧ (∀ a ∈ ps, a ≠ L ∧ H1 a = none) ∧
    ∀ (k : Nat) (a : Addr) (d : PyData), ps[k]? = some a → ds[k]? = some d → ∃ xs, off (plus B L) μ H2 a = some (.lst xs) ∧ Rps K (off (plus B L) μ H2) xs (g d)) ?_ ?_ ?_ ?_
  · exact ⟨.new nL, g1.plus_new nL, [], rfl, List.nodup_nil, upd_same, (fun _ h => by cases h), fun k a d h => by simp at h⟩
  · exact fun n H2 hn ⟨ex, g2, _⟩ => hG H2 fun a o h => off_same _ _ (so ex a o h)
  · rintro n x H2 H3 hn ⟨ex, g2, ps, hlen, nd, hL, hfr, hps⟩ y
    obtain ⟨ex3, g3, d, hd, rd⟩ := hY n H2 x H3 (plus B L) μ hn (so ex) g2 y
    obtain ⟨hnol, ρ', hb, hev⟩ := hgd d (List.mem_of_getElem? hd)
    have exT := ex.trans ex3
    refine gOf_ok (S := S) (μ := μ) (G := off (plus B L) μ H3) off_same p d (wipeA ρ vs) ρ' x (wipe σ vs) _ hb rd (sl0.mono (so exT)) fun σ2 s2 w2 => ⟨by rw [w2 vs hv, wipe_wipe], ?_⟩
    refine ⟨S, plus B L, ρ', μ, fun b => b = true, ⟨g3, s2, trivial⟩, rfl, fun b H4 e4 g4 q4 => ?_⟩
    subst q4
    refine iteT ⟨S, plus B L, ρ', μ, fun a => a = .dat (.list (g d)), ⟨g4, s2.mono (e4.off g3), trivial⟩, hev _ rfl, fun v5 H5 a5 e5 g5 r5 n5 q5 => ?_⟩
    subst q5
    cases r5 with
    | dat r5 =>
      cases r5 with
      | @lst c xs _ k1 k2 =>
        have ex5 := (exT.trans e4).trans e5
        have hL5 : H5 L = some (.lst (ps.map V.ref)) := e5.keep _ _ sL (e4.keep _ _ sL (ex3.keep _ _ sL hL))
        have c4 : H4 c = none := n5 c _ rfl rfl
        have c1 : H1 c = none := ex.dom _ (ex3.dom _ (e4.dom _ c4))
        have ncL : c ≠ L := fun z => by
          have := e4.keep _ _ sL (ex3.keep _ _ sL hL)
          rw [← z, c4] at this
          cases this
        have ncp : c ∉ ps := fun z => by
          obtain ⟨k, hk, e⟩ := List.getElem_of_mem z
          obtain ⟨ys, y1, _⟩ := hps k c ds[k] (by rw [List.getElem?_eq_getElem hk, e]) (List.getElem?_eq_getElem (by omega))
          have y2 := e4.off g3 _ _ (ex3.off g2 _ _ y1)
          have y3 := off_same _ _ y2
          rw [c4] at y3
          cases y3
        refine ⟨ps.map V.ref, hL5, million (by rw [List.length_map]; omega), ?_, g5.upd_hid sL hL5, ps ++ [c], by simp [hlen], ?_, ?_, ?_, ?_⟩
        · exact ⟨fun a o sa h => by rw [upd_ne (ne_of_none h nL)]; exact ex5.keep a o sa h, fun a h => by
              by_cases z : a = L
              · rw [z]; exact nL
              · rw [upd_ne z] at h; exact ex5.dom a h, fun a c2 r2 sa h => by
              rw [upd_ne (ne_of_none h nL)]; exact ex5.dr a c2 r2 sa h⟩
        · exact List.nodup_append.mpr ⟨nd, by simp, fun a ha b hb2 => by
            have : b = c := by simpa using hb2
            rw [this]
            exact fun z => ncp (by rw [← z]; exact ha)⟩
        · rw [upd_same, List.map_append]
          rfl
        · intro a ha
          rcases List.mem_append.mp ha with ha | ha
          · exact hfr a ha
          · have : a = c := by simpa using ha
            rw [this]
            exact ⟨ncL, c1⟩
        · intro k a d2 hk hd2
          rw [plus_off]
          by_cases hkn : k < ps.length
          · rw [List.getElem?_append_left hkn] at hk
            obtain ⟨ys, y1, y2⟩ := hps k a d2 hk hd2
            have o5 : Same (off (plus B L) μ H2) (off (plus B L) μ H5) := fun z o h => e5.off g4 _ _ (e4.off g3 _ _ (ex3.off g2 _ _ h))
            exact ⟨ys, o5 _ _ y1, y2.mono o5 _ _⟩
          · have hk2 : k = ps.length := by
              have := lt_of_get hk
              simp at this
              omega
            subst hk2
            rw [List.getElem?_append_right (Nat.le_refl _), Nat.sub_self] at hk
            cases hk
            rw [hlen, hd] at hd2
            cases hd2
            exact ⟨xs, k1, k2⟩
      | _ => skip
  · rintro H2 ⟨ex, g2, ps, hlen, nd, hL, hfr, hps⟩
    have g3 := g1.step ex g2
    refine r.nx _ _ _ _ (own_new2 (dss := ds.map g) s (e1.trans ex) g3 (e1.dom _ nL) (by rw [off_of bL mL]; exact hL) nd (by simp [hlen]) (fun a ha => ⟨(hfr a ha).1, e1.dom _ (hfr a ha).2⟩) (fun k a es hk hes => ?_) i) (fin L ps nd hlen (fun z => (hfr L z).1 rfl) mL (fun a ha => (g1.free (hfr a ha).2).2))
    rw [List.getElem?_map] at hes
    cases hd : ds[k]? with
    | none => rw [hd] at hes; cases hes
    | some d =>
      rw [hd] at hes
      cases hes
      obtain ⟨xs, x1, x2⟩ := hps k a d hk hd
      exact ⟨⟨xs, plus_sub _ _ x1, x2.mono plus_sub _ _⟩, (hgd d (List.mem_of_getElem? hd)).1⟩
section
variable {X : Cx} {xl : XLT X.K} {i : Nat} {y : Str} {py pos : Pos} {elt tg iter : Expr} {scope : Scope} {own : List (Str × Nat)} {spos : Pos} {wi : WI} {we : WE}
theorem vs_ownLc2 (p : Pat) (hc : X.calm = true) (hN : X.N.Nodup) (hy : X.N[i]? = some y) (hyl : X.env.scope.names.lookup y = some .local)
    (hsw : swapsWith (.ListComp elt [⟨tg, iter, [], 0⟩] scope pos) (some (.Name y py)) spos.line X.env = pure true) (hi : VI X xl tg iter wi) (ok : BlkOk X.N X.env.scope scope own)
    (hg : ∀ (s : Shared) (H : Hp) (C : Addr) (cl : List (Str × Addr)) (fp : List Addr), PG (X.blk s H scope (compEnvC scope cl C X.env) fp) tg (gOf X.K p)) (he : ∀ (s : Shared) (H : Hp) (C : Addr) (cl : List (Str × Addr)) (fp : List Addr), VF (X.blk s H scope (compEnvC scope cl C X.env) fp) xl0 elt we)
    (hv : p.sub (own.map (·.2)) = true := by rfl) (hs : ∀ x, foldedSetIterable iter X.env x = pure x := by intro _; rfl) :
    VS X xl (.Assign [.Name y py] (.ListComp elt [⟨tg, iter, [], 0⟩] scope pos) spos) (wOwn2 i wi p we (own.map (·.2))) := ps_weak (ps_setLc hc hN hy hyl hsw hi ok hg (fun s H C cl fp => vts_nil) he hs) fun D σ H h => ls_own2 hv h
end
end Hv

set_option Elab.async false
set_option linter.all false
set_option maxRecDepth 100000
namespace Hv
open PySem PySem.Spec PyProof.Rows L2 Hod
/-! ### plans -/
def prP (q : Int × Int) : PyData := .tuple [.int q.1, .int q.2]
/-- the way of a work by a pair, and the days on which it then goes on -/
def Yard.at? (y : Yard) (k : Nat) (q : Int × Int) : Option (Way × List Int) := if 0 ≤ q.2 then (y.way? k q.2.toNat).bind fun w => if 0 ≤ q.1 ∧ q.1 < y.days then (y.go w q.1).map fun l => (w, l) else none else none
theorem at_get {y : Yard} {k : Nat} {q : Int × Int} {w : Way} {l : List Int} (h : y.at? k q = some (w, l)) : 0 ≤ q.2 ∧ y.way? k q.2.toNat = some w ∧ 0 ≤ q.1 ∧ q.1 < y.days ∧ y.go w q.1 = some l := by
  unfold Yard.at? at h
  split at h
  · rename_i h0
    cases e : y.way? k q.2.toNat with
    | none => rw [e] at h; cases h
    | some v =>
      rw [e] at h
      have h : (if 0 ≤ q.1 ∧ q.1 < y.days then (y.go v q.1).map fun l => (v, l) else none) = some (w, l) := h
      split at h
      · rename_i h1
        cases g : y.go v q.1 with
        | none => rw [g] at h; cases h
        | some m =>
          rw [g] at h
          cases h
          exact ⟨h0, rfl, h1.1, h1.2, g⟩
      · cases h
  · cases h
/-- all works of it can so begin -/
structure Begun (y : Yard) (pl : List (Int × Int)) : Prop where
  len : pl.length = y.works.length
  all : ∀ (k : Nat) (q : Int × Int), pl[k]? = some q → ∃ w l, y.at? k q = some (w, l)
/-- how much of stuff s is held on day d by the k-th work -/
def Yard.part (y : Yard) (pl : List (Int × Int)) (k s d : Nat) : Int := match (pl[k]?).bind (y.at? k) with
  | some (w, l) => w.needs.getD s 0 * (l.count (d : Int) : Nat)
  | none => 0
def Yard.sums (y : Yard) (pl : List (Int × Int)) (n s d : Nat) : Int := ((List.range n).map fun k => y.part pl k s d).sum
theorem sums_succ {y : Yard} {pl : List (Int × Int)} {n s d : Nat} : y.sums pl (n + 1) s d = y.sums pl n s d + y.part pl n s d := by
  unfold Yard.sums
  rw [List.range_succ, List.map_append, List.sum_append]
  simp
/-- a table by its entries -/
def tab (n m : Nat) (h : Nat → Nat → Int) : PyData := .list ((List.range n).map fun s => .list ((List.range m).map fun d => .int (h s d)))
def rowI (m : Nat) (h : Nat → Int) : List A := ((List.range m).map fun d => PyData.int (h d)).map .dat
def Ftab : FS := fun as Q => ∃ (y : Yard) (pl : List (Int × Int)), as = [.dat y.e, .dat (.list (pl.map prP))] ∧ y.ok ∧ Begun y pl ∧ Q (tab y.stuffs.length y.days.toNat (y.sums pl pl.length))
theorem nodup_inj {α : Type} : ∀ {l : List α} {i j : Nat} {x : α}, l.Nodup → l[i]? = some x → l[j]? = some x → i = j
  | [], _, _, _, _, h, _ => by simp at h
  | a :: l, 0, 0, _, _, _, _ => rfl
  | a :: l, 0, j + 1, x, nd, h1, h2 => by
    have e : a = x := by simpa using h1
    exact absurd (List.mem_of_getElem? (show l[j]? = some a by rw [e]; simpa using h2)) (List.nodup_cons.mp nd).1
  | a :: l, i + 1, 0, x, nd, h1, h2 => by
    have e : a = x := by simpa using h2
    exact absurd (List.mem_of_getElem? (show l[i]? = some a by rw [e]; simpa using h1)) (List.nodup_cons.mp nd).1
  | a :: l, i + 1, j + 1, x, nd, h1, h2 => congrArg (· + 1) (nodup_inj (l := l) (x := x) (List.nodup_cons.mp nd).2 (by simpa using h1) (by simpa using h2))
/-- the cells of a table stand -/
def TabAt (μ : Mem) (q : Addr) (ps : List Addr) (m : Nat) (h : Nat → Nat → Int) : Prop := μ q = some (ps.map .own) ∧ ∀ (s : Nat) (p : Addr), ps[s]? = some p → μ p = some (rowI m (h s))
theorem rowI_set {m : Nat} {h : Nat → Int} {d : Nat} {x : Int} : (rowI m h).set d (.dat (.int x)) = rowI m fun e => if e = d then x else h e := by
  unfold rowI
  rw [List.map_map, List.map_map]
  refine List.ext_getElem? fun i => ?_
  rw [List.getElem?_set]
  by_cases hi : d = i
  · subst hi
    by_cases hm : d < m
    · simp [hm]
    · simp [hm]
  · by_cases hm : i < m
    · simp [hi, hm, Ne.symm hi]
    · simp [hi, hm]
theorem rowI_len {m : Nat} {h : Nat → Int} : (rowI m h).length = m := by simp [rowI]
theorem rowI_at {m : Nat} {h : Nat → Int} {d : Nat} (hd : d < m) : (rowI m h)[d]? = some (.dat (.int (h d))) := by simp [rowI, hd]
theorem tab_set {μ : Mem} {q : Addr} {ps : List Addr} {m : Nat} {h : Nat → Nat → Int} {s d : Nat} {p : Addr} {x : Int} (t : TabAt μ q ps m h) (nd : ps.Nodup) (hq : q ∉ ps) (hs : ps[s]? = some p) :
    TabAt (put μ p ((rowI m (h s)).set d (.dat (.int x)))) q ps m fun s2 d2 => if s2 = s ∧ d2 = d then x else h s2 d2 := by
  have hp : p ∈ ps := List.mem_of_getElem? hs
  refine ⟨?_, fun s2 p2 h2 => ?_⟩
  · rw [put_ne (fun z => hq (by rw [z]; exact hp))]
    exact t.1
  · by_cases e : s2 = s
    · subst e
      rw [hs] at h2
      cases h2
      rw [put_same, rowI_set]
      congr 1
      unfold rowI
      congr 2
      funext d2
      by_cases e : d2 = d <;> simp [e]
    · have ne : p2 ≠ p := fun z => by
        subst z
        obtain ⟨a1, a2⟩ := List.getElem?_eq_some_iff.mp hs
        obtain ⟨b1, b2⟩ := List.getElem?_eq_some_iff.mp h2
        exact e (nodup_inj nd h2 hs)
      rw [put_ne ne, t.2 s2 p2 h2]
      congr 2
      funext d2
      simp [e]
theorem tab_rsv {μ : Mem} {m : Nat} {h : Nat → Nat → Int} : ∀ {ps : List Addr} {k : Nat}, (∀ (s : Nat) (p : Addr), ps[s]? = some p → μ p = some (rowI m (h (k + s)))) → rsvL μ (ps.map .own) = some ((List.range ps.length).map fun s => .list ((List.range m).map fun d => .int (h (k + s) d)))
  | [], _, _ => rfl
  | p :: ps, k, hp => by
    have h0 : rsv μ (.own p) = some (.list ((List.range m).map fun d => .int (h k d))) := rsv_own (hp 0 p rfl)
    have ih := tab_rsv (ps := ps) (k := k + 1) fun s p2 h2 => by
      have := hp (s + 1) p2 (by simpa using h2)
      rw [show k + 1 + s = k + (s + 1) by omega]
      exact this
    rw [List.map_cons]
    unfold rsvL
    rw [h0, ih, List.length_cons, List.range_succ_eq_map, List.map_cons, List.map_map]
    dsimp only
    congr 2
    refine List.map_congr_left fun s _ => ?_
    show _ = PyData.list ((List.range m).map fun d => .int (h (k + (s + 1)) d))
    rw [show k + 1 + s = k + (s + 1) by omega]
/-- ends_of: of begun plans -/
def Yard.endAt (y : Yard) (pl : List (Int × Int)) (k : Nat) : Int := match (pl[k]?).bind (y.at? k) with
  | some (w, l) => l.getLastD 0 + 1
  | none => 0
def Fends : FS := fun as Q => ∃ (y : Yard) (pl : List (Int × Int)), as = [.dat y.e, .dat (.list (pl.map prP))] ∧ y.ok ∧ Begun y pl ∧ Q (.list ((List.range pl.length).map fun k => .int (y.endAt pl k)))
section
variable {ρ : Rho} {μ : Mem} {wo wi we wa wb : WE} {E : Ends2} {W2 : WS} {c : Nat}
theorem x_aug2 {p : Addr} {xs : List A} {k x y : Int} {j : Nat} (ho : Evs wo ρ μ (.own p)) (hi : Evs wi ρ μ (.dat (.int k))) (hp : μ p = some xs) (hk : ixN xs.length k = some j) (hx : xs[j]? = some (.dat (.int x))) (he : Evs we ρ μ (.dat (.int y))) (q : E.nx ρ (put μ p (xs.set j (.dat (.int (x + y)))))) : wAug2 wo wi we E ρ μ := ho _ (hi _ (by
  have e : cel μ (.own p) = some (p, xs) := by unfold cel; dsimp only; rw [hp]
  rw [e]
  dsimp only
  rw [hk]
  dsimp only
  rw [hx]
  exact he _ q))
theorem s_own2 {wi : WI} {p : Pat} {we : WE} {vs : List Nat} {ds : List PyData} {g : PyData → List PyData} (hi : EvIs wi ρ μ ds) (hl : ds.length ≤ 1000) (hg : ∀ d ∈ ds, nols (g d) = true ∧ ∃ ρ', bindP p d (wipeA ρ vs) = some ρ' ∧ Evs we ρ' μ (.dat (.list (g d))))
    (q : ∀ (q : Addr) (ps : List Addr), ps.Nodup → ps.length = ds.length → q ∉ ps → μ q = none → (∀ a ∈ ps, μ a = none) → W2 E (ρ.set c (some (.own q))) (put (putAll μ ps (ds.map g)) q (ps.map .own))) : wSeq (wOwn2 c wi p we vs) W2 E ρ μ := hi _ ⟨hl, g, hg, q⟩
theorem ev_rep {ds : List PyData} {k : Int} (h1 : Evs wa ρ μ (.dat (.list ds))) (h2 : Evs wb ρ μ (.dat (.int k))) (hk : -1000 ≤ k ∧ k ≤ 1000) (hl : ds.length ≤ 1000) : Evs (wOp gRep wa wb) ρ μ (.dat (.list (List.replicate k.toNat ds).flatten)) := fun Q q => h1 _ (h2 _ ⟨hk, hl, q⟩)
theorem x_ret2 {q : Addr} {xs : List A} {ds : List PyData} (h : Evs wa ρ μ (.own q)) (hq : μ q = some xs) (hd : rsvL μ xs = some ds) (k : E.rt (.list ds)) : wRet2 wa E ρ μ := h _ (by
  have e : cel μ (.own q) = some (q, xs) := by unfold cel; dsimp only; rw [hq]
  rw [e]
  dsimp only
  rw [hd]
  exact k)
end
theorem rep_flat {α : Type} (x : α) : ∀ n : Nat, (List.replicate n [x]).flatten = (List.range n).map fun _ => x
  | 0 => rfl
  | n + 1 => by
    rw [List.replicate_succ, List.flatten_cons, rep_flat x n, List.range_succ_eq_map, List.map_cons, List.map_map]
    rfl
theorem tab_zero {μ : Mem} {q : Addr} {ps : List Addr} {m : Nat} {ds : List PyData} (nd : ps.Nodup) (hl : ps.length = ds.length) (hq : q ∉ ps) : TabAt (put (putAll μ ps (ds.map fun _ => (List.range m).map fun _ => PyData.int 0)) q (ps.map .own)) q ps m fun _ _ => 0 := by
  refine ⟨put_same, fun s p hs => ?_⟩
  have hp : p ∈ ps := List.mem_of_getElem? hs
  have hlt := lt_of_get hs
  rw [put_ne (fun z => hq (by rw [← z]; exact hp)), putAll_at (k := s) nd hs (by rw [List.getElem?_map, List.getElem?_eq_getElem (by omega : s < ds.length)]; rfl)]
  rfl
theorem tab_congr {μ : Mem} {q : Addr} {ps : List Addr} {m : Nat} {h h2 : Nat → Nat → Int} (t : TabAt μ q ps m h) (e : ∀ s d, s < ps.length → d < m → h s d = h2 s d) : TabAt μ q ps m h2 := by
  refine ⟨t.1, fun s p hs => ?_⟩
  rw [t.2 s p hs]
  have hlt := lt_of_get hs
  congr 1
  unfold rowI
  congr 1
  exact List.map_congr_left fun d hd => by rw [e s d hlt (List.mem_range.mp hd)]
end Hv
namespace Hv
open PySem PySem.Spec PyProof.Rows L2 Hod
/-- a begun plan whose works begin within their own bounds -/
structure Within (y : Yard) (pl : List (Int × Int)) : Prop where
  b : Begun y pl
  i : ∀ (k : Nat) (q : Int × Int) (v : Wrk), pl[k]? = some q → y.works[k]? = some v → v.low ≤ q.1 ∧ q.1 < v.high
def Fplan : FS := fun as Q => ∃ (y : Yard) (pl : List (Int × Int)), as = [.dat y.e, .dat (.list (pl.map prP))] ∧ y.ok ∧ pl.length = y.works.length ∧ Q .none
def Fbwork : FS := fun as Q => ∃ (y : Yard) (pl : List (Int × Int)), as = [.dat y.e, .dat (.list (pl.map prP))] ∧ y.ok ∧ Within y pl ∧ Q .none
/-- a tie that the plan breaks -/
def Yard.bad (y : Yard) (pl : List (Int × Int)) (t : Tie) : Bool := decide ((pl.getD t.other.toNat (0, 0)).1 < (if t.kind = 1 then y.endAt pl t.one.toNat else (pl.getD t.one.toNat (0, 0)).1) + t.gap)
def Fbtie : FS := fun as Q => ∃ (y : Yard) (pl : List (Int × Int)), as = [.dat y.e, .dat (.list (pl.map prP))] ∧ y.ok ∧ Begun y pl ∧ (∀ (k : Nat) (t : Tie), y.ties[k]? = some t → y.bad pl t = true → (∀ (j : Nat) (u : Tie), j < k → y.ties[j]? = some u → y.bad pl u = false) → Q (.int k)) ∧ ((∀ t ∈ y.ties, y.bad pl t = false) → Q .none)
end Hv

set_option Elab.async false
set_option linter.all false
set_option maxRecDepth 100000
namespace Hv
open PySem PySem.Spec PyProof.Rows L2 Hod
/-! ### max(xs, default=d) of ints -/
def maxDef (d : Int) : List Int → Int
  | [] => d
  | n :: r => r.foldl max n
def rMaxDef (K : PySem.W.Frag) : List V → List V → Hp → VK → Prop := fun vs zs H Q => ∃ (a : Addr) (ns : List Int) (d : Int), vs = [V.ref a] ∧ zs = [V.int d] ∧ SqL K H a (ns.map V.int) ∧ Q (.int (maxDef d ns)) H
theorem dp_ints {K : PySem.W.Frag} {H : Hp} : ∀ ns : List Int, DpAll K H (ns.map V.int) (ns.map PyData.int)
  | [] => .nil
  | n :: r => .cons (.int n) (dp_ints r)
theorem depthAll_ints : ∀ ns : List Int, PyData.depthAll (ns.map PyData.int) = 0
  | [] => rfl
  | n :: r => by
    rw [List.map_cons]
    unfold PyData.depthAll
    rw [depthAll_ints r]
    rfl
theorem cr_maxDef {X : Cx} (hc : X.calm = true) (hu : X.A.units + 64 < cLine) : CallRK X (.builtin "max") ["default"] (rMaxDef X.K) := by
  intro pins s σ H vs zs us ws Q I rv rz h
  obtain ⟨a, ns, d, rfl, rfl, hs, q⟩ := h
  obtain ⟨u, rfl, hu1⟩ := vals1 rv
  obtain ⟨u2, rfl, hu2⟩ := vals1 rz
  cases hu1
  obtain ⟨t, rfl⟩ := hu2
  obtain ⟨its, r, pl, hz⟩ := I.list hs
  obtain ⟨as, hr⟩ := Dp.readsAll I (ns.map PyData.int) _ its (dp_ints ns) r
  have alike : PySem.W.AlikeAll (ns.map PyData.int) := by
    refine ⟨fun x hx y hy => ?_, fun x hx => ?_⟩
    · obtain ⟨i, _, rfl⟩ := List.mem_map.mp hx
      obtain ⟨j, _, rfl⟩ := List.mem_map.mp hy
      rfl
    · obtain ⟨i, _, rfl⟩ := List.mem_map.mp hx
      exact fun z => nomatch z
  refine PySem.W.max_list_default (xs := ns.map PyData.int) (I.ok.hd hc) pl.isList (by simpa using hr) alike (by rw [depthAll_ints]; omega) (fun e h' tk hk => ?_) (fun y ys j v h' tk bs e hv hrd hk => ?_)
  · cases ns with
    | cons _ _ => cases e
    | nil => exact ⟨.int d, H, I.kept (t' := tk) hk, ⟨t, rfl⟩, q⟩
  · cases ns with
    | nil => cases e
    | cons n r2 =>
      cases e
      rw [PySem.W.maxD_ints] at hrd
      cases hrd with
      | int _ t2 => exact ⟨.int (r2.foldl max n), H, I.kept (t' := tk) hk, ⟨t2, rfl⟩, q⟩
def wMaxD (u uk : WA) : WE := fun ρ μ Q => u ρ μ fun as => uk ρ μ fun bs => match as, bs with
  | [.dat (.list ds)], [.dat (.int d)] => (match intsD ds with | some ns => Q (.dat (.int (maxDef d ns))) | none => False)
  | _, _ => False
theorem ve_maxD {X : Cx} {xl : XLT X.K} {e : Expr} {kws : List Keyword} {u uk : WA} {p pos : Pos} (hc : X.calm = true) (hu : X.A.units + 64 < cLine) (hg : Gl X "max") (hm : X.mg "max" = none) (ha : VA X xl [e] u) (hk : VK2 X xl kws uk)
    (he : backTo pos (starEach [e] X.env) = (false, eval e X.env) :: backTo pos (starEach [] X.env) := by rfl) (hpl : (backTo pos (starEach [e] X.env)).any (·.1) = false := by rfl) (hall : (backToKw pos (keywordEach kws X.env)).all (·.1.isSome) = true := by rfl)
    (hnone : (backToKw pos (keywordEach kws X.env)).any (·.1.isNone) = false := by rfl) (hks : (backToKw pos (keywordEach kws X.env)).filterMap (·.1) = (["default"] : List Str) := by rfl) : VE X xl (.Call (.Name "max" p) [e] kws pos) (wMaxD u uk) := by
  refine pe_weak (pe_callBK (cr_maxDef hc hu) hg hm (by decide +kernel) ha hk (by decide) (by decide) he hpl hall hnone hks) fun σ H Q ⟨S, B, ρ, μ, Q2, st, w, k⟩ => ⟨S, B, ρ, μ, _, st, w, fun vs H1 as e1 g1 rs q1 => ⟨S, B, ρ, μ, _, st.ex e1 g1, q1, fun zs H2 bs e2 g2 rz q2 => ?_⟩⟩
  split at q2
  · rename_i ds d
    split at q2
    · rename_i ns hn
      cases rs with
      | cons r1 rs =>
        cases rs
        cases rz with
        | cons r2 rz =>
          cases rz
          cases r1 with
          | dat r1 =>
            cases r2 with
            | dat r2 =>
              cases r2
              cases r1 with
              | @lst a xs _ h1 h2 =>
                have h3 := (h2.mono (e2.off g1) _ _)
                exact ⟨a, ns, d, rfl, rfl, by rw [← ints_ok h3 hn]; exact SqL.of (off_same _ _ (e2.off g1 _ _ h1)), k _ H2 _ (e1.trans e2) g2 (.dat (.int _)) q2⟩
    · exact q2.elim
  · exact q2.elim
theorem ev_maxD {ρ : Rho} {μ : Mem} {w w2 : WE} {ns : List Int} {d : Int} (h : Evs w ρ μ (.dat (.list (ns.map PyData.int)))) (h2 : Evs w2 ρ μ (.dat (.int d))) : Evs (wMaxD (waCons w waNil) (waCons w2 waNil)) ρ μ (.dat (.int (maxDef d ns))) := fun Q q => h _ (h2 _ (by
  show (match intsD (ns.map PyData.int) with | some ns => Q (.dat (.int (maxDef d ns))) | none => False)
  rw [ints_map]
  exact q))
/-- more is held of s on day d than there is -/
def Yard.over (y : Yard) (pl : List (Int × Int)) (s d : Nat) : Bool := decide (((y.stuffs.getD s []).getD d 0) < y.sums pl pl.length s d)
def Fbstuff : FS := fun as Q => ∃ (y : Yard) (pl : List (Int × Int)), as = [.dat y.e, .dat (.list (pl.map prP))] ∧ y.ok ∧ Begun y pl ∧
  (∀ s d : Nat, s < y.stuffs.length → (d : Int) < y.days → y.over pl s d = true → (∀ s2 d2 : Nat, s2 < s → (d2 : Int) < y.days → y.over pl s2 d2 = false) → (∀ d2 : Nat, d2 < d → y.over pl s d2 = false) → Q (.tuple [.str "stuff", .int s, .int d])) ∧ ((∀ s d : Nat, s < y.stuffs.length → (d : Int) < y.days → y.over pl s d = false) → Q .none)
def FendOf : FS := fun as Q => ∃ (y : Yard) (pl : List (Int × Int)), as = [.dat y.e, .dat (.list (pl.map prP))] ∧ y.ok ∧ Within y pl ∧ Q (.int (maxDef 0 ((List.range pl.length).map (y.endAt pl))))
def Ftable : FS := fun as Q => ∃ (y : Yard) (pl : List (Int × Int)), as = [.dat y.e, .dat (.list (pl.map prP))] ∧ y.ok ∧ Within y pl ∧ Q (tab y.stuffs.length y.days.toNat (y.sums pl pl.length))
end Hv

set_option Elab.async false
set_option linter.all false
set_option maxRecDepth 100000
namespace Hv
open PySem PySem.Spec PyProof.Rows L2 Hod
/-! ### all lists under change become data -/
def frzS (μ : Mem) : Option A → Option A
  | some a => rsvA μ a
  | none => none
def wFrz (W : WS) : WS := fun E ρ μ => W E (ρ.map (frzS μ)) emp
theorem sls_frz {K : PySem.W.Frag} {S : Hs} {B : Hid} {μ : Mem} {H : Hp} (g : Good K S B μ H) : ∀ {ρ : List (Option A)} {σ : List (Option V)}, Sls K S μ (off B μ H) σ ρ → Sls K S emp (off B emp H) σ (ρ.map (frzS μ))
  | [], _, h => by cases h; exact .nil
  | none :: ρ, _, h => by cases h with | any h => exact .any (sls_frz g h)
  | some a :: ρ, _, h => by
    cases h with
    | has h1 h2 =>
      rw [List.map_cons]
      show Sls _ _ _ _ _ (rsvA μ a :: _)
      cases q : rsvA μ a with
      | none => exact .any (sls_frz g h2)
      | some b => exact .has (ra_rsv g h1 q) (sls_frz g h2)
theorem Sts.frz {K : PySem.W.Frag} {xl : XLT K} {S : Hs} {B : Hid} {H0 G0 H : Hp} {σ : L2.St} {ρ : Rho} {μ : Mem} (s : Sts K xl S B H0 G0 σ H ρ μ) : Sts K xl S B H0 G0 σ H (ρ.map (frzS μ)) emp :=
  .of s.st.gd.open (sls_frz s.st.gd s.st.sl) s.old (fun _ _ => rfl) (fun a o h => same_open a o (s.vis a o h)) s.xs
theorem vss_frz {X : Cx} {xl : XLT X.K} {st : List Stmt} {W : WS} (h : VSs X xl st W) : VSs X xl st (wFrz W) :=
  pss_weak h fun D σ H ⟨S, B, H0, G0, ρ, μ, E, s, w, r⟩ => ⟨S, B, H0, G0, _, emp, E, s.frz, w, r⟩
theorem x_frz {W : WS} {E : Ends2} {ρ ρ' : Rho} {μ : Mem} (h : ρ.map (frzS μ) = ρ') (q : W E ρ' emp) : wFrz W E ρ μ := by
  unfold wFrz
  rw [h]
  exact q
theorem frz_dat {μ : Mem} {d : PyData} : frzS μ (some (.dat d)) = some (.dat d) := rfl
theorem frz_drw {μ : Mem} : frzS μ (some .drw) = some .drw := rfl
theorem frz_own {μ : Mem} {p : Addr} {ds : List PyData} (h : μ p = some (ds.map .dat)) : frzS μ (some (.own p)) = some (.dat (.list ds)) := rsvA_own h
/-! ### any piece of a tuple -/
def wSlA (wa : WE) (wl wh : WO) : WE := fun ρ μ Q => wa ρ μ fun a => wl ρ μ fun lo => wh ρ μ fun hi => match a with
  | .dat (.tuple ds) => Q (.dat (.tuple (cutD ds lo hi)))
  | _ => False
theorem cut_whole {α : Type} {ds : List α} {lo hi : Option Int} (h : HT.sIx ds.length 0 lo = 0 ∧ HT.sIx ds.length ds.length hi = ds.length) : cutD ds lo hi = ds := by
  unfold cutD
  rw [h.1, h.2]
  simp
theorem ve_slA {X : Cx} {xl : XLT X.K} {a : Expr} {pos : Pos} {wa : WE} {lo hi : Option Expr} {p2} {wl wh : WO} (ha : VE X xl a wa) (hl : VO X xl lo wl) (hh : VO X xl hi wh) : VE X xl (.Subscript a (.Slice lo hi none p2) pos) (wSlA wa wl wh) := by
  refine pe_weak (pe_slice sl_tupA ha hl hh) fun σ H Q ⟨S, B, ρ, μ, Q2, st, w, k⟩ => ⟨S, B, ρ, μ, _, st, w, fun v H1 a e1 g1 ra q1 => ⟨S, B, ρ, μ, _, st.ex e1 g1, q1, fun l H2 e2 g2 q2 => ⟨S, B, ρ, μ, _, (st.ex e1 g1).ex e2 g2, q2, fun h H3 e3 g3 q3 => ?_⟩⟩⟩
  cases ra with
  | dat r =>
    cases r with
    | @tup p xs ds h1 h2 =>
      refine ⟨p, xs, rfl, sqt_same off_same (sqt_same ((e2.trans e3).off g1) h1), fun hw => ?_, fun hw q nq => ?_⟩
      · rw [h2.len] at hw
        have q3 : Q2 (.dat (.tuple (cutD ds l h))) := q3
        rw [cut_whole hw] at q3
        exact k _ _ _ (e1.trans (e2.trans e3)) g3 (.dat (.tup (sqt_same ((e2.trans e3).off g1) h1) (h2.mono ((e2.trans e3).off g1) _ _))) q3
      · obtain ⟨b1, b2⟩ := g3.free nq
        exact k _ _ _ (e1.trans (e2.trans (e3.trans (.new nq)))) (g3.new nq) (.dat (.tup (.inl (.inl (off_upd b1 b2))) (rps_cut ((h2.mono ((e2.trans e3).off g1) _ _).mono ((Ex.new nq).off g3) _ _)))) q3
    | _ => exact q3.elim
  | _ => exact q3.elim
theorem ev_slA {ρ : Rho} {μ : Mem} {w : WE} {ds : List PyData} {wl wh : WO} {lo hi : Option Int} (h : Evs w ρ μ (.dat (.tuple ds))) (h1 : EvOs wl ρ μ lo) (h2 : EvOs wh ρ μ hi) : Evs (wSlA w wl wh) ρ μ (.dat (.tuple (cutD ds lo hi))) := fun Q q => h _ (h1 _ (h2 _ q))
theorem cut_tail {α : Type} (ds : List α) : cutD ds (some 1) none = ds.drop 1 := by
  unfold cutD
  cases ds with
  | nil => rfl
  | cons d ds =>
    have e : HT.sIx (d :: ds).length 0 (some 1) = 1 := by
      unfold HT.sIx
      simp
    rw [e]
    show (List.drop 1 (d :: ds)).take ((d :: ds).length - 1) = _
    rw [List.take_of_length_le (by simp)]
/-! ### max of one list -/
def gMax1 : GC := fun μ as Q => match as with | [.dat (.list ds)] => (match intsD ds with | some ns => 0 < ns.length ∧ ∀ m, m ∈ ns → (∀ y, y ∈ ns → y ≤ m) → Q (.dat (.int m)) | none => False) | _ => False
theorem c_max1 {K : PySem.W.Frag} : CW K (rMax K) gMax1 := fun S B xs H μ as Q Q2 gd rs q k => by
  cases rs with
  | nil => exact q.elim
  | @cons v vs a as r rs =>
    cases rs with
    | cons _ _ => cases a <;> first | exact q.elim | (rename_i d; cases d <;> exact q.elim)
    | nil =>
      cases r with
      | dat r =>
        cases r with
        | @lst p xs ds h1 h2 =>
          unfold gMax1 at q
          dsimp only at q
          split at q
          · rename_i bs hb
            exact ⟨p, bs, rfl, by rw [← ints_ok h2 hb]; exact SqL.of (off_same _ _ h1), q.1, fun m hm hy => k _ H _ .refl gd (.dat (.int _)) (fun _ _ e => nomatch e) (q.2 m hm hy)⟩
          · exact q.elim
        | _ => exact q.elim
      | _ => exact q.elim
theorem ev_max1 {ρ : Rho} {μ : Mem} {w : WE} {ns : List Int} {m : Int} (h : Evs w ρ μ (.dat (.list (ns.map PyData.int)))) (hm : m ∈ ns) (hy : ∀ y ∈ ns, y ≤ m) : Evs (wCB gMax1 (waCons w waNil)) ρ μ (.dat (.int m)) := fun Q q => h _ (by
  show (match intsD (ns.map PyData.int) with | some ns => 0 < ns.length ∧ ∀ m, m ∈ ns → (∀ y, y ∈ ns → y ≤ m) → Q (.dat (.int m)) | none => False)
  rw [ints_map]
  refine ⟨List.length_pos_of_mem hm, fun m2 h1 h2 => ?_⟩
  have e : m2 = m := Int.le_antisymm (hy m2 h1) (h2 m hm)
  rw [e]
  exact q)
/-- the greatest of 0 and these is the greatest of these, 0 for none, where all are above 0 -/
theorem maxDef_mem {ns : List Int} : maxDef 0 ns ∈ 0 :: ns := by
  cases ns with
  | nil => exact List.mem_cons_self
  | cons n r =>
    refine List.mem_cons_of_mem _ ?_
    show r.foldl max n ∈ n :: r
    induction r generalizing n with
    | nil => exact List.mem_cons_self
    | cons m r ih =>
      have := ih (n := max n m)
      rw [List.foldl_cons]
      rcases List.mem_cons.mp this with h | h
      · rw [h]
        rcases Int.le_total n m with q | q
        · rw [Int.max_eq_right q]; simp
        · rw [Int.max_eq_left q]; simp
      · simp [h]
theorem foldl_max_le {r : List Int} : ∀ {n : Int}, n ≤ r.foldl max n ∧ ∀ y ∈ r, y ≤ r.foldl max n := by
  induction r with
  | nil => exact fun {n} => ⟨Int.le_refl _, fun y h => absurd h (List.not_mem_nil)⟩
  | cons m r ih =>
    intro n
    rw [List.foldl_cons]
    obtain ⟨h1, h2⟩ := ih (n := max n m)
    have a1 := Int.le_max_left n m
    have a2 := Int.le_max_right n m
    refine ⟨by omega, fun y h => ?_⟩
    rcases List.mem_cons.mp h with rfl | h
    · omega
    · exact h2 y h
theorem maxDef_top {ns : List Int} (h0 : ∀ y ∈ ns, 0 ≤ y) : ∀ y ∈ 0 :: ns, y ≤ maxDef 0 ns := by
  intro y hy
  cases ns with
  | nil => rcases List.mem_cons.mp hy with rfl | h; exact Int.le_refl _; cases h
  | cons n r =>
    obtain ⟨h1, h2⟩ := foldl_max_le (r := r) (n := n)
    have hn := h0 n (by simp)
    show y ≤ r.foldl max n
    rcases List.mem_cons.mp hy with rfl | h
    · omega
    · rcases List.mem_cons.mp h with rfl | h
      · exact h1
      · exact h2 y h
end Hv

set_option Elab.async false
set_option linter.all false
set_option maxRecDepth 100000
/-! set of a list of ints, and what sorted makes of it -/
namespace L2
open PySem PySem.Spec PyProof.Rows
section
variable {P : Program} {w : World} {A : Around} {E : Value → Shared → Prop} {s : Shared}
abbrev setObj (w : World) : Obj := { cls := .type "set", dict := none, data := .set #[] 0 (.fresh 0 0 (!w.params.followText "set-order")) }
set_option maxRecDepth 100000 in
set_option maxHeartbeats 6400000 in
theorem set_of_list {a : Addr} {xs : Array Value} (ns : List Int) {Q : Value → Shared → Prop} (calm : A.handled = none) (isl : s.heap.IsList a xs) (intz : IntsAre xs.toList ns) (small : ns.length + 1 < scanBound)
    (fin : ∀ (g : Heap) (tk c : Nat), SetR w g s.heap.objs.size (fun j => decide (j ∈ ns)) c → c ≤ ns.length → (∀ b o, s.heap.get? b = some o → g.get? b = some o) → Q (.ref s.heap.objs.size) { s with heap := g, toks := tk }) : wpAny (model P w) A (call (.type "set") [.ref a]) Q E s := by
  have len : xs.size = ns.length := by have q := IntsAre.length intz; rw [Array.length_toList] at q; exact q
  obtain ⟨c, tl, m1⟩ := F.called_set.mro
  have m2 := F.called_set.made; have m3 := F.called_set.sub
  refine wpAny_call (codeAny_of_tree ?_); show wpAny _ _ (callAny (.type "set") _) _ _ _
  refine wpAny_pure ⟨Code.quiet_builtin _ (by decide +kernel), codeAny_builtin F.entry_type_call ?_⟩; rw [Around.under_plain (weight_type_call_type "set" [.ref a] []) rfl]
  have m4 := F.called_set.notType; have m5 := F.called_set.canCreate; have m6 := F.typeCall_set_1 (.ref a)
  repeat (any_goals (first | assumption | wp_step))
  refine codeAny_mono (code_set_led1 (.ref a) (E := E) (Q₁ := fun v t => v = .ref s.heap.objs.size ∧ t = { s with heap := s.heap.push (setObj w) }) ⟨rfl, rfl⟩) fun r t hr => ?_
  cases r with
  | error e => exact hr
  | ok fl =>
    cases fl with
    | ret v =>
      obtain ⟨rfl, rfl⟩ := hr
      have at0 : (s.heap.push (setObj w)).get? s.heap.objs.size = some (setObj w) := Heap.get?_push_size _ rfl
      have ty0 : Shared.TypeIs { s with heap := s.heap.push (setObj w) } (.ref s.heap.objs.size) "set" := ⟨_, at0, rfl⟩
      have i1 := F.called_set.init.lookup; have i2 := F.called_set.init.bind (.ref s.heap.objs.size)
      repeat (any_goals (first | assumption | wp_step))
      refine codeAny_mono (codeAny_call_builtin (R := wants (fun r t => r = .none ∧ ∃ g tk c, t = { s with heap := g, toks := tk } ∧ SetR w g s.heap.objs.size (fun j => decide (j ∈ ns)) c ∧ c ≤ ns.length ∧ (∀ b o, s.heap.get? b = some o → g.get? b = some o)) E) F.called_set.init.plain F.entry_set_init (check_set_init_1 ty0 ?_)) fun r2 t2 hr2 => ?_
      · obtain ⟨ol, hol, ocl, nl, odl⟩ := isl
        obtain ⟨k1, k2, k3, k4⟩ := ol
        simp only at ocl odl; subst ocl; subst odl
        have at1 : (s.heap.push (setObj w)).get? a = some { cls := .type "list", dict := k2, data := .seq xs nl, slots := k4 } := Heap.get?_push_of_some _ hol
        have s1 := F.sub_list_set; have s2 := F.sub_list_frozenset
        have nd : (Value.type "list" == Value.type "dict") = false := by decide
        have li : (s.heap.push (setObj w)).IsList a xs := ⟨_, at1, rfl, nl, rfl⟩
        unfold Builtin.«set.__init__» noKeywords Builtin.Frozenset.updateFrom; generalize hPI : pyIter = PI; wp_walk; subst hPI
        refine wpAny_pyIter_list li ?_; refine wpAny_bind (wpAny_runValue ?_)
        have alt : a < s.heap.objs.size := Heap.lt_size hol
        have calm3 : A.in1.in1.in1.handled = none := by simp [calm]
        have ne1 : a ≠ (s.heap.push (setObj w)).objs.size := by rw [Heap.size_push]; exact Nat.ne_of_lt (Nat.lt_succ_of_lt alt)
        have out : s.heap.objs.size ∉ [(s.heap.push (setObj w)).objs.size, a] := by
          rw [Heap.size_push]
          intro z
          rcases List.mem_cons.mp z with z | z
          · omega
          · rw [List.mem_singleton] at z; exact absurd z.symm (Nat.ne_of_lt alt)
        have vals : ∀ (i : Nat) (v : Value), xs[i]? = some v → ∃ k t, ns[i]? = some k ∧ v = .int k t := fun i v hv => by
          have hi : i < ns.length := by rw [← len]; exact (Array.getElem?_eq_some_iff.mp hv).1
          obtain ⟨t, e⟩ := PyProof.Rows.IntsAre.int_at intz i v (by rw [Array.getElem?_toList]; exact hv)
          refine ⟨ns[i], t, List.getElem?_eq_getElem hi, ?_⟩
          rw [e, List.getD_eq_getElem?_getD, List.getElem?_eq_getElem hi]; rfl
        refine set_update_ints ((Walks.list calm3 _ a ne1 xs).toS) s.heap.objs.size out ns len small vals (xs.size - 0) 0 _ (by omega) (Nat.zero_le _) ⟨⟨_, Heap.get?_push_size _ rfl, rfl, rfl⟩, (li.push _)⟩ ?h0 ?h1
        case h0 => exact ⟨0, Nat.le_refl 0, setR_new_at (Heap.get?_push_of_some _ at0)⟩
        case h1 =>
          intro t c2 mv hc2 hS
          obtain ⟨g, q2, d2, tk2, os2⟩ := t
          have eg : q2 = s.gens := mv.gens; have ed : d2 = s.drawn := mv.drawn; have eo : os2 = s.os := mv.os
          subst eg; subst ed; subst eo
          show wpAny _ _ _ _ _ _; refine wpAny_pure ?_; show wpAny _ _ (ret Value.none) _ _ _
          rw [len] at hc2
          refine wpAny_pure ⟨rfl, g, tk2, c2, rfl, hS, hc2, fun b o e => ?_⟩
          have bl : b < s.heap.objs.size := Heap.lt_size e
          have b2 : b ≠ (s.heap.push (setObj w)).objs.size := by rw [Heap.size_push]; exact Nat.ne_of_lt (Nat.lt_succ_of_lt bl)
          refine mv.heap b o (fun z => ?_) (Heap.get?_push_of_some _ (Heap.get?_push_of_some _ e))
          rcases List.mem_cons.mp z with z | z
          · exact absurd z (Nat.ne_of_lt bl)
          · rw [List.mem_singleton] at z; exact b2 z
      · cases r2 with
        | error e => exact hr2
        | ok f2 =>
          cases f2 with
          | ret r =>
            obtain ⟨rfl, g, tk, c2, rfl, hS, hc2, hk⟩ := hr2
            repeat (any_goals (first | assumption | wp_step))
            exact fin _ _ _ hS hc2 hk
          | _ => exact hr2.elim
    | _ => exact hr.elim
end
/-- set(l) of a list of ints -/
def rSetLi (K : PySem.W.Frag) (w : World) : List V → Hp → VK → Prop := fun vs H Q => ∃ (a : Addr) (ns : List Int), vs = [V.ref a] ∧ SqL K H a (ns.map V.int) ∧ ns.length ≤ 1000 ∧ ∀ (p : Addr) (c : Nat), H p = none → c ≤ ns.length → Q (.ref p) (upd H p (SetO w p (fun j => decide (j ∈ ns)) c))
theorem cr_setL {X : Cx} (hc : X.calm = true) : CallR X (.type "set") (rSetLi X.K X.w) := by
  intro pins s σ H vs us Q I r h
  obtain ⟨a, ns, rfl, hs, hl, q⟩ := h
  obtain ⟨its, rv, li, hz⟩ := I.list hs
  rw [Vals.ref1 r]
  refine set_of_list ns (I.ok.hd hc) li.isList (ints_of_vals rv) (by unfold scanBound; omega) fun g tk c R hcn k => ?_
  exact ⟨.ref _, upd H s.heap.objs.size (SetO X.w s.heap.objs.size (fun j => decide (j ∈ ns)) c), I.laid (t' := tk) (fun b u e => k b u e) (Nat.le_refl _) (setO_new R), rfl, q _ c (I.hok.fresh (Nat.le_refl _)) hcn⟩
end L2

set_option Elab.async false
set_option linter.all false
set_option maxRecDepth 100000
namespace Hv
open PySem PySem.Spec PyProof.Rows L2 Hod
/-! ### sorted(set(l)) -/
theorem rps_ints {K : PySem.W.Frag} {G : Hp} : ∀ ms : List Int, Rps K G (ms.map V.int) (ms.map PyData.int)
  | [] => .nil
  | m :: ms => .cons (.int m) (rps_ints ms)
def gSS : GC := fun μ as Q => match as with
  | [.dat (.list ds)] => (match intsD ds with | some ns => ns.length < 64 ∧ ∀ ms : List Int, ms.Pairwise (· < ·) → (∀ k, k ∈ ms ↔ k ∈ ns) → Q (.dat (.list (ms.map .int))) | none => False)
  | _ => False
theorem vf_sortedSet {X : Cx} {xl : XLT X.K} {e : Expr} {u : WA} {p p2 pos pos2 : Pos} (hc : X.calm = true) (hg : Gl X "sorted") (hm : X.mg "sorted" = none) (hg2 : Gl X "set") (hm2 : X.mg "set" = none) (ha : VA X xl [e] u)
    (he : starEach [e] X.env = (false, eval e X.env) :: starEach [] X.env := by rfl)
    (he2 : starEach [Expr.Call (.Name "set" p2) [e] [] pos2] X.env = (false, eval (.Call (.Name "set" p2) [e] [] pos2) X.env) :: starEach [] X.env := by rfl) :
    VF X xl (.Call (.Name "sorted" p) [.Call (.Name "set" p2) [e] [] pos2] [] pos) (wCB gSS u) := by
  refine pe_weak (pe_callB (cr_sortedSet hc) hg hm (by decide +kernel) (pa_cons (pe_callTy (cr_setL hc) hg2 hm2 PyProof.Rows.boot_set ha (he := he)) pa_nil he2) (he := he2)) fun σ H Q ⟨S, B, ρ, μ, Q2, st, w, k⟩ => ⟨S, B, ρ, μ, _, st, w, fun vs H1 as e1 g1 rs q1 => ?_⟩
  cases rs with
  | nil => exact q1.elim
  | @cons v vs a as r rs =>
    cases rs with
    | cons _ _ => cases a <;> first | exact q1.elim | (rename_i d; cases d <;> exact q1.elim)
    | nil =>
      cases r with
      | dat r =>
        cases r with
        | @lst a xs ds h1 h2 =>
          unfold gSS at q1
          dsimp only at q1
          split at q1
          · rename_i ns hn
            refine ⟨a, ns, rfl, by rw [← ints_ok h2 hn]; exact SqL.of (off_same _ _ h1), by omega, fun c n nc hcn => ?_⟩
            have e2 : Ex S H1 (upd H1 c (SetO X.w c (fun j => decide (j ∈ ns)) n)) := .new nc
            have g2 := g1.new (o := SetO X.w c (fun j => decide (j ∈ ns)) n) nc
            refine ⟨c, fun j => decide (j ∈ ns), n, rfl, upd_same, by omega, fun ms q hp hm hl nq => ?_⟩
            obtain ⟨b1, b2⟩ := g2.free nq
            refine k _ _ _ (e1.trans (e2.trans (.new nq))) (g2.new nq) (.dat (.lst (off_upd b1 b2) ?_)) (fun z _ e _ => by cases e; exact e1.dom _ (e2.dom _ nq)) (q1.2 ms hp fun j => by rw [hm j, decide_eq_true_eq])
            exact rps_ints ms
          · exact q1.elim
        | _ => exact q1.elim
      | _ => exact q1.elim
theorem pw_eq : ∀ {l m : List Int}, l.Pairwise (· < ·) → m.Pairwise (· < ·) → (∀ k, k ∈ l ↔ k ∈ m) → l = m
  | [], [], _, _, _ => rfl
  | [], y :: m, _, _, h => by have := (h y).mpr (by simp); cases this
  | x :: l, [], _, _, h => by have := (h x).mp (by simp); cases this
  | x :: l, y :: m, h1, h2, h => by
    have a1 := List.pairwise_cons.mp h1
    have a2 := List.pairwise_cons.mp h2
    have e : x = y := by
      rcases List.mem_cons.mp ((h x).mp (by simp)) with q | q
      · exact q
      · rcases List.mem_cons.mp ((h y).mpr (by simp)) with z | z
        · exact z.symm
        · have := a2.1 x q
          have := a1.1 y z
          omega
    subst e
    congr 1
    refine pw_eq a1.2 a2.2 fun k => ⟨fun q => ?_, fun q => ?_⟩
    · rcases List.mem_cons.mp ((h k).mp (by simp [q])) with z | z
      · have := a1.1 k q
        omega
      · exact z
    · rcases List.mem_cons.mp ((h k).mpr (by simp [q])) with z | z
      · have := a2.1 k q
        omega
      · exact z
theorem ev_sortedSet {ρ : Rho} {μ : Mem} {w : WE} {ns : List Int} (h : Evs w ρ μ (.dat (.list (ns.map PyData.int)))) (hp : ns.Pairwise (· < ·)) (hl : ns.length < 64) : Evs (wCB gSS (waCons w waNil)) ρ μ (.dat (.list (ns.map PyData.int))) := fun Q q => h _ (by
  show (match intsD (ns.map PyData.int) with | some ns => ns.length < 64 ∧ ∀ ms : List Int, ms.Pairwise (· < ·) → (∀ k, k ∈ ms ↔ k ∈ ns) → Q (.dat (.list (ms.map .int))) | none => False)
  rw [ints_map]
  refine ⟨hl, fun ms h1 h2 => ?_⟩
  rw [pw_eq h1 hp h2]
  exact q)
theorem pw_up : ∀ {l : List Int}, Up l → l.Pairwise (· < ·)
  | [], _ => .nil
  | x :: l, h => by
    refine List.pairwise_cons.mpr ⟨fun z hz => ?_, pw_up h.2⟩
    exact h.1 z hz
end Hv

set_option Elab.async false
set_option linter.all false
set_option maxRecDepth 100000
/-! sets of things that stand at addresses: what is asked of the things, the search -/
namespace Hv
open PySem PySem.Spec PyProof.Rows L2
/-- things that a set may hold -/
structure Thing (P : Program) (w : World) (κ : Type) [DecidableEq κ] where
  knd : HeapKind P w κ
  cls : ∀ {A : Around} {E : Value → Shared → Prop} {s : Shared} {k : κ} {b : Addr} {Q : Bool → Shared → Prop}, knd.is s.heap k b → Q false s → wpAny (model P w) A (ofAClassStatement 8 (.ref b)) Q E s
  val : ∀ {A : Around} {E : Value → Shared → Prop} {s : Shared} {k : κ} {b : Addr} {Q : Bool → Shared → Prop}, knd.is s.heap k b → (∀ q, Q q s) → wpAny (model P w) A (hashByValue 8 (.ref b)) Q E s
  noset : ∀ {h : Heap} {k : κ} {b : Addr}, knd.is h k b → ∃ o, h.get? b = some o ∧ ∀ es ep t, o.data ≠ .set es ep t
  stays : ∀ {h g : Heap} {k : κ} {b : Addr}, knd.is h k b → (∀ o, h.get? b = some o → g.get? b = some o) → knd.is g k b
def Flat1 (v : Value) : Prop := (∃ i t, v = .int i t) ∨ ∃ x t, v = .str x t
theorem cls_flat {v : Value} (n : Nat) (h : Flat1 v) : ofAClassStatement n v = pure false := by
  rcases h with ⟨i, t, rfl⟩ | ⟨x, t, rfl⟩ <;> cases n <;> rfl
theorem val_flat {v : Value} (n : Nat) (h : Flat1 v) : hashByValue n v = pure true ∨ hashByValue n v = pure false := by
  rcases h with ⟨i, t, rfl⟩ | ⟨x, t, rfl⟩
  · left; cases n <;> rfl
  · right; cases n <;> rfl
section
variable {P : Program} {w : World} {A : Around} {E : Value → Shared → Prop} {s : Shared}
theorem flat_items {ks : List Key} : ∀ {vs : List Value}, ItemsAre (mixKind P w) ks vs → ∀ v ∈ vs, Flat1 v := by
  intro vs h
  induction h with
  | nil => exact fun v hv => nomatch hv
  | @cons k v ks vs hk _ ih =>
    intro u hu
    rcases List.mem_cons.mp hu with rfl | hu
    · have hk : keyIs k u = true := hk
      cases k with
      | inl i => exact .inl ⟨i, Value.isInt_shape hk⟩
      | inr x => exact .inr ⟨x, Value.isStrOf_shape hk⟩
    · exact ih u hu
theorem cls_tup {k : List Key} {b : Addr} {Q : Bool → Shared → Prop} (hk : IsTupleKey (mixKind P w) s.heap k b) (q : Q false s) : wpAny (model P w) A (ofAClassStatement 8 (.ref b)) Q E s := by
  have ty := hk.typeIs
  obtain ⟨ob, its, n, at', _, dat, are⟩ := hk
  have all := flat_items are
  unfold ofAClassStatement
  refine wpAny_bind (wpAny_typeOf ty ?_)
  dsimp only
  rw [show (("tuple" : String) == "tuple") = true by decide]
  simp only [if_true, Bool.not_true, Bool.false_eq_true, if_false]
  show wpAny _ _ (seqItems? (.ref b) >>= _) _ _ s
  refine wpAny_bind (wpAny_seqItems at' dat (wpAny_bind ?_))
  show wpAny _ _ (forIn its _ _) _ _ s
  rw [← Array.forIn_toList]
  refine wpAny_forIn_list _ (fun more st s' => (st.1 = none ∧ s' = s) ∧ ∀ v ∈ more, Flat1 v) _ (fun v more st s' ⟨⟨h1, h2⟩, h3⟩ => ?_) (fun st s' ⟨⟨h1, h2⟩, _⟩ => ?_) _ _ ⟨⟨rfl, rfl⟩, all⟩
  · rw [cls_flat _ (h3 v (by simp))]
    exact wpAny_bind (wpAny_pure (wpAny_pure ⟨⟨rfl, h2⟩, fun u hu => h3 u (by simp [hu])⟩))
  · obtain ⟨r1, r2⟩ := st
    cases h1
    rw [h2]
    exact wpAny_pure q
theorem val_tup {k : List Key} {b : Addr} {Q : Bool → Shared → Prop} (hk : IsTupleKey (mixKind P w) s.heap k b) (q : ∀ r, Q r s) : wpAny (model P w) A (hashByValue 8 (.ref b)) Q E s := by
  have ty := hk.typeIs
  obtain ⟨ob, its, n, at', _, dat, are⟩ := hk
  have all := flat_items are
  unfold hashByValue
  refine wpAny_bind (wpAny_specialOf ty F.slot_tuple_hash.lookup ?_)
  show wpAny _ _ (seqItems? (.ref b) >>= _) _ _ s
  refine wpAny_bind (wpAny_seqItems at' dat (wpAny_bind ?_))
  show wpAny _ _ (forIn its _ _) _ _ s
  rw [← Array.forIn_toList]
  refine wpAny_forIn_list _ (fun more st s' => s' = s ∧ ∀ v ∈ more, Flat1 v) _ (fun v more st s' ⟨h2, h3⟩ => ?_) (fun st s' ⟨h2, _⟩ => ?_) _ _ ⟨rfl, all⟩
  · rcases val_flat 7 (h3 v (by simp)) with e | e
    · rw [e]
      exact wpAny_bind (wpAny_pure (wpAny_pure ⟨h2, fun u hu => h3 u (by simp [hu])⟩))
    · rw [e]
      subst h2
      exact wpAny_bind (wpAny_pure (wpAny_pure (wpAny_pure (q _))))
  · obtain ⟨r1, r2⟩ := st
    rw [h2]
    cases r1 with
    | none => exact wpAny_pure (q _)
    | some r => exact wpAny_pure (q _)
end
/-- tuples of texts and numbers -/
def tupT (P : Program) (w : World) : Thing P w (List Key) where
  knd := tupleKind (mixKind P w)
  cls := cls_tup
  val := val_tup
  noset := fun ⟨o, its, n, h1, _, h2, _⟩ => ⟨o, h1, fun es ep t e => by rw [h2] at e; cases e⟩
  stays := fun ⟨o, its, n, h1, h2, h3, h4⟩ k => ⟨o, its, n, k o h1, h2, h3, h4⟩
end Hv

set_option Elab.async false
set_option linter.all false
set_option maxRecDepth 100000
/-! sets of things: the search -/
namespace Hv
open PySem PySem.Spec PyProof.Rows L2
section
variable {P : Program} {w : World} {κ : Type} [DecidableEq κ] {A : Around} {E : Value → Shared → Prop} {s : Shared}
def Thing.row (T : Thing P w κ) (p : Addr × κ) : Int × Value := (T.knd.hash p.2, .ref p.1)
/-- the set at a holds the things L, in the order of its table -/
structure Held (T : Thing P w κ) (h : Heap) (a : Addr) (L : List (Addr × κ)) (es : Array (Int × Value)) (ep : Nat) (t : SetTable) : Prop where
  obj : ∃ o, h.get? a = some o ∧ o.ExactSet ∧ o.data = .set es ep t
  ent : es.toList = L.map T.row
  tab : TabOk t ((L.map T.row).map Prod.fst)
  apart : (L.map Prod.snd).Nodup
  there : ∀ p ∈ L, T.knd.is h p.2 p.1
  led : w.params.followText "set-order" = true ∨ t.led = true
  loose : 5 * L.length < 3 * t.mask
  few : L.length ≤ 63
variable {T : Thing P w κ} {a x : Addr} {L : List (Addr × κ)} {es : Array (Int × Value)} {ep : Nat} {t : SetTable} {k : κ}
theorem Held.len (R : Held T s.heap a L es ep t) : es.size = L.length := by
  rw [← Array.length_toList, R.ent, List.length_map]
theorem Held.places (R : Held T s.heap a L es ep t) : t.place.toList.length = L.length := by
  rw [Array.length_toList, R.tab.sz, List.length_map, List.length_map]
theorem fits_of {n : Nat} (h1 : t.place.size = n) (h2 : t.dummies = #[]) (h3 : n ≤ t.mask) : t.fits n = true := by
  unfold SetTable.fits SetTable.fill
  rw [h2, h1]
  simpa using h3
theorem Held.fit (R : Held T s.heap a L es ep t) : t.fits es.size = true := by
  have h1 := R.places
  have h2 := R.loose
  rw [R.len]
  exact fits_of (by rw [← h1, Array.length_toList]) R.tab.dm (by omega)
theorem Held.at (R : Held T s.heap a L es ep t) {i : Nat} {p : Addr × κ} (h : L[i]? = some p) : es[i]? = some (T.row p) := by
  rw [← Array.getElem?_toList, R.ent, List.getElem?_map, h]
  rfl
theorem Held.hash (R : Held T s.heap a L es ep t) {i : Nat} {p : Addr × κ} (h : L[i]? = some p) : ((es[i]?).map Prod.fst).getD 0 = T.knd.hash p.2 := by
  rw [R.at h]
  rfl
/-- the probe that stands at the c-th step of a hash's way -/
abbrev stepOf (m : Nat) (h : Int) (c : Nat) : SetTable.Probe := nth m (runAt m (SetTable.bits h % (m + 1)) (SetTable.bits h)) c
theorem step_clear (m : Nat) : ∀ (n : Nat) (p : SetTable.Probe), p.dummy = none → (nth m p n).dummy = none
  | 0, _, h => h
  | n + 1, p, h => step_clear m n _ (by unfold adv; split <;> exact h)
/-- nobody sees a search among such things -/
theorem unseen {Q : Bool → Shared → Prop} (hx : T.knd.is s.heap k x) {ys : List Value} (hy : ∀ y ∈ ys, ∃ p : Addr × κ, y = .ref p.1 ∧ T.knd.is s.heap p.2 p.1) (q : Q false s) : wpAny (model P w) A (searchCouldBeSeen (.ref x) ys) Q E s := by
  unfold searchCouldBeSeen
  refine wpAny_bind (wpAny_forIn_list _ (fun more st s' => (st.1 = none ∧ s' = s) ∧ ∀ y ∈ more, ∃ p : Addr × κ, y = .ref p.1 ∧ T.knd.is s.heap p.2 p.1) _ (fun v more st s' ⟨⟨h1, h2⟩, h3⟩ => ?_) (fun st s' ⟨⟨h1, h2⟩, _⟩ => ?_) _ _ ⟨⟨rfl, rfl⟩, hy⟩)
  · subst h2
    obtain ⟨p, rfl, hp⟩ := h3 v (by simp)
    have on : ∀ y ∈ more, ∃ p : Addr × κ, y = Value.ref p.1 ∧ T.knd.is s'.heap p.2 p.1 := fun y hy => h3 y (by simp [hy])
    dsimp only
    by_cases c : (x == p.1 || (carriedByValue (.ref x) && carriedByValue (.ref p.1))) = true
    · exact wp_if_pos c (wpAny_pure ⟨⟨rfl, rfl⟩, on⟩)
    · refine wp_if_neg c (wpAny_bind (T.knd.quiet hx ?_))
      simp only [Bool.not_true, Bool.false_eq_true, if_false]
      refine wpAny_bind (T.knd.quiet hp ?_)
      simp only [Bool.not_true, Bool.false_eq_true, if_false]
      refine wpAny_bind (T.cls hx ?_)
      simp only [Bool.false_eq_true, if_false]
      refine wpAny_bind (T.cls hp ?_)
      simp only [Bool.false_eq_true, if_false]
      exact wpAny_pure ⟨⟨rfl, rfl⟩, on⟩
  · obtain ⟨r1, r2⟩ := st
    cases h1
    rw [h2]
    exact wpAny_pure q
/-- what the probe meets from the c-th step on: a row with that hash, or the empty slot -/
theorem meets_next (R : Held T s.heap a L es ep t) {h : Int} {K c : Nat} (kf : K < 10 * SetTable.turns t.mask) (gap : way t.mask h K ∉ t.place.toList) (full : ∀ d, d < K → way t.mask h d ∈ t.place.toList) (hc : c ≤ K) :
    (∃ (d i : Nat) (p : Addr × κ), c ≤ d ∧ d < K ∧ L[i]? = some p ∧ T.knd.hash p.2 = h ∧ t.place.toList[i]? = some (way t.mask h d) ∧ (∀ (d' i' : Nat) (p' : Addr × κ), c ≤ d' → d' < d → L[i']? = some p' → t.place.toList[i']? = some (way t.mask h d') → T.knd.hash p'.2 ≠ h) ∧
      t.probe (fun i => ((es[i]?).map Prod.fst).getD 0) h (stepOf t.mask h c) = some (.candidate (way t.mask h d) i (stepOf t.mask h (d + 1)))) ∨
    ((∀ (d' i' : Nat) (p' : Addr × κ), c ≤ d' → d' < K → L[i']? = some p' → t.place.toList[i']? = some (way t.mask h d') → T.knd.hash p'.2 ≠ h) ∧ t.probe (fun i => ((es[i]?).map Prod.fst).getD 0) h (stepOf t.mask h c) = some (.empty (way t.mask h K) none)) := by
  have sh : ∀ q, nth t.mask (stepOf t.mask h c) q = stepOf t.mask h (c + q) := fun q => (nth_add t.mask c _ q).symm
  have G := go_spec t R.tab.ris R.tab.dm (fun i => ((es[i]?).map Prod.fst).getD 0) h (10 * SetTable.turns t.mask) (K - c) (stepOf t.mask h c) (step_clear _ c _ rfl) (by omega)
    (fun q hq => by rw [sh]; exact full (c + q) (by omega)) (by rw [sh, Nat.add_sub_cancel' hc]; exact gap)
  rcases G with ⟨q, i, h1, h2, h3, h4, h5⟩ | ⟨h4, h5⟩
  · rw [sh] at h2
    have il : i < L.length := by rw [← R.places]; exact (List.getElem?_eq_some_iff.mp h2).1
    have hp : L[i]? = some L[i] := List.getElem?_eq_getElem il
    refine .inl ⟨c + q, i, L[i], by omega, by omega, hp, by rw [← R.hash hp]; exact h3, h2, fun d' i' p' a1 a2 a3 a4 => ?_, ?_⟩
    · rw [← R.hash a3]
      exact h4 (d' - c) i' (by omega) (by rw [sh, Nat.add_sub_cancel' a1]; exact a4)
    · rw [sh, sh] at h5
      exact h5
  · refine .inr ⟨fun d' i' p' a1 a2 a3 a4 => ?_, ?_⟩
    · rw [← R.hash a3]
      exact h4 (d' - c) i' (by omega) (by rw [sh, Nat.add_sub_cancel' a1]; exact a4)
    · rw [sh, Nat.add_sub_cancel' hc] at h5
      exact h5
theorem Held.sound (R : Held T s.heap a L es ep t) : ¬ t.gaveWay = true := by
  unfold SetTable.gaveWay
  rw [mask_odd R.tab.mok]
  decide
/-- what stands behind a row that was met -/
theorem behind_row (R : Held T s.heap a L es ep t) (hx : T.knd.is s.heap k x) (hr : T.knd.room A) {f i j : Nat} {p : Addr × κ} {nx : SetTable.Probe} {Q : SetFound → Shared → Prop} (hp : L[i]? = some p) (hj : t.place.toList[i]? = some j)
    (yes : p.2 = k → Q (.there none) s) (no : p.2 ≠ k → wpAny (model P w) A (setSearchFrom a (.ref x) (T.knd.hash k) true f (some nx)) Q E s) : wpAny (model P w) A (searchRest a (.ref x) (T.knd.hash k) true f es t j i nx) Q E s := by
  obtain ⟨o, h1, h2, h3⟩ := R.obj
  have pm : p ∈ L := List.mem_of_getElem? hp
  have sl : t.slot j = .live i := slot_live R.tab.ris hj
  unfold searchRest
  rw [R.at hp]
  refine wpAny_bind (wpAny_holding (T.knd.eqBool hr (R.there p pm) hx (wpAny_bind (wpAny_setState_of h1 h3 R.fit ?_))))
  by_cases e : p.2 = k
  · exact wp_if_pos (by simp [e]) (wpAny_pure (yes e))
  · refine wp_if_neg (by simp [e]) ?_
    rw [show t.sameMemory t.moves t.mask = some true from sameMem t]
    simp only [if_true, sl, R.at hp]
    refine wpAny_bind (wpAny_isSame_ref_self (wpAny_bind (wpAny_pure ?_)))
    simp only [if_true]
    exact wp_if_neg (by simp [e]) (no e)
theorem find_thing (R : Held T s.heap a L es ep t) (hx : T.knd.is s.heap k x) (hr : T.knd.room A) {K : Nat} {Q : SetFound → Shared → Prop} (kf : K < 10 * SetTable.turns t.mask) (gap : way t.mask (T.knd.hash k) K ∉ t.place.toList) (full : ∀ d, d < K → way t.mask (T.knd.hash k) d ∈ t.place.toList)
    (yes : (∃ p ∈ L, p.2 = k) → Q (.there none) s) (no : (∀ p ∈ L, p.2 ≠ k) → Q (.free (way t.mask (T.knd.hash k) K) false) s) (f : Nat) : ∀ (c : Nat) (st : Option SetTable.Probe), st.getD (t.probeStart (T.knd.hash k)) = stepOf t.mask (T.knd.hash k) c → c ≤ K → K < c + f →
      (∀ (i : Nat) (p : Addr × κ), L[i]? = some p → p.2 = k → ∃ d, c ≤ d ∧ d < K ∧ t.place.toList[i]? = some (way t.mask (T.knd.hash k) d)) → wpAny (model P w) A (setSearchFrom a (.ref x) (T.knd.hash k) true f st) Q E s := by
  induction f with
  | zero => intro c st _ h1 h2; omega
  | succ f ih =>
    intro c st est hc hf ahead
    obtain ⟨o, h1, h2, h3⟩ := R.obj
    rw [setSearchFrom_succ]
    refine wpAny_bind (wpAny_setState_of h1 h3 R.fit (wp_if_neg R.sound ?_))
    rw [est]
    rcases meets_next R kf gap full hc with ⟨d, i, p, a1, a2, a3, a4, a5, a6, a7⟩ | ⟨a6, a7⟩
    · rw [a7]
      have go : wpAny (model P w) A (searchRest a (.ref x) (T.knd.hash k) true f es t (way t.mask (T.knd.hash k) d) i (stepOf t.mask (T.knd.hash k) (d + 1))) Q E s := by
        refine behind_row R hx hr a3 a5 (fun e => yes ⟨p, List.mem_of_getElem? a3, e⟩) fun e => ih (d + 1) _ rfl (by omega) (by omega) fun i' p' b1 b2 => ?_
        obtain ⟨d', c1, c2, c3⟩ := ahead i' p' b1 b2
        refine ⟨d', ?_, c2, c3⟩
        rcases Nat.lt_trichotomy d' d with z | z | z
        · exact absurd (congrArg T.knd.hash b2) (a6 d' i' p' c1 z b1 c3)
        · rw [z] at c3
          have e2 := (slot_live R.tab.ris c3).symm.trans (slot_live R.tab.ris a5)
          injection e2 with e2
          rw [e2, a3] at b1
          exact absurd (by rw [Option.some.inj b1]; exact b2) e
        · exact z
      by_cases hl : t.led = true
      · exact wp_if_neg (by simp [hl]) go
      · refine wp_if_pos (by simp [hl]) (wpAny_bind (unseen hx (fun y hy => ?_) (wp_if_neg (by decide) go)))
        obtain ⟨u, hu, rfl⟩ := List.mem_map.mp hy
        have m1 : u ∈ es.toList := by
          have : u ∈ es ∧ u.1 = T.knd.hash k := by simpa using hu
          simpa using this.1
        rw [R.ent] at m1
        obtain ⟨v, hv, rfl⟩ := List.mem_map.mp m1
        exact ⟨v, rfl, R.there v hv⟩
    · rw [a7]
      refine wpAny_pure (no fun p hp e => ?_)
      obtain ⟨i, hi⟩ := List.getElem?_of_mem hp
      obtain ⟨d', c1, c2, c3⟩ := ahead i p hi e
      exact a6 d' i p c1 c2 hi c3 (congrArg T.knd.hash e)
theorem search_thing (R : Held T s.heap a L es ep t) (hx : T.knd.is s.heap k x) (hr : T.knd.room A) {Q : SetFound → Shared → Prop} (yes : (∃ p ∈ L, p.2 = k) → Q (.there none) s)
    (no : ∀ K, (∀ p ∈ L, p.2 ≠ k) → way t.mask (T.knd.hash k) K ∉ t.place.toList → (∀ d, d < K → way t.mask (T.knd.hash k) d ∈ t.place.toList) → Q (.free (way t.mask (T.knd.hash k) K) false) s) : wpAny (model P w) A (setSearch a (.ref x) (T.knd.hash k) true) Q E s := by
  have lo := R.loose
  obtain ⟨K, kf, gap, full⟩ := R.tab.first (by rw [List.length_map, List.length_map]; omega) (T.knd.hash k)
  have few : K < 100000 := by
    have : SetTable.turns t.mask ≤ 142 := by
      unfold SetTable.turns
      rcases R.tab.mok with e | e | e <;> omega
    omega
  unfold setSearch
  refine find_thing R hx hr kf gap full yes (fun h => no K h gap full) 100000 0 none rfl (Nat.zero_le _) (by omega) fun i p hp e => ?_
  have il : i < t.place.toList.length := by rw [R.places]; exact (List.getElem?_eq_some_iff.mp hp).1
  have hj := List.getElem?_eq_getElem il
  have hh : ((L.map T.row).map Prod.fst)[i]? = some (T.knd.hash k) := by
    rw [List.getElem?_map, List.getElem?_map, hp, ← e]
    rfl
  obtain ⟨d, h1, h2⟩ := R.tab.before gap hh hj
  exact ⟨d, Nat.zero_le _, h1, by rw [hj, h2]⟩
end
end Hv

set_option Elab.async false
set_option linter.all false
set_option maxRecDepth 100000
/-! sets of things: a thing put in -/
namespace Hv
open PySem PySem.Spec PyProof.Rows L2
theorem pick_all {α : Type} : ∀ L : List α, (List.range L.length).filterMap (fun i => L[i]?) = L
  | [] => rfl
  | x :: L => by
    rw [List.length_cons, List.range_succ_eq_map, List.filterMap_cons, List.filterMap_map]
    exact congrArg (x :: ·) (pick_all L)
section
variable {P : Program} {w : World} {κ : Type} [DecidableEq κ] {A : Around} {E : Value → Shared → Prop} {s : Shared} {T : Thing P w κ} {a x : Addr} {L : List (Addr × κ)} {es : Array (Int × Value)} {ep : Nat} {t : SetTable} {k : κ}
theorem ent_at (h : es.toList = L.map T.row) (i : Nat) : es[i]? = (L[i]?).map T.row := by rw [← Array.getElem?_toList, h, List.getElem?_map]
/-- the rows in another order -/
theorem reorder (h : es.toList = L.map T.row) {od : Array Nat} (hp : od.toList.Perm (List.range L.length)) :
    ∃ L2 : List (Addr × κ), (od.filterMap (es[·]?)).toList = L2.map T.row ∧ L2.Perm L ∧ (L2.map T.row).map Prod.fst = od.toList.map fun i => (es.map Prod.fst).getD i 0 := by
  refine ⟨od.toList.filterMap fun i => L[i]?, ?_, ?_, ?_⟩
  · rw [Array.toList_filterMap, List.map_filterMap]
    exact congrArg (fun f => List.filterMap f od.toList) (funext fun i => ent_at h i)
  · have := hp.filterMap fun i => L[i]?
    rwa [pick_all] at this
  · have key : ∀ l : List Nat, (∀ i ∈ l, i < L.length) → ((l.filterMap fun i => L[i]?).map T.row).map Prod.fst = l.map fun i => (es.map Prod.fst).getD i 0 := by
      intro l
      induction l with
      | nil => intro _; rfl
      | cons i l ih =>
        intro hl
        have hi := List.getElem?_eq_getElem (hl i (by simp))
        rw [List.filterMap_cons_some hi, List.map_cons, List.map_cons, List.map_cons, ih fun j hj => hl j (by simp [hj])]
        congr 1
        rw [Array.getD_eq_getD_getElem?, Array.getElem?_map, ent_at h, hi]
        rfl
    exact key _ fun i hi => List.mem_range.mp (hp.mem_iff.mp hi)
theorem stays_set {h g : Heap} {b : Addr} {k : κ} {o : Obj} (hb : T.knd.is h k b) (ho : h.get? a = some o) (hd : o.data = .set es ep t) (sb : Heap.SameBut a h g) : T.knd.is g k b := by
  obtain ⟨u, hu, no⟩ := T.noset hb
  have ne : b ≠ a := fun z => by
    rw [z, ho] at hu
    exact no _ _ _ (by rw [← Option.some.inj hu]; exact hd)
  exact T.stays hb fun v hv => (sb.2 b ne).trans hv
theorem relay_thing {o : Obj} {want M : Nat} {Q : Unit → Shared → Prop} (ho : s.heap.get? a = some o) (hex : o.ExactSet) (hd : o.data = .set es ep t) (he : es.toList = L.map T.row) (hs : t.place.size = L.length) (hdm : t.dummies = #[]) (hm : L.length ≤ t.mask)
    (apart : (L.map Prod.snd).Nodup) (there : ∀ p ∈ L, T.knd.is s.heap p.2 p.1) (led : w.params.followText "set-order" = true ∨ t.led = true) (few : L.length ≤ 63) (hw : SetTable.sizeAbove want - 1 = M) (hM : MaskOk M) (h128 : SetTable.sizeAbove want ≤ 128) (lo : 5 * L.length < 3 * M)
    (fin : ∀ g L2 es2 ep2 t2, Heap.SameBut a s.heap g → Held T g a L2 es2 ep2 t2 → L2.Perm L → Q () { s with heap := g }) : wpAny (model P w) A (setRelay a want) Q E s := by
  have hes : es.size = L.length := by rw [← Array.length_toList, he, List.length_map]
  obtain ⟨t2, od, e1, e2, e3, e4, e5, _, e7⟩ := relaid_ok t (hs := es.map Prod.fst) (wanted := want) hw hM (by rw [Array.size_map, hes]; omega)
  rw [Array.size_map, hes] at e2
  obtain ⟨L2, r1, r2, r3⟩ := reorder he e2
  have sz : (od.filterMap (es[·]?)).size = es.size := by rw [← Array.length_toList, r1, List.length_map, r2.length_eq, hes]
  rw [setRelay_eq]
  refine wpAny_bind (wpAny_setState_of ho hd (by rw [hes]; exact fits_of hs hdm hm) (wp_if_neg (by rw [sizeLine_eq]; omega) (wpAny_bind ?_)))
  have e1 : t.relaid (es.map (·.1)) want = some (t2, od) := e1
  rw [e1]
  refine wp_if_neg (by rw [sz]; simp) (wpAny_pure (wpAny_storeSet_of ho hd ?_ (by rw [sz, hes, sizeLine_eq]; omega)))
  have sb : Heap.SameBut a s.heap (s.heap.update a (Obj.putSet (od.filterMap (es[·]?)) t2)) := Heap.SameBut.update ..
  exact fin _ L2 _ (ep + 1) t2 sb ⟨⟨_, store_at ho hd, ⟨hex.1, hex.2.1, hex.2.2⟩, rfl⟩, r1, by rw [r3]; exact e3, (r2.map Prod.snd).nodup_iff.mpr apart, fun p hp => stays_set (there p (r2.mem_iff.mp hp)) ho hd sb, by rw [e5]; exact led, by rw [r2.length_eq, e4]; exact lo, by rw [r2.length_eq]; exact few⟩ r2
/-- a row set in among the rows -/
theorem in_among (L : List (Addr × κ)) (p : Nat) (u : Addr × κ) : (L.take p ++ u :: L.drop p).Perm (u :: L) := by
  have := List.perm_middle (a := u) (l₁ := L.take p) (l₂ := L.drop p)
  rwa [List.take_append_drop] at this
theorem add_thing (R : Held T s.heap a L es ep t) (hx : T.knd.is s.heap k x) (hr : T.knd.room A) (hf : L.length + 1 ≤ 63) {Q : Bool → Shared → Prop}
    (fin : ∀ b g L2 es2 ep2 t2, Heap.SameBut a s.heap g → Held T g a L2 es2 ep2 t2 → ((∃ p ∈ L, p.2 = k) → L2 = L) → ((∀ p ∈ L, p.2 ≠ k) → L2.Perm ((x, k) :: L)) → Q b { s with heap := g }) :
    wpAny (model P w) A (setAddHashed a (.ref x) (T.knd.hash k)) Q E s := by
  obtain ⟨o, h1, h2, h3⟩ := R.obj
  unfold setAddHashed
  refine wpAny_holding ?_
  rw [show (100000 : Nat) = 99999 + 1 from rfl, setAddHashedIn_succ]
  refine wpAny_bind (wpAny_setState_of h1 h3 R.fit (wp_if_neg (by simp [byScan, Value.scannable]) (wpAny_bind (search_thing R hx hr (fun ⟨p, hp, e⟩ => ?_) fun K out gap full => ?_))))
  · exact wpAny_pure (fin false s.heap L es ep t (Heap.SameBut.refl a s.heap) R (fun _ => rfl) fun z => absurd e (z p hp))
  have lo := R.loose
  obtain ⟨q1, q2, q3, q4, q5, _, _, _, q9⟩ := R.tab.put gap full
  refine wpAny_bind (wpAny_setState_of h1 h3 R.fit ?_)
  dsimp only
  generalize hpt : t.put (way t.mask (T.knd.hash k) K) = pt at q1 q3 q4 q5 q9 ⊢
  obtain ⟨t1, pos⟩ := pt
  dsimp only at q1 q3 q4 q5 q9 ⊢
  generalize SetTable.below t.place (way t.mask (T.knd.hash k) K) = pb at q1 q2 q3
  subst q1
  have both : ∀ {F : Bool → Sem Bool}, (∀ q, wpAny (model P w) A (F q) Q E s) → wpAny (model P w) A (if t1.plain = true then hashByValue 8 (.ref x) >>= F else pure true >>= F) Q E s := fun {F} z => by
    by_cases hp : t1.plain = true
    · exact wp_if_pos hp (wpAny_bind (T.val hx z))
    · exact wp_if_neg hp (wpAny_bind (wpAny_pure (z true)))
  refine both fun q => ?_
  have tab2 : ∀ t2 : SetTable, (if q = true then t1 else { t1 with plain := false }) = t2 → TabOk t2 (((L.map T.row).map Prod.fst).take pos ++ T.knd.hash k :: ((L.map T.row).map Prod.fst).drop pos) ∧ t2.mask = t.mask ∧ t2.led = t.led ∧ t2.fill = L.length + 1 := fun t2 e => by
    subst e
    rw [List.length_map, List.length_map] at q9
    cases q with
    | true => exact ⟨q3, q4, q5, q9⟩
    | false => exact ⟨⟨q3.ris, q3.dm, q3.sz, q3.mok, q3.bd, q3.reach⟩, q4, q5, q9⟩
  generalize he2 : (if q = true then t1 else { t1 with plain := false }) = t2 at tab2 ⊢
  obtain ⟨tb, em, el, ef⟩ := tab2 t2 rfl
  have pm := in_among L pos (x, k)
  have rows : (SetTable.insertAt es pos (T.knd.hash k, Value.ref x)).toList = (L.take pos ++ (x, k) :: L.drop pos).map T.row := by
    rw [SetTable.toList_insertAt, R.ent, List.map_append, List.map_cons, List.map_take, List.map_drop]
    rfl
  have tb2 : TabOk t2 (((L.take pos ++ (x, k) :: L.drop pos).map T.row).map Prod.fst) := by
    rw [List.map_append, List.map_cons, List.map_append, List.map_cons, List.map_take, List.map_drop, List.map_take, List.map_drop]
    exact tb
  have len2 : (L.take pos ++ (x, k) :: L.drop pos).length = L.length + 1 := pm.length_eq
  have apart2 : ((L.take pos ++ (x, k) :: L.drop pos).map Prod.snd).Nodup := (pm.map Prod.snd).nodup_iff.mpr (List.nodup_cons.mpr ⟨fun z => by obtain ⟨p, hp, e⟩ := List.mem_map.mp z; exact out p hp e, R.apart⟩)
  generalize L.take pos ++ (x, k) :: L.drop pos = L2 at pm rows tb2 len2 apart2
  generalize SetTable.insertAt es pos (T.knd.hash k, Value.ref x) = es2 at rows ⊢
  have sz2 : es2.size = L2.length := by rw [← Array.length_toList, rows, List.length_map]
  refine wpAny_bind (wpAny_storeSet_of h1 h3 ?_ (by rw [sz2, len2, sizeLine_eq]; omega))
  have sb : Heap.SameBut a s.heap (s.heap.update a (Obj.putSet es2 t2)) := Heap.SameBut.update ..
  have at2 := store_at (es' := es2) (t' := t2) h1 h3
  generalize s.heap.update a (Obj.putSet es2 t2) = g at sb at2 ⊢
  have there2 : ∀ p ∈ L2, T.knd.is g p.2 p.1 := fun p hp => by
    rcases List.mem_cons.mp (pm.mem_iff.mp hp) with rfl | hp
    · exact stays_set hx h1 h3 sb
    · exact stays_set (R.there p hp) h1 h3 sb
  have led2 : w.params.followText "set-order" = true ∨ t2.led = true := by rw [el]; exact R.led
  have place2 : t2.place.size = L2.length := by rw [tb2.sz, List.length_map, List.length_map]
  by_cases tf : t2.tooFull = true
  · have big : 3 * t.mask ≤ 5 * (L.length + 1) := by
      have z := tf
      unfold SetTable.tooFull at z
      rw [decide_eq_true_eq, ef, em] at z
      omega
    have two : (t.mask = 7 ∧ L.length = 4) ∨ (t.mask = 31 ∧ L.length = 18) := by
      rcases R.tab.mok with e | e | e
      · exact .inl ⟨e, by omega⟩
      · exact .inr ⟨e, by omega⟩
      · omega
    have go : ∀ M, SetTable.sizeAbove (SetTable.grown (es.size + 1)) - 1 = M → MaskOk M → SetTable.sizeAbove (SetTable.grown (es.size + 1)) ≤ 128 → 5 * (L.length + 1) < 3 * M →
        wpAny (model P w) A (setRelay a (SetTable.grown (es.size + 1))) (fun _ s' => wpAny (model P w) A (pure true) Q E s') E { s with heap := g } := fun M m1 m2 m3 m4 =>
      relay_thing (s := { s with heap := g }) at2 ⟨h2.1, h2.2.1, h2.2.2⟩ rfl rows place2 tb2.dm (by rw [em]; omega) apart2 there2 led2 (by omega) m1 m2 m3 (by rw [len2]; exact m4) fun g2 L3 es3 ep3 t3 sb3 R3 pm3 => wpAny_pure (fin true g2 L3 es3 ep3 t3 (sb.trans sb3) R3 (fun ⟨p, hp, e⟩ => absurd e (out p hp)) fun _ => pm3.trans pm)
    have hrun : wpAny (model P w) A (setRelay a (SetTable.grown (es.size + 1))) (fun _ s' => wpAny (model P w) A (pure true) Q E s') E { s with heap := g } := by
      rcases two with ⟨_, e⟩ | ⟨_, e⟩
      · exact go 31 (by rw [R.len, e, size_20]) (.inr (.inl rfl)) (by rw [R.len, e, size_20]; decide) (by omega)
      · exact go 127 (by rw [R.len, e, size_76]) (.inr (.inr rfl)) (by rw [R.len, e, size_76]; decide) (by omega)
    first
      | exact wp_if_pos (by simp [tf]) (wpAny_bind hrun)
      | exact wpAny_bind (wp_if_pos (by simp [tf]) hrun)
  · have small : 5 * (L.length + 1) < 3 * t.mask := by
      have z := tf
      unfold SetTable.tooFull at z
      rw [decide_eq_true_eq, ef, em] at z
      omega
    have last : wpAny (model P w) A (pure true) Q E { s with heap := g } := wpAny_pure (fin true g L2 es2 (ep + 1) t2 sb ⟨⟨_, at2, ⟨h2.1, h2.2.1, h2.2.2⟩, rfl⟩, rows, tb2, apart2, there2, led2, by rw [len2, em]; exact small, by omega⟩ (fun ⟨p, hp, e⟩ => absurd e (out p hp)) fun _ => pm)
    first
      | exact wp_if_neg (by simp [tf]) last
      | exact wpAny_bind (wp_if_neg (by simp [tf]) (wpAny_pure last))
end
end Hv

set_option Elab.async false
set_option linter.all false
set_option maxRecDepth 100000
/-! sets of things: set(l) -/
namespace Hv
open PySem PySem.Spec PyProof.Rows L2
/-- what stands in the set behind the first i of a list -/
structure Gath {κ : Type} (ks : List (Addr × κ)) (i : Nat) (L : List (Addr × κ)) : Prop where
  from_ : ∀ p ∈ L, p ∈ ks.take i
  all : ∀ p ∈ ks.take i, ∃ r ∈ L, r.2 = p.2
  most : L.length ≤ i
theorem take_one {α : Type} {l : List α} {i : Nat} {x : α} (h : l[i]? = some x) : l.take (i + 1) = l.take i ++ [x] := by rw [List.take_add_one, h]; rfl
section
variable {P : Program} {w : World} {κ : Type} [DecidableEq κ] {A : Around} {E : Value → Shared → Prop} {s : Shared} {T : Thing P w κ} {ks L M : List (Addr × κ)} {i : Nat} {p : Addr × κ}
theorem Gath.next (g : Gath ks i L) (hp : ks[i]? = some p) (h1 : (∃ r ∈ L, r.2 = p.2) → M = L) (h2 : (∀ r ∈ L, r.2 ≠ p.2) → M.Perm (p :: L)) : Gath ks (i + 1) M := by
  have tk := take_one hp
  by_cases c : ∃ r ∈ L, r.2 = p.2
  · rw [h1 c]
    refine ⟨fun q hq => by rw [tk]; exact List.mem_append_left _ (g.from_ q hq), fun q hq => ?_, Nat.le_succ_of_le g.most⟩
    rw [tk] at hq
    rcases List.mem_append.mp hq with z | z
    · exact g.all q z
    · rw [List.mem_singleton.mp z]; exact c
  · have pm := h2 fun r hr e => c ⟨r, hr, e⟩
    refine ⟨fun q hq => ?_, fun q hq => ?_, by rw [pm.length_eq]; exact Nat.succ_le_succ g.most⟩
    · rw [tk]
      rcases List.mem_cons.mp (pm.mem_iff.mp hq) with rfl | z
      · simp
      · exact List.mem_append_left _ (g.from_ q z)
    · rw [tk] at hq
      rcases List.mem_append.mp hq with z | z
      · obtain ⟨r, hr, e⟩ := g.all q z
        exact ⟨r, pm.mem_iff.mpr (List.mem_cons_of_mem _ hr), e⟩
      · rw [List.mem_singleton.mp z]
        exact ⟨p, pm.mem_iff.mpr List.mem_cons_self, rfl⟩
theorem Held.carry {h g : Heap} {a : Addr} {es : Array (Int × Value)} {ep : Nat} {t : SetTable} (R : Held T h a L es ep t) (ha : ∀ o, h.get? a = some o → g.get? a = some o) (ht : ∀ p ∈ L, T.knd.is g p.2 p.1) : Held T g a L es ep t := by
  obtain ⟨o, h1, h2⟩ := R.obj
  exact ⟨⟨o, ha o h1, h2⟩, R.ent, R.tab, R.apart, ht, R.led, R.loose, R.few⟩
theorem held_new {h : Heap} {a : Addr} (ho : h.get? a = some (setObj w)) : Held T h a [] #[] 0 (.fresh 0 0 (!w.params.followText "set-order")) where
  obj := ⟨_, ho, ⟨rfl, rfl, rfl⟩, rfl⟩
  ent := rfl
  tab := ⟨.nil, rfl, rfl, .inl rfl, (fun _ z => nomatch z), fun i h j z => by simp at z⟩
  apart := .nil
  there := fun _ z => nomatch z
  led := by
    show _ ∨ (!w.params.followText "set-order") = true
    cases w.params.followText "set-order" <;> simp
  loose := by show 5 * 0 < 3 * 7; decide
  few := Nat.zero_le _
theorem loop_things {I S : Addr} {fp wr : List Addr} {G : Array GenState → Array GenState → Prop} {n : Nat} {Pv : Nat → Value → Prop} {St : Nat → Shared → Prop} {R : Result → Shared → Prop}
    (W : WalksS P w A.in1 I fp wr G n Pv St) (out : S ∉ fp) (hn : n = ks.length) (few : ks.length ≤ 63) (vals : ∀ i v, Pv i v → ∃ p, ks[i]? = some p ∧ v = .ref p.1) {h0 : Heap} (is0 : ∀ p ∈ ks, T.knd.is h0 p.2 p.1) (nS : h0.get? S = none) (nw : ∀ b ∈ wr, h0.get? b = none) (room : T.knd.room A.in1) (rem : Nat) :
    ∀ (i : Nat) (s : Shared), n = i + rem → St i s → (∀ b o, h0.get? b = some o → s.heap.get? b = some o) → (∃ L es ep t, Held T s.heap S L es ep t ∧ Gath ks i L) →
      (∀ s' L es ep t, Moved (S :: wr) G s s' → Held T s'.heap S L es ep t → Gath ks n L → (∀ b o, h0.get? b = some o → s'.heap.get? b = some o) → R (.ok (.ret .none)) s') → codeAny (model P w) A (.builtin "set.update.loop" ⟨[.ref S, .ref I], []⟩) R s := by
  have outw : S ∉ wr := fun z => out (W.sub _ z)
  have up : ∀ b ∈ wr, b ∈ S :: wr := fun b z => List.mem_cons_of_mem _ z
  have is_at : ∀ {g : Heap} {p : Addr × κ}, (∀ b o, h0.get? b = some o → g.get? b = some o) → p ∈ ks → T.knd.is g p.2 p.1 := fun kp hp => T.stays (is0 _ hp) fun o e => kp _ o e
  have on : ∀ {s s' : Shared}, Moved wr G s s' → (∀ b o, h0.get? b = some o → s.heap.get? b = some o) → ∀ b o, h0.get? b = some o → s'.heap.get? b = some o := fun mv kp b o e => mv.heap b o (fun z => by rw [nw b z] at e; cases e) (kp b o e)
  induction rem with
  | zero =>
    intro i s hi st kp ⟨L, es, ep, t, H, g⟩ fin
    obtain rfl : n = i := hi
    refine codeAny_builtin F.entry_set_update_loop ?_
    rw [Around.under_plainId F.plain_set_update_loop _]
    show wpAny _ A.in1 (pyNext (.ref I) >>= _) _ _ s
    refine wpAny_bind (W.done s _ _ st fun s' mv => wpAny_pure (fin s' L es ep t (mv.mono up) (H.carry (fun o e => mv.heap S o outw e) fun p hp => is_at (on mv kp) (List.mem_of_mem_take (g.from_ p hp))) g (on mv kp)))
  | succ rem ih =>
    intro i s hi st kp ⟨L, es, ep, t, H, g⟩ fin
    refine codeAny_builtin F.entry_set_update_loop ?_
    rw [Around.under_plainId F.plain_set_update_loop _]
    show wpAny _ A.in1 (pyNext (.ref I) >>= _) _ _ s
    refine wpAny_bind (W.item i s _ _ (by omega) st fun v s' pv st' mv => ?_)
    obtain ⟨p, hp, rfl⟩ := vals i v pv
    have kp' := on mv kp
    have H' : Held T s'.heap S L es ep t := H.carry (fun o e => mv.heap S o outw e) fun q hq => is_at kp' (List.mem_of_mem_take (g.from_ q hq))
    have px : T.knd.is s'.heap p.2 p.1 := is_at kp' (List.mem_of_getElem? hp)
    show wpAny _ A.in1 (holding [Value.ref p.1] (setAdd S (.ref p.1)) >>= _) _ _ s'
    unfold setAdd
    refine wpAny_bind (wpAny_holding (wpAny_holding (wpAny_bind (T.knd.pyHash room px (add_thing (s := { s' with toks := s'.toks + T.knd.draws p.2 }) H' px room (by have := g.most; omega) fun b h2 L2 es2 ep2 t2 sb H2 c1 c2 => ?_)))))
    refine wpAny_pure ⟨plainId_quiet F.plain_set_update_loop _, ih (i + 1) _ (by omega) (W.frame _ s' _ _ st' (Nat.le_add_right _ _) fun b hb o e => ?_) (fun b o e => (sb.2 b fun z => by rw [z, nS] at e; cases e).trans (kp' b o e)) ⟨L2, es2, ep2, t2, H2, g.next hp c1 c2⟩ fun s3 L3 es3 ep3 t3 mv3 H3 g3 kp3 => ?_⟩
    · rw [sb.2 b fun z => out (by rw [← z]; exact hb)]; exact e
    · refine fin s3 L3 es3 ep3 t3 (Moved.trans W.gtrans ((mv.mono up).then_heap (Nat.le_add_right _ _) fun b o hb e => ?_) mv3) H3 g3 kp3
      rw [sb.2 b fun z => hb (by rw [z]; exact List.mem_cons_self)]; exact e
end
end Hv

set_option Elab.async false
set_option linter.all false
set_option maxRecDepth 100000
/-! sets of things: set(l) as a call -/
namespace Hv
open PySem PySem.Spec PyProof.Rows L2
section
variable {P : Program} {w : World} {κ : Type} [DecidableEq κ] {A : Around} {E : Value → Shared → Prop} {s : Shared} {T : Thing P w κ}
set_option maxRecDepth 100000 in
set_option maxHeartbeats 6400000 in
theorem set_of_things {a : Addr} {xs : Array Value} (ks : List (Addr × κ)) {Q : Value → Shared → Prop} (calm : A.handled = none) (isl : s.heap.IsList a xs) (refs : xs.toList = ks.map fun p => Value.ref p.1) (small : ks.length ≤ 63) (is0 : ∀ p ∈ ks, T.knd.is s.heap p.2 p.1) (room : T.knd.room A.in1.in1.in1)
    (fin : ∀ (g : Heap) (tk : Nat) (L : List (Addr × κ)) es ep t, Held T g s.heap.objs.size L es ep t → Gath ks ks.length L → (∀ b o, s.heap.get? b = some o → g.get? b = some o) → Q (.ref s.heap.objs.size) { s with heap := g, toks := tk }) : wpAny (model P w) A (call (.type "set") [.ref a]) Q E s := by
  have len : xs.size = ks.length := by rw [← Array.length_toList, refs, List.length_map]
  obtain ⟨c, tl, m1⟩ := F.called_set.mro
  have m2 := F.called_set.made; have m3 := F.called_set.sub
  refine wpAny_call (codeAny_of_tree ?_); show wpAny _ _ (callAny (.type "set") _) _ _ _
  refine wpAny_pure ⟨Code.quiet_builtin _ (by decide +kernel), codeAny_builtin F.entry_type_call ?_⟩; rw [Around.under_plain (weight_type_call_type "set" [.ref a] []) rfl]
  have m4 := F.called_set.notType; have m5 := F.called_set.canCreate; have m6 := F.typeCall_set_1 (.ref a)
  repeat (any_goals (first | assumption | wp_step))
  refine codeAny_mono (code_set_led1 (.ref a) (E := E) (Q₁ := fun v t => v = .ref s.heap.objs.size ∧ t = { s with heap := s.heap.push (setObj w) }) ⟨rfl, rfl⟩) fun r t hr => ?_
  cases r with
  | error e => exact hr
  | ok fl =>
    cases fl with
    | ret v =>
      obtain ⟨rfl, rfl⟩ := hr
      have at0 : (s.heap.push (setObj w)).get? s.heap.objs.size = some (setObj w) := Heap.get?_push_size _ rfl
      have ty0 : Shared.TypeIs { s with heap := s.heap.push (setObj w) } (.ref s.heap.objs.size) "set" := ⟨_, at0, rfl⟩
      have i1 := F.called_set.init.lookup; have i2 := F.called_set.init.bind (.ref s.heap.objs.size)
      repeat (any_goals (first | assumption | wp_step))
      refine codeAny_mono (codeAny_call_builtin (R := wants (fun r t => r = .none ∧ ∃ g tk L es ep tb, t = { s with heap := g, toks := tk } ∧ Held T g s.heap.objs.size L es ep tb ∧ Gath ks ks.length L ∧ (∀ b o, s.heap.get? b = some o → g.get? b = some o)) E) F.called_set.init.plain F.entry_set_init (check_set_init_1 ty0 ?_)) fun r2 t2 hr2 => ?_
      · obtain ⟨ol, hol, ocl, nl, odl⟩ := isl
        obtain ⟨k1, k2, k3, k4⟩ := ol
        simp only at ocl odl; subst ocl; subst odl
        have at1 : (s.heap.push (setObj w)).get? a = some { cls := .type "list", dict := k2, data := .seq xs nl, slots := k4 } := Heap.get?_push_of_some _ hol
        have s1 := F.sub_list_set; have s2 := F.sub_list_frozenset
        have nd : (Value.type "list" == Value.type "dict") = false := by decide
        have li : (s.heap.push (setObj w)).IsList a xs := ⟨_, at1, rfl, nl, rfl⟩
        unfold Builtin.«set.__init__» noKeywords Builtin.Frozenset.updateFrom; generalize hPI : pyIter = PI; wp_walk; subst hPI
        refine wpAny_pyIter_list li ?_; refine wpAny_bind (wpAny_runValue ?_)
        have alt : a < s.heap.objs.size := Heap.lt_size hol
        have calm3 : A.in1.in1.in1.handled = none := by simp [calm]
        have ne1 : a ≠ (s.heap.push (setObj w)).objs.size := by rw [Heap.size_push]; exact Nat.ne_of_lt (Nat.lt_succ_of_lt alt)
        have out : s.heap.objs.size ∉ [(s.heap.push (setObj w)).objs.size, a] := by
          rw [Heap.size_push]
          intro z
          rcases List.mem_cons.mp z with z | z
          · omega
          · rw [List.mem_singleton] at z; exact absurd z.symm (Nat.ne_of_lt alt)
        have vals : ∀ (i : Nat) (v : Value), xs[i]? = some v → ∃ p, ks[i]? = some p ∧ v = .ref p.1 := fun i v hv => by
          rw [← Array.getElem?_toList, refs, List.getElem?_map] at hv
          cases q : ks[i]? with
          | none => rw [q] at hv; cases hv
          | some p => rw [q] at hv; exact ⟨p, rfl, (Option.some.inj hv).symm⟩
        refine loop_things (T := T) (h0 := s.heap) ((Walks.list calm3 _ a ne1 xs).toS) out len small vals is0 (Heap.get?_none_of_le (Nat.le_refl _)) (fun b hb => ?nw) room (xs.size - 0) 0 _ (by omega) ⟨⟨_, Heap.get?_push_size _ rfl, rfl, rfl⟩, (li.push _)⟩ (fun b o e => Heap.get?_push_of_some _ (Heap.get?_push_of_some _ e)) ⟨[], #[], 0, _, held_new (Heap.get?_push_of_some _ at0), ⟨fun _ z => (nomatch z), fun _ z => (by simp at z), Nat.le_refl _⟩⟩ ?h1
        case nw => exact Heap.get?_none_of_le (by rw [List.mem_singleton.mp hb, Heap.size_push]; exact Nat.le_succ _)
        case h1 =>
          intro t L es ep tb mv H g2 kp
          obtain ⟨g, q2, d2, tk2, os2⟩ := t
          have eg : q2 = s.gens := mv.gens; have ed : d2 = s.drawn := mv.drawn; have eo : os2 = s.os := mv.os
          subst eg; subst ed; subst eo
          show wpAny _ _ _ _ _ _; refine wpAny_pure ?_; show wpAny _ _ (ret Value.none) _ _ _
          rw [len] at g2
          exact wpAny_pure ⟨rfl, g, tk2, L, es, ep, tb, rfl, H, g2, kp⟩
      · cases r2 with
        | error e => exact hr2
        | ok f2 =>
          cases f2 with
          | ret r =>
            obtain ⟨rfl, g, tk, L, es, ep, tb, rfl, H, g2, hk⟩ := hr2
            repeat (any_goals (first | assumption | wp_step))
            exact fin _ _ _ _ _ _ H g2 hk
          | _ => exact hr2.elim
    | _ => exact hr.elim
end
end Hv

set_option Elab.async false
set_option linter.all false
set_option maxRecDepth 100000
/-! sets of things: sorted(s) -/
namespace Hv
open PySem PySem.Spec PyProof.Rows L2
theorem perm_back {α β : Type} {f : α → β} {m l : List β} (h : m.Perm l) : ∀ L : List α, m = L.map f → ∃ L1 : List α, L1.Perm L ∧ l = L1.map f := by
  induction h with
  | nil => exact fun L e => ⟨L, .refl _, e⟩
  | cons x _ ih =>
    intro L e
    cases L with
    | nil => cases e
    | cons y L =>
      rw [List.map_cons] at e
      injection e with e1 e2
      obtain ⟨L1, p1, p2⟩ := ih L e2
      exact ⟨y :: L1, p1.cons y, by rw [List.map_cons, ← p2, e1]⟩
  | swap x y l =>
    intro L e
    match L, e with
    | a :: b :: L, e =>
      rw [List.map_cons, List.map_cons] at e
      injection e with e1 e2
      injection e2 with e2 e3
      exact ⟨b :: a :: L, .swap _ _ _, by rw [List.map_cons, List.map_cons, ← e1, ← e2, ← e3]⟩
  | trans _ _ ih1 ih2 =>
    intro L e
    obtain ⟨L1, p1, p2⟩ := ih1 L e
    obtain ⟨L2, p3, p4⟩ := ih2 L1 p2
    exact ⟨L2, p3.trans p1, p4⟩
theorem each_refs {κ : Type} {R : Value → Addr × κ → Prop} : ∀ L : List (Addr × κ), (∀ p ∈ L, R (.ref p.1) p) → PySem.W.EachIs R (L.map fun p => Value.ref p.1) L
  | [], _ => .nil
  | p :: L, h => .cons (h p (by simp)) (each_refs L fun q hq => h q (by simp [hq]))
theorem refs_each {κ : Type} : ∀ {vs : List Value} {L : List (Addr × κ)}, PySem.W.EachIs (fun v p => v = Value.ref p.1) vs L → vs = L.map fun p => Value.ref p.1
  | _, _, .nil => rfl
  | _, _, .cons h t => by rw [h, refs_each t]; rfl
section
variable {P : Program} {w : World} {κ : Type} [DecidableEq κ] {A : Around} {E : Value → Shared → Prop} {s : Shared} {T : Thing P w κ} {a : Addr} {L : List (Addr × κ)} {es : Array (Int × Value)} {ep : Nat} {t : SetTable}
theorem sorted_things {Q : Value → Shared → Prop} {enc : Addr × κ → PyData} (R : Held T s.heap a L es ep t) (calm : A.handled = none) (hread : ∀ (g : Heap) p, p ∈ L → (∀ o, s.heap.get? p.1 = some o → g.get? p.1 = some o) → Reads g (.ref p.1) (enc p) [])
    (hal : ∀ p ∈ L, ∀ q ∈ L, PySem.W.alike (enc p) (enc q) = true) (htu : ∀ p ∈ L, ∃ x r, enc p = .tuple (x :: r)) (hu : ∀ p ∈ L, A.in1.units + 1 + (enc p).depth < cLine)
    (fin : ∀ (s' : Shared) (b : Addr) (out : Array Value) (c : Nat) (L1 : List (Addr × κ)), (∀ b o, s.heap.get? b = some o → s'.heap.get? b = some o) → s'.gens = s.gens → s'.os = s.os → s.heap.objs.size ≤ b → s'.heap.get? b = some (seqObj "list" out c) → L1.Perm L → out.toList = (L1.mergeSort (PySem.W.dataLe false enc)).map (fun p => Value.ref p.1) → Q (.ref b) s') :
    wpAny (model P w) A (call (.builtin "sorted") [.ref a]) Q E s := by
  obtain ⟨o, h1, h2, h3⟩ := R.obj
  have few := R.few
  refine Calls.call_function_entry kind_sorted plain_sorted entry_sorted (args_sorted1 _) ?_
  unfold Builtin.«sorted»
  refine wpAny_bind (m := checkCount "sorted" 1 1 _) (wpAny_pure (wpAny_bind (collect_set (A := A.in1) calm ⟨o, h1, h2.1, h3⟩ R.fit (by rw [R.len]; unfold scanBound; omega) R.tab.ris R.led fun s1 vs k1 hz g1 o1 pm => ?_)))
  have em : es.toList.map Prod.snd = L.map fun p => Value.ref p.1 := by rw [R.ent, List.map_map]; rfl
  obtain ⟨L1, p1, rfl⟩ := perm_back pm.symm L em
  have len1 : L1.length ≤ 63 := by rw [p1.length_eq]; exact few
  refine wpAny_bind (wpAny_newList ?_ (by rw [List.length_map, sizeLine_eq]; omega))
  have at1 : (s1.heap.push (seqObj "list" (L1.map fun p => Value.ref p.1).toArray 0)).get? s1.heap.objs.size = some (seqObj "list" (L1.map fun p => Value.ref p.1).toArray 0) := Heap.get?_push_size _ rfl
  refine wpAny_bind (wpAny_holding (PySem.W.list_sort_data (s := { s1 with heap := s1.heap.push (seqObj "list" (L1.map fun p => Value.ref p.1).toArray 0) }) (R := fun v p => v = Value.ref p.1) (enc := enc) at1 (each_refs L1 fun _ _ => rfl)
    (each_refs L1 fun p hp => ⟨[], hread _ p (p1.mem_iff.mp hp) fun o e => Heap.get?_push_of_some _ (k1 _ o e), by simp⟩) (fun d hd d' hd' => ?_) (.inl fun d hd => ?_) (by rw [sizeLine_eq]; omega) (fun p hp => hu p (p1.mem_iff.mp hp)) fun out hl eo => ?_))
  · obtain ⟨p, hp, rfl⟩ := List.mem_map.mp hd
    obtain ⟨q, hq, rfl⟩ := List.mem_map.mp hd'
    exact hal p (p1.mem_iff.mp hp) q (p1.mem_iff.mp hq)
  · obtain ⟨p, hp, rfl⟩ := List.mem_map.mp hd
    exact htu p (p1.mem_iff.mp hp)
  · obtain ⟨c, hc⟩ := sortedHeap_at (out := out.toArray) at1
    have eo2 : out.toArray.toList = (L1.mergeSort (PySem.W.dataLe false enc)).map (fun p => Value.ref p.1) := (List.toList_toArray).trans (refs_each eo)
    clear eo hl
    generalize out.toArray = ou at hc eo2 ⊢
    generalize hG : sortedHeap (s1.heap.push (seqObj "list" (L1.map fun p => Value.ref p.1).toArray 0)) s1.heap.objs.size (L1.map fun p => Value.ref p.1) ou = G at hc ⊢
    refine wpAny_pure ⟨.ref s1.heap.objs.size, rfl, ?_⟩
    refine fin _ s1.heap.objs.size ou c L1 (fun b u e => ?_) g1 o1 hz hc p1 eo2
    show G.get? b = some u
    rw [← hG]
    have lt := Heap.lt_size (k1 b u e)
    rw [sortedHeap_old (Nat.ne_of_lt lt) (by rw [Heap.size_push]; exact Nat.lt_succ_of_lt lt)]
    exact Heap.get?_push_of_some _ (k1 b u e)
end
end Hv

set_option Elab.async false
set_option linter.all false
set_option maxRecDepth 100000
/-! sets of tuples of texts and numbers, in the abstract heap -/
namespace Hv
open PySem PySem.Spec PyProof.Rows L2
def kD : Key → PyData
  | .inl i => .int i
  | .inr x => .str x
def keyT (k : List Key) : PyData := .tuple (k.map kD)
section
variable {P : Program} {w : World}
theorem reads_items {h : Heap} {ks : List Key} : ∀ {vs : List Value}, ItemsAre (mixKind P w) ks vs → ReadsAll h vs (ks.map kD) [] := by
  intro vs e
  induction e with
  | nil => exact .nil
  | @cons k v ks vs hk _ ih =>
    have hk : keyIs k v = true := hk
    have r : Reads h v (kD k) [] := by
      cases k with
      | inl i => obtain ⟨t, rfl⟩ := Value.isInt_shape hk; exact .int i t
      | inr x => obtain ⟨t, rfl⟩ := Value.isStrOf_shape hk; exact .str x t
    exact ReadsAll.cons (as := []) (bs := []) r ih
theorem reads_key {h : Heap} {k : List Key} {b : Addr} (x : IsTupleKey (mixKind P w) h k b) : Reads h (.ref b) (keyT k) [] := by
  obtain ⟨o, its, n, h1, h2, h3, h4⟩ := x
  exact .tuple h1 h2 h3 (reads_items h4)
theorem depth_kD : ∀ k : List Key, PyData.depthAll (k.map kD) = 0
  | [] => rfl
  | .inl i :: k => by rw [List.map_cons]; unfold PyData.depthAll; rw [depth_kD k]; rfl
  | .inr x :: k => by rw [List.map_cons]; unfold PyData.depthAll; rw [depth_kD k]; rfl
/-- the set at a, by itself -/
def Held0 (P : Program) (w : World) (a : Addr) (L : List (Addr × List Key)) (h : Heap) : Prop := ∃ es ep t, (∃ o, h.get? a = some o ∧ o.ExactSet ∧ o.data = .set es ep t) ∧ es.toList = L.map (tupT P w).row ∧ TabOk t ((L.map (tupT P w).row).map Prod.fst) ∧ (L.map Prod.snd).Nodup ∧ (w.params.followText "set-order" = true ∨ t.led = true) ∧ 5 * L.length < 3 * t.mask ∧ L.length ≤ 63
def HeldO (P : Program) (w : World) (a : Addr) (L : List (Addr × List Key)) : HO := .ext (Held0 P w a L)
theorem Held.zero {h : Heap} {a : Addr} {L : List (Addr × List Key)} {es : Array (Int × Value)} {ep : Nat} {t : SetTable} (R : Held (tupT P w) h a L es ep t) : Held0 P w a L h := ⟨es, ep, t, R.obj, R.ent, R.tab, R.apart, R.led, R.loose, R.few⟩
theorem Held0.full {h : Heap} {a : Addr} {L : List (Addr × List Key)} (R : Held0 P w a L h) (there : ∀ p ∈ L, IsTupleKey (mixKind P w) h p.2 p.1) : ∃ es ep t, Held (tupT P w) h a L es ep t := by
  obtain ⟨es, ep, t, h1, h2, h3, h4, h5, h6, h7⟩ := R
  exact ⟨es, ep, t, h1, h2, h3, h4, there, h5, h6, h7⟩
theorem heldO_ok {H : Hp} {h : Heap} {a : Addr} {L : List (Addr × List Key)} (R : Held0 P w a L h) : ObjOk P w H h a (HeldO P w a L) := by
  have ⟨_, _, _, ⟨o, ho, _⟩, _⟩ := R
  refine ⟨R, ⟨o, ho⟩, fun h1 h2 p k => ?_⟩
  obtain ⟨es, ep, t, ⟨o, q1, q2⟩, r⟩ := p
  exact ⟨es, ep, t, ⟨o, k o q1, q2⟩, r⟩
end
section
variable {X : Cx}
theorem inv_key {pins : List (Addr × Obj)} {σ : L2.St} {H : Hp} {s : Shared} {b : Addr} {k : List Key} (I : Inv X pins σ H s) (h : SqT X.K H b (k.map kV)) : IsTupleKey (mixKind X.prog X.w) s.heap k b := by
  obtain ⟨its, r, ⟨o, h1, h2, n, h3⟩, _⟩ := I.tuple h
  exact ⟨o, its.toArray, n, h1, h2, h3, by simpa using items_are r⟩
theorem refs_vals {κ : Type} : ∀ {ks : List (Addr × κ)} {us : List Value}, Vals (ks.map fun p => V.ref p.1) us → us = ks.map fun p => Value.ref p.1
  | [], _, r => by cases r; rfl
  | p :: ks, _, r => by
    cases r with
    | cons h t =>
      rw [refs_vals t, List.map_cons]
      exact congrArg (· :: _) h
theorem vals_refs {κ : Type} : ∀ ks : List (Addr × κ), Vals (ks.map fun p => V.ref p.1) (ks.map fun p => Value.ref p.1)
  | [] => .nil
  | p :: ks => .cons rfl (vals_refs ks)
def rSetK (K : PySem.W.Frag) (P : Program) (w : World) : List V → Hp → VK → Prop := fun xs H Q => ∃ (l : Addr) (ks : List (Addr × List Key)), xs = [V.ref l] ∧ SqL K H l (ks.map fun p => V.ref p.1) ∧ (∀ p ∈ ks, SqT K H p.1 (p.2.map kV)) ∧ ks.length ≤ 63 ∧
  ∀ a L, H a = none → (∀ p ∈ L, p ∈ ks) → (∀ p ∈ ks, ∃ r ∈ L, r.2 = p.2) → Q (.ref a) (upd H a (HeldO P w a L))
theorem cr_setK (hc : X.calm = true) (hu : X.A.units + 64 < cLine) : CallR X (.type "set") (rSetK X.K X.prog X.w) := by
  intro pins s σ H xs us Q I r h
  obtain ⟨l, ks, rfl, hl, hk, hf, q⟩ := h
  rw [Vals.ref1 r]
  obtain ⟨its, rv, pl, hz⟩ := I.list hl
  refine set_of_things (T := tupT X.prog X.w) ks (I.ok.hd hc) pl.isList (by simpa using refs_vals rv) hf (fun p hp => inv_key I (hk p hp)) (show X.A.in1.in1.in1.units < cLine by simp; omega) fun g tk L es ep t R ga k => ?_
  exact ⟨.ref s.heap.objs.size, upd H s.heap.objs.size (HeldO X.prog X.w s.heap.objs.size L), I.laid (t' := tk) k (Nat.le_refl _) (heldO_ok R.zero), rfl, q _ L (I.hok.fresh (Nat.le_refl _)) (fun p hp => List.mem_of_mem_take (ga.from_ p hp)) fun p hp => ga.all p (by rw [List.take_length]; exact hp)⟩
def encK (p : Addr × List Key) : PyData := keyT p.2
def rSortK (K : PySem.W.Frag) (P : Program) (w : World) : List V → Hp → VK → Prop := fun vs H Q => ∃ (a : Addr) (L : List (Addr × List Key)), vs = [V.ref a] ∧ H a = some (HeldO P w a L) ∧ (∀ p ∈ L, SqT K H p.1 (p.2.map kV)) ∧ (∀ p ∈ L, p.2 ≠ []) ∧ (∀ p ∈ L, ∀ q ∈ L, PySem.W.alike (keyT p.2) (keyT q.2) = true) ∧
  ∀ (L1 : List (Addr × List Key)) (b : Addr), L1.Perm L → (L1.map Prod.snd).Nodup → L1.length ≤ 63 → H b = none → Q (.ref b) (upd H b (.lst ((L1.mergeSort (PySem.W.dataLe false encK)).map fun p => V.ref p.1)))
theorem cr_sortK (hc : X.calm = true) (hu : X.A.units + 64 < cLine) : CallR X (.builtin "sorted") (rSortK X.K X.prog X.w) := by
  intro pins s σ H vs us Q I r h
  obtain ⟨a, L, rfl, ha, hk, hne, hal, q⟩ := h
  have R0 : Held0 X.prog X.w a L s.heap := (I.hok a _ ha).1
  have there : ∀ p ∈ L, IsTupleKey (mixKind X.prog X.w) s.heap p.2 p.1 := fun p hp => inv_key I (hk p hp)
  obtain ⟨es, ep, t, R⟩ := R0.full there
  rw [Vals.ref1 r]
  refine sorted_things (enc := encK) R (I.ok.hd hc) (fun g p hp k => reads_key (P := X.prog) (w := X.w) ((tupT X.prog X.w).stays (there p hp) k)) hal (fun p hp => ?_) (fun p hp => ?_) fun s' b out c L1 k g o hb hg pm hout => ?_
  · cases e : p.2 with
    | nil => exact absurd e (hne p hp)
    | cons x r => exact ⟨kD x, r.map kD, by unfold encK keyT; rw [e]; rfl⟩
  · show X.A.in1.units + 1 + (keyT p.2).depth < cLine
    unfold keyT PyData.depth
    rw [depth_kD]
    simp
    omega
  · have few : L1.length ≤ 63 := by rw [pm.length_eq]; exact R.few
    have ln : ((L1.mergeSort (PySem.W.dataLe false encK)).map fun p => V.ref p.1).length ≤ sizeLine := by rw [List.length_map, List.length_mergeSort, sizeLine_eq]; omega
    have nb : H b = none := I.hok.fresh hb
    have hv : Vals ((L1.mergeSort (PySem.W.dataLe false encK)).map fun p => V.ref p.1) out.toList := by rw [hout]; exact vals_refs _
    have J : Inv X pins σ (upd H b (.lst ((L1.mergeSort (PySem.W.dataLe false encK)).map fun p => V.ref p.1))) { s with heap := s'.heap, gens := s'.gens, drawn := s'.drawn, toks := s'.toks } :=
      I.call (ch := []) (Un.laid k hb nb) (I.hok.laid k hb ⟨ln, out.toList, c, hv, hg⟩) (by rw [g]; exact I.bare) (fun _ z => nomatch z)
    have e : s' = { s with heap := s'.heap, gens := s'.gens, drawn := s'.drawn, toks := s'.toks } := by
      cases s'
      cases s
      cases o
      rfl
    rw [e]
    exact ⟨.ref b, _, J, rfl, q L1 b pm ((pm.map Prod.snd).nodup_iff.mpr R.apart) few nb⟩
end
end Hv

set_option Elab.async false
set_option linter.all false
set_option maxRecDepth 100000
namespace Hv
open PySem PySem.Spec PyProof.Rows L2 Hod
/-! ### max of a tuple of ints -/
def rMaxTu (K : PySem.W.Frag) : List V → Hp → VK → Prop := fun vs H Q => ∃ (a : Addr) (n : Int) (ns : List Int), vs = [V.ref a] ∧ SqT K H a ((n :: ns).map V.int) ∧ Q (.int (ns.foldl max n)) H
theorem cr_maxTu {X : Cx} (hc : X.calm = true) (hu : X.A.units + 64 < cLine) : CallR X (.builtin "max") (rMaxTu X.K) := by
  intro pins s σ H vs us Q I rv h
  obtain ⟨a, n, ns, rfl, hs, q⟩ := h
  obtain ⟨u, rfl, hu1⟩ := vals1 rv
  cases hu1
  obtain ⟨its, r, pl, hz⟩ := I.tuple hs
  obtain ⟨as, hr⟩ := Dp.readsAll I ((n :: ns).map PyData.int) _ its (dp_ints (n :: ns)) r
  have alike : PySem.W.AlikeAll ((n :: ns).map PyData.int) := by
    refine ⟨fun x hx y hy => ?_, fun x hx => ?_⟩
    · obtain ⟨i, _, rfl⟩ := List.mem_map.mp hx
      obtain ⟨j, _, rfl⟩ := List.mem_map.mp hy
      rfl
    · obtain ⟨i, _, rfl⟩ := List.mem_map.mp hx
      exact fun z => nomatch z
  refine PySem.W.max_tuple_data (x := .int n) (xs := ns.map PyData.int) (I.ok.hd hc) pl (by simpa using hr) alike (by have := depthAll_ints (n :: ns); rw [List.map_cons] at this; rw [this]; omega) (fun j v h' tk bs hv hrd hk => ?_)
  rw [PySem.W.maxD_ints] at hrd
  cases hrd with
  | int _ t2 => exact ⟨.int (ns.foldl max n), H, I.kept (t' := tk) hk, ⟨t2, rfl⟩, q⟩
def gMaxT : GC := fun μ as Q => match as with | [.dat (.tuple ds)] => (match intsD ds with | some (n :: ns) => Q (.dat (.int (ns.foldl max n))) | _ => False) | _ => False
theorem c_maxT {K : PySem.W.Frag} : CW K (rMaxTu K) gMaxT := fun S B xs H μ as Q Q2 gd rs q k => by
  cases rs with
  | nil => exact q.elim
  | @cons v vs a as r rs =>
    cases rs with
    | cons _ _ => cases a <;> first | exact q.elim | (rename_i d; cases d <;> exact q.elim)
    | nil =>
      cases r with
      | dat r =>
        cases r with
        | @tup p xs ds h1 h2 =>
          unfold gMaxT at q
          dsimp only at q
          split at q
          · rename_i n ns hb
            exact ⟨p, n, ns, rfl, by rw [← ints_ok h2 hb]; exact sqt_same off_same h1, k _ H _ .refl gd (.dat (.int _)) (fun _ _ e => nomatch e) q⟩
          · exact q.elim
        | _ => exact q.elim
      | _ => exact q.elim
theorem ev_maxT {ρ : Rho} {μ : Mem} {w : WE} {n : Int} {ns : List Int} (h : Evs w ρ μ (.dat (.tuple ((n :: ns).map PyData.int)))) : Evs (wCB gMaxT (waCons w waNil)) ρ μ (.dat (.int (ns.foldl max n))) := fun Q q => h _ (by
  show (match intsD ((n :: ns).map PyData.int) with | some (n :: ns) => Q (.dat (.int (ns.foldl max n))) | _ => False)
  rw [ints_map]
  exact q)
/-! ### a thing of any depth in a list -/
def gInD : G2 := fun μ a b Q => ∃ d ds, rsv μ a = some d ∧ rsv μ b = some (.list ds) ∧ SeqAt.shaped d = true ∧ SeqAt.shaped (.list ds) = true ∧ Q (.dat (.bool (ds.any fun z => PyData.eqv z d)))
theorem r_inD {K : PySem.W.Frag} : RV K (rInD K) gInD := fun S B x y H μ a b Q Q2 gd ra rb q k => by
  obtain ⟨d, ds, h1, h2, s1, s2, q⟩ := q
  exact ⟨d, ds, rsv_dp gd ra h1, rsv_dp gd rb h2, s1, s2, k _ H _ .refl gd (.dat (.bl _)) q⟩
theorem ev_inD {ρ : Rho} {μ : Mem} {wa wb : WE} {a b : A} {d : PyData} {ds : List PyData} (h1 : Evs wa ρ μ a) (h2 : Evs wb ρ μ b) (r1 : rsv μ a = some d) (r2 : rsv μ b = some (.list ds)) (s1 : SeqAt.shaped d = true) (s2 : SeqAt.shaped (.list ds) = true) : Evs (wOp gInD wa wb) ρ μ (.dat (.bool (ds.any fun z => PyData.eqv z d))) := fun Q q => h1 _ (h2 _ ⟨d, ds, r1, r2, s1, s2, q⟩)
/-! ### x or y of lists -/
def wOrL (wa wb : WE) : WE := fun ρ μ Q => wa ρ μ fun a => match truA μ a with | some true => Q a | some false => wb ρ μ Q | none => False
theorem ve_orL {X : Cx} {xl : XLT X.K} {a b : Expr} {rest : List Expr} {pos : Pos} {wa wb : WE} (ha : VE X xl a wa) (hb : VE X xl (.BoolOp .Or (b :: rest) pos) wb) : VE X xl (.BoolOp .Or (a :: b :: rest) pos) (wOrL wa wb) := by
  refine pe_weak (pe_orT ha hb) fun σ H Q ⟨S, B, ρ, μ, Q2, st, w, k⟩ => ⟨S, B, ρ, μ, _, st, w, fun v H1 a e1 g1 ra q1 => ?_⟩
  split at q1
  · rename_i h
    exact ⟨true, tru_ok2 g1 ra h, iteT (k v H1 a e1 g1 ra q1)⟩
  · rename_i h
    exact ⟨false, tru_ok2 g1 ra h, iteF ⟨S, B, ρ, μ, _, st.ex e1 g1, q1, fun v2 H2 a2 e2 g2 r2 q2 => k v2 H2 a2 (e1.trans e2) g2 r2 q2⟩⟩
  · exact q1.elim
theorem ev_orL {ρ : Rho} {μ : Mem} {wa wb : WE} {a b : A} {t : Bool} (h1 : Evs wa ρ μ a) (ht : truA μ a = some t) (h2 : Evs wb ρ μ b) : Evs (wOrL wa wb) ρ μ (if t = true then a else b) := fun Q q => h1 _ (by
  rw [ht]
  cases t with
  | true => exact q
  | false => exact h2 _ q)
end Hv

set_option Elab.async false
set_option linter.all false
set_option maxRecDepth 100000
/-! sorted(set(l)) of tuples of texts and numbers, by values -/
namespace Hv
open PySem PySem.Spec PyProof.Rows L2 Hod
/-! ### the order -/
def leK (a b : List Key) : Bool := PySem.W.dataLe false keyT a b
theorem toks_inj : ∀ {a b : List Key}, PySem.W.keyToksAll (a.map kD) = PySem.W.keyToksAll (b.map kD) → a = b
  | [], [], _ => rfl
  | [], y :: b, h => by
    rw [List.map_cons, PySem.W.toks_all_cons, List.map_nil, PySem.W.keyToksAll] at h
    cases h
  | x :: a, [], h => by
    rw [List.map_cons, PySem.W.toks_all_cons, List.map_nil, PySem.W.keyToksAll] at h
    cases h
  | x :: a, y :: b, h => by
    rw [List.map_cons, List.map_cons, PySem.W.toks_all_cons, PySem.W.toks_all_cons] at h
    injection h with _ h
    cases x with
    | inl i =>
      cases y with
      | inl j =>
        have h : Sum.inl i :: PySem.W.keyToksAll (a.map kD) = Sum.inl j :: PySem.W.keyToksAll (b.map kD) := by simpa [kD, PySem.W.keyToks] using h
        injection h with h1 h2
        injection h1 with h1
        rw [h1, toks_inj h2]
      | inr z =>
        have h : (Sum.inl i : Int ⊕ List Nat) :: PySem.W.keyToksAll (a.map kD) = Sum.inr z.cps.toList :: PySem.W.keyToksAll (b.map kD) := by simpa [kD, PySem.W.keyToks] using h
        injection h with h1 h2
        cases h1
    | inr z =>
      cases y with
      | inl j =>
        have h : (Sum.inr z.cps.toList : Int ⊕ List Nat) :: PySem.W.keyToksAll (a.map kD) = Sum.inl j :: PySem.W.keyToksAll (b.map kD) := by simpa [kD, PySem.W.keyToks] using h
        injection h with h1 h2
        cases h1
      | inr z2 =>
        have h : (Sum.inr z.cps.toList : Int ⊕ List Nat) :: PySem.W.keyToksAll (a.map kD) = Sum.inr z2.cps.toList :: PySem.W.keyToksAll (b.map kD) := by simpa [kD, PySem.W.keyToks] using h
        injection h with h1 h2
        injection h1 with h1
        rw [PySem.W.str_of_cps h1, toks_inj h2]
theorem leK_both {a b : List Key} (h1 : leK a b = true) (h2 : leK b a = true) : a = b := by
  have h1 : (!(listOrd itemOrd).blt (PySem.W.keyToks (keyT b)) (PySem.W.keyToks (keyT a))) = true := h1
  have h2 : (!(listOrd itemOrd).blt (PySem.W.keyToks (keyT a)) (PySem.W.keyToks (keyT b))) = true := h2
  rw [Bool.not_eq_true'] at h1 h2
  have e := (listOrd itemOrd).total _ _ h2 h1
  unfold keyT at e
  rw [PySem.W.keyToks, PySem.W.keyToks] at e
  exact toks_inj e
theorem pw_one {α : Type} {le : α → α → Bool} (anti : ∀ a b, le a b = true → le b a = true → a = b) : ∀ {l m : List α}, l.Pairwise (fun a b => le a b = true) → m.Pairwise (fun a b => le a b = true) → l.Nodup → m.Nodup → (∀ k, k ∈ l ↔ k ∈ m) → l = m
  | [], [], _, _, _, _, _ => rfl
  | [], y :: m, _, _, _, _, h => by have := (h y).mpr (by simp); cases this
  | x :: l, [], _, _, _, _, h => by have := (h x).mp (by simp); cases this
  | x :: l, y :: m, h1, h2, n1, n2, h => by
    have a1 := List.pairwise_cons.mp h1
    have a2 := List.pairwise_cons.mp h2
    have b1 := List.nodup_cons.mp n1
    have b2 := List.nodup_cons.mp n2
    have e : x = y := by
      rcases List.mem_cons.mp ((h x).mp (by simp)) with q | q
      · exact q
      · rcases List.mem_cons.mp ((h y).mpr (by simp)) with z | z
        · exact z.symm
        · exact anti _ _ (a1.1 y z) (a2.1 x q)
    subst e
    congr 1
    refine pw_one anti a1.2 a2.2 b1.2 b2.2 fun k => ⟨fun q => ?_, fun q => ?_⟩
    · rcases List.mem_cons.mp ((h k).mp (by simp [q])) with z | z
      · exact absurd (z ▸ q) b1.1
      · exact z
    · rcases List.mem_cons.mp ((h k).mpr (by simp [q])) with z | z
      · exact absurd (z ▸ q) b2.1
      · exact z
/-- each once -/
def onceK : List (List Key) → List (List Key)
  | [] => []
  | x :: l => if (onceK l).any (fun y => decide (y = x)) = true then onceK l else x :: onceK l
theorem any_is {l : List (List Key)} {x : List Key} : l.any (fun y => decide (y = x)) = true ↔ x ∈ l := by
  rw [List.any_eq_true]
  exact ⟨fun ⟨y, h1, h2⟩ => of_decide_eq_true h2 ▸ h1, fun h => ⟨x, h, decide_eq_true rfl⟩⟩
theorem once_mem {k : List Key} : ∀ {l : List (List Key)}, k ∈ onceK l ↔ k ∈ l
  | [] => Iff.rfl
  | x :: l => by
    unfold onceK
    by_cases h : (onceK l).any (fun y => decide (y = x)) = true
    · rw [if_pos h, once_mem, List.mem_cons]
      exact ⟨.inr, fun z => z.elim (fun e => e ▸ once_mem.mp (any_is.mp h)) id⟩
    · rw [if_neg h, List.mem_cons, List.mem_cons, once_mem]
theorem once_nodup : ∀ l : List (List Key), (onceK l).Nodup
  | [] => .nil
  | x :: l => by
    unfold onceK
    by_cases h : (onceK l).any (fun y => decide (y = x)) = true
    · rw [if_pos h]; exact once_nodup l
    · rw [if_neg h]; exact List.nodup_cons.mpr ⟨fun z => h (any_is.mpr z), once_nodup l⟩
/-- in order, each once -/
def ordK (l : List (List Key)) : List (List Key) := (onceK l).mergeSort leK
theorem leK_total : PySem.W.TotalLe leK := PySem.W.sortLe_total (listOrd itemOrd) false fun b => PySem.W.keyToks (keyT b)
theorem ord_mem {k : List Key} {l : List (List Key)} : k ∈ ordK l ↔ k ∈ l := by
  unfold ordK
  rw [(List.mergeSort_perm _ _).mem_iff, once_mem]
theorem ord_nodup (l : List (List Key)) : (ordK l).Nodup := ((List.mergeSort_perm _ _).nodup_iff).mpr (once_nodup l)
theorem ord_pw (l : List (List Key)) : (ordK l).Pairwise fun a b => leK a b = true := PySem.W.sort_pairwise leK_total _
theorem ord_one {l m : List (List Key)} (h1 : m.Pairwise fun a b => leK a b = true) (h2 : m.Nodup) (h : ∀ k, k ∈ m ↔ k ∈ l) : m = ordK l := pw_one (fun _ _ => leK_both) h1 (ord_pw l) h2 (ord_nodup l) fun k => (h k).trans ord_mem.symm
theorem ord_congr {l m : List (List Key)} (h : ∀ k, k ∈ l ↔ k ∈ m) : ordK l = ordK m := ord_one (ord_pw l) (ord_nodup l) fun k => ord_mem.trans (h k)
/-! ### the call -/
theorem rps_flatK {K : PySem.W.Frag} {G : Hp} : ∀ {k : List Key} {ys : List V}, Rps K G ys (k.map kD) → ys = k.map kV
  | [], _, r => by cases r; rfl
  | x :: k, _, r => by
    cases r with
    | cons h t =>
      rw [rps_flatK t]
      cases x <;> (cases h; rfl)
theorem flat_rps' {K : PySem.W.Frag} {G : Hp} : ∀ k : List Key, Rps K G (k.map kV) (k.map kD)
  | [] => .nil
  | .inl i :: k => .cons (.int i) (flat_rps' k)
  | .inr x :: k => .cons (.str x) (flat_rps' k)
theorem rps_keys {K : PySem.W.Frag} {G : Hp} : ∀ {kss : List (List Key)} {xs : List V}, Rps K G xs (kss.map keyT) → ∃ ks : List (Addr × List Key), xs = ks.map (fun p => V.ref p.1) ∧ ks.map Prod.snd = kss ∧ ∀ p ∈ ks, SqT K G p.1 (p.2.map kV)
  | [], _, r => by cases r; exact ⟨[], rfl, rfl, fun _ z => nomatch z⟩
  | k :: kss, _, r => by
    cases r with
    | cons h t =>
      obtain ⟨ks, e1, e2, e3⟩ := rps_keys t
      cases h with
      | @tup p ys _ h1 h2 =>
        rw [rps_flatK h2] at h1
        refine ⟨(p, k) :: ks, by rw [e1]; rfl, by rw [List.map_cons, e2], fun q hq => ?_⟩
        rcases List.mem_cons.mp hq with rfl | hq
        · exact h1
        · exact e3 q hq
theorem keys_rps {K : PySem.W.Frag} {G : Hp} : ∀ {ks : List (Addr × List Key)}, (∀ p ∈ ks, SqT K G p.1 (p.2.map kV)) → Rps K G (ks.map fun p => V.ref p.1) ((ks.map Prod.snd).map keyT)
  | [], _ => .nil
  | p :: ks, h => .cons (.tup (h p (by simp)) (flat_rps' p.2)) (keys_rps fun q hq => h q (by simp [hq]))
def AlikeK (kss : List (List Key)) : Prop := ∀ k ∈ kss, ∀ k' ∈ kss, PySem.W.alike (keyT k) (keyT k') = true
def gSK : GC := fun μ as Q => match as with
  | [.dat (.list ds)] => ∃ kss : List (List Key), ds = kss.map keyT ∧ kss.length ≤ 63 ∧ (∀ k ∈ kss, k ≠ []) ∧ AlikeK kss ∧ Q (.dat (.list ((ordK kss).map keyT)))
  | _ => False
theorem vf_sortedSetK {X : Cx} {xl : XLT X.K} {e : Expr} {u : WA} {p p2 pos pos2 : Pos} (hc : X.calm = true) (hu : X.A.units + 64 < cLine) (hg : Gl X "sorted") (hm : X.mg "sorted" = none) (hg2 : Gl X "set") (hm2 : X.mg "set" = none) (ha : VA X xl [e] u)
    (he : starEach [e] X.env = (false, eval e X.env) :: starEach [] X.env := by rfl)
    (he2 : starEach [Expr.Call (.Name "set" p2) [e] [] pos2] X.env = (false, eval (.Call (.Name "set" p2) [e] [] pos2) X.env) :: starEach [] X.env := by rfl) :
    VF X xl (.Call (.Name "sorted" p) [.Call (.Name "set" p2) [e] [] pos2] [] pos) (wCB gSK u) := by
  refine pe_weak (pe_callB (cr_sortK hc hu) hg hm (by decide +kernel) (pa_cons (pe_callTy (cr_setK hc hu) hg2 hm2 PyProof.Rows.boot_set ha (he := he)) pa_nil he2) (he := he2)) fun σ H Q ⟨S, B, ρ, μ, Q2, st, w, k⟩ => ⟨S, B, ρ, μ, _, st, w, fun vs H1 as e1 g1 rs q1 => ?_⟩
  cases rs with
  | nil => exact q1.elim
  | @cons v vs a as r rs =>
    cases rs with
    | cons _ _ => cases a <;> first | exact q1.elim | (rename_i d; cases d <;> exact q1.elim)
    | nil =>
      cases r with
      | dat r =>
        cases r with
        | @lst a xs ds h1 h2 =>
          obtain ⟨kss, rfl, hl, hne, hal, q2⟩ := q1
          obtain ⟨ks, rfl, e2, e3⟩ := rps_keys h2
          have lk : ks.length = kss.length := by rw [← e2, List.length_map]
          have mk : ∀ p ∈ ks, p.2 ∈ kss := fun p hp => by rw [← e2]; exact List.mem_map.mpr ⟨p, hp, rfl⟩
          refine ⟨a, ks, rfl, SqL.of (off_same _ _ h1), fun p hp => sqt_same off_same (e3 p hp), by omega, fun c L nc sub all => ?_⟩
          have x2 : Ex S H1 (upd H1 c (HeldO X.prog X.w c L)) := .new nc
          have g2 := g1.new (o := HeldO X.prog X.w c L) nc
          refine ⟨c, L, rfl, upd_same, fun p hp => sqt_same off_same (sqt_same (x2.off g1) (e3 p (sub p hp))), fun p hp => hne _ (mk p (sub p hp)), fun p hp q hq => hal _ (mk p (sub p hp)) _ (mk q (sub q hq)), fun L1 b pm nd few nb => ?_⟩
          obtain ⟨b1, b2⟩ := g2.free nb
          have x3 : Ex S (upd H1 c (HeldO X.prog X.w c L)) (upd (upd H1 c (HeldO X.prog X.w c L)) b (.lst ((L1.mergeSort (PySem.W.dataLe false encK)).map fun p => V.ref p.1))) := .new nb
          have perm2 := List.mergeSort_perm L1 (PySem.W.dataLe false encK)
          have ek : (L1.mergeSort (PySem.W.dataLe false encK)).map Prod.snd = ordK kss := by
            refine ord_one ?_ ((perm2.map Prod.snd).nodup_iff.mpr nd) fun k => ?_
            · rw [List.pairwise_map]
              exact PySem.W.sort_pairwise (le := PySem.W.dataLe false encK) (PySem.W.sortLe_total (listOrd itemOrd) false fun b => PySem.W.keyToks (encK b)) L1
            · rw [((perm2.trans pm).map Prod.snd).mem_iff]
              constructor
              · intro z
                obtain ⟨p, hp, rfl⟩ := List.mem_map.mp z
                exact mk p (sub p hp)
              · intro z
                rw [← e2] at z
                obtain ⟨p, hp, rfl⟩ := List.mem_map.mp z
                obtain ⟨r, hr, e⟩ := all p hp
                exact List.mem_map.mpr ⟨r, hr, e⟩
          refine k _ _ _ (e1.trans (x2.trans x3)) (g2.new nb) (.dat (.lst (off_upd b1 b2) ?_)) (fun z _ e _ => by cases e; exact e1.dom _ (x2.dom _ nb)) q2
          rw [← ek]
          exact keys_rps fun p hp => sqt_same (x3.off g2) (sqt_same (x2.off g1) (e3 p (sub p ((perm2.trans pm).mem_iff.mp hp))))
        | _ => exact q1.elim
      | _ => exact q1.elim
theorem ev_sortedSetK {ρ : Rho} {μ : Mem} {w : WE} {kss : List (List Key)} (h : Evs w ρ μ (.dat (.list (kss.map keyT)))) (hl : kss.length ≤ 63) (hne : ∀ k ∈ kss, k ≠ []) (hal : AlikeK kss) : Evs (wCB gSK (waCons w waNil)) ρ μ (.dat (.list ((ordK kss).map keyT))) := fun Q q => h _ ⟨kss, rfl, hl, hne, hal, q⟩
end Hv

set_option Elab.async false
set_option linter.all false
set_option maxRecDepth 100000
namespace Hv
open PySem PySem.Spec PyProof.Rows L2 Hod
/-! ### a def that hands back a memory of its own -/
abbrev FS2 := List A → (Addr → Mem → Prop) → Prop
def spD2 (K : PySem.W.Frag) (F : FS2) : Sp := fun vs H Q _ => ∃ S B as Q2, Good K S B emp H ∧ Ras K S emp (off B emp H) vs as ∧ F as Q2 ∧
  ∀ q H' μ, Ex S H H' → Good K S B μ H' → (∀ a, H a ≠ none → μ a = none) → isL μ q = true → Q2 q μ → Q (.ref q) H'
def noE : Ends2 := { nx := fun _ _ => False, rt := fun _ => False }
theorem fnD2 {P : Program} {w : World} {K : PySem.W.Frag} {mg : Str → Option Value} {base : Heap} {x qual : Str} {st : Stmt} {f : Addr} {fd : FuncData} {N ps : List Str} {k : Nat} {F : FS2} {W : WS}
    (Fn : Fun K x qual st f fd) (Sc : FnScope N ps (defScope st)) (len : ∀ as Q, F as Q → as.length = ps.length)
    (hbody : ∀ (cdv : Value) (A : Around) (outer : List Env) (s : Shared) (H : Hp) (E : XK), Room k (A.deeper (envOfC qual (defScope st) s.heap.objs.size f cdv)) → VSs (cxOf CX0 P w K mg base N qual (defScope st) f cdv A outer s H E).nox xl0 (defBody st) W)
    (hw : ∀ as Q, F as Q → W { nx := fun _ _ => False, rt := fun _ => False, ow := Q } (startA N as) emp) : FnOk P w K mg base CX0 (k + 1) f fd ps (spD2 K F) := by
  refine Fn.ok Sc (fun vs H Q E h => ?_) (fun cdv A outer s H vs Q E hr h => ?_)
  · obtain ⟨S, B, as, Q2, _, h2, h3, _⟩ := h
    rw [h2.len]
    exact len _ _ h3
  · obtain ⟨S, B, as, Q2, h1, h2, h3, h4⟩ := h
    refine ⟨_, hbody cdv A outer s H E hr, S, B, H, off B emp H, startA N as, emp, _, .of h1 ?_ .refl (fun _ _ => rfl) (Same.refl _) (fun _ _ _ _ _ => trivial), hw as Q2 h3, ⟨fun _ _ _ _ _ q => q.elim, fun _ _ _ _ _ q => q.elim, fun _ _ _ _ _ q => q.elim, fun _ _ _ _ _ _ _ q => q.elim, ?_⟩⟩
    · have q := Sls.start (N.length - vs.length) h2
      unfold L2.start startA
      rw [h2.len] at q ⊢
      exact q
    · exact fun σ' H' ρ' μ' q z hq q2 => h4 q H' μ' z.old z.st.gd z.fre hq q2
section
variable {X : Cx} {xl : XLT X.K} {e : Expr} {es : List Expr} {pos p : Pos} {w : WE} {u : WA} {x y : Str}
/-- return x, a list of one's own with all that it holds -/
def wRetO (w : WE) : WS := fun E ρ μ => w ρ μ fun a => match a with | .own q => E.ow q μ | _ => False
theorem vs_retO (he : VE X xl e w) : VS X xl (.Return (some e) pos) (wRetO w) := by
  refine ps_weak (ps_ret he) fun D σ H ⟨S, B, H0, G0, ρ, μ, E, s, w, r⟩ => ⟨S, B, ρ, μ, _, s.st, w, fun v H1 a e1 g1 ra q1 => ?_⟩
  cases ra with
  | own h => exact r.ow _ _ _ _ _ (s.ex e1 g1) h q1
  | _ => exact q1.elim
/-- two memories -/
def mrg (μ ν : Mem) : Mem := fun a => match ν a with | some xs => some xs | none => μ a
theorem mrg_l {μ ν : Mem} {a : Addr} (h : ν a = none) : mrg μ ν a = μ a := by unfold mrg; rw [h]
theorem mrg_r {μ ν : Mem} {a : Addr} {xs : List A} (h : ν a = some xs) : mrg μ ν a = some xs := by unfold mrg; rw [h]
theorem off_mrg {B : Hid} {μ ν : Mem} {H : Hp} : off (hide B μ) ν H = off B (mrg μ ν) H := by
  funext a
  unfold off hide mrg
  cases B a <;> cases μ a <;> cases ν a <;> simp
theorem mrg_ok {K : PySem.W.Frag} {xl : XLT K} {S : Hs} {B : Hid} {H0 G0 H H1 : Hp} {σ : L2.St} {ρ : Rho} {μ ν : Mem} (s : Sts K xl S B H0 G0 σ H ρ μ) (e : Ex S H H1) (g : Good K S (hide B μ) ν H1) (fre : ∀ a, H a ≠ none → ν a = none) : Sts K xl S B H0 G0 σ H1 ρ (mrg μ ν) := by
  have nn : ∀ {a : Addr} {o : HO}, H a = some o → H a ≠ none := fun {a o} h z => by rw [h] at z; cases z
  have so : Same (off B μ H) (off B (mrg μ ν) H1) := fun a o h => by
    obtain ⟨h1, h2, h3⟩ := off_some h
    rw [off_of h1 (by rw [mrg_l (fre a (nn h3))]; exact h2)]
    exact e.keep a o (s.st.gd.sb h1) h3
  have dis : ∀ {a : Addr}, μ a ≠ none → mrg μ ν a = μ a := fun {a} h => by
    cases q : μ a with
    | none => exact absurd q h
    | some xs =>
      obtain ⟨_, o, vs, h1, _⟩ := s.st.gd.ce a xs q
      rw [mrg_l (fre a (nn h1)), q]
  have g1 : Gw μ (mrg μ ν) (off B μ H) (off B (mrg μ ν) H1) := ⟨so, fun a h => by
    unfold isL at h ⊢
    rw [dis (fun z => by rw [z] at h; cases h)]; exact h, fun a h => by
    unfold isO at h ⊢
    rw [dis (fun z => by rw [z] at h; cases h)]; exact h⟩
  have g2 : Gw ν (mrg μ ν) (off (hide B μ) ν H1) (off B (mrg μ ν) H1) := ⟨by rw [off_mrg]; exact Same.refl _, fun a h => by
    cases q : ν a with
    | none => unfold isL at h; rw [q] at h; cases h
    | some xs => unfold isL at h ⊢; rw [mrg_r q]; rw [q] at h; exact h, fun a h => by
    cases q : ν a with
    | none => unfold isO at h; rw [q] at h; cases h
    | some xs => unfold isO at h ⊢; rw [mrg_r q]; rw [q] at h; exact h⟩
  refine .of ⟨fun a sa => ?_, fun a sa => ⟨(s.st.gd.tb a sa).1, (g.tb a sa).2⟩, fun a ba h => s.st.gd.bd a ba (e.dom a h), fun a xs q => ?_⟩ (s.st.sl.gw g1) (s.old.trans e) (fun a h => ?_) (fun a o h => so a o (s.vis a o h)) s.xs
  · obtain ⟨_, h2⟩ := g.dr a sa
    rw [off_mrg] at h2
    exact ⟨(s.st.gd.dr a sa).1, h2⟩
  · cases hn : ν a with
    | some ys =>
      rw [mrg_r hn] at q
      cases q
      obtain ⟨b1, o, vs, h1, hh, h2⟩ := g.ce a _ hn
      refine ⟨?_, o, vs, h1, hh, h2.gw g2⟩
      unfold hide at b1
      cases hb : B a with
      | false => rfl
      | true => rw [hb] at b1; cases b1
    | none =>
      rw [mrg_l hn] at q
      obtain ⟨b1, o, vs, h1, hh, h2⟩ := s.st.gd.ce a xs q
      exact ⟨b1, o, vs, e.keep a _ (s.st.gd.sb b1) h1, hh, h2.gw g1⟩
  · have : H a ≠ none := fun z => h (s.old.dom a z)
    rw [mrg_l (fre a this)]
    exact s.fre a h
variable {k : Nat} {f : Addr} {fd : FuncData} {ps : List Str} {F : FS2}
/-- x = f(..), return f(..) -/
def wOwn3 (F : FS2) (u : WA) (i : Nat) : WS := fun E ρ μ => u ρ μ fun as => noOwn as = true ∧ F as fun q ν => (∀ a, (ν a).isSome = true → μ a = none) → E.nx (ρ.set i (some (.own q))) (mrg μ ν)
def wRetC (F : FS2) (u : WA) : WS := fun E ρ μ => u ρ μ fun as => noOwn as = true ∧ F as fun q ν => (∀ a, (ν a).isSome = true → μ a = none) → E.ow q (mrg μ ν)
theorem new_none {K : PySem.W.Frag} {S : Hs} {B : Hid} {μ ν : Mem} {H : Hp} (g : Good K S B μ H) (fre : ∀ a, H a ≠ none → ν a = none) : ∀ a, (ν a).isSome = true → μ a = none := fun a h => by
  cases q : μ a with
  | none => rfl
  | some xs =>
    obtain ⟨_, o, vs, h1, _⟩ := g.ce a xs q
    rw [fre a (by rw [h1]; exact fun z => nomatch z)] at h
    cases h
theorem vs_own3 {i : Nat} {pos' pos2 : Pos} (G : FnOk X.prog X.w X.K X.mg X.base CX0 k f fd ps (spD2 X.K F)) (hr : Room k X.A) (hg : Gl X x) (hm : X.mg x = some (.ref f)) (hk : PySem.W.keepIn X.K (.ref f) = true) (hb : Binds X.K fd ps []) (ha : VA X xl (e :: es) u)
    (hN : X.N.Nodup) (hi : X.N[i]? = some y) (hx : Loc X.env.scope y)
    (hdb : (x == ("__debug__" : Str)) = false := by decide) (he : starEach (e :: es) X.env = (false, eval e X.env) :: starEach es X.env := by rfl) (hpl : (backTo pos (starEach es X.env)).any (·.1) = false := by rfl)
    (hs : swapsWith (.Call (.Name x p) (e :: es) [] pos) (some (.Name y pos')) pos2.line X.env = pure false := by rfl) (hf : X.fn y = true ∨ X.env.scope.names.lookup y = some .local := by first | exact .inl rfl | exact .inr rfl | assumption) :
    VS X xl (.Assign [.Name y pos'] (.Call (.Name x p) (e :: es) [] pos) pos2) (wOwn3 F u i) := by
  refine ps_weak (ps_set hN hi hx (pe_call G hr hg hm hk hb .nil (E := E0) pass0 ha hdb he hpl) hs hf) fun D σ H ⟨S, B, H0, G0, ρ, μ, E, s, w, r⟩ => ⟨S, B, ρ, μ, _, s.st, w, fun vs H1 as e1 g1 rs q1 => ?_⟩
  show spD2 X.K F (vs ++ []) H1 _ E0
  rw [List.append_nil]
  have s1 := s.ex e1 g1
  refine ⟨S, Hv.hide B μ, as, _, g1.hide, by rw [off_hide]; exact ras_noOwn rs q1.1, q1.2, fun q H2 ν ex g2 fre hq q3 => ?_⟩
  have s2 := mrg_ok s1 ex g2 fre
  have hq2 : isL (mrg μ ν) q = true := by
    unfold isL at hq ⊢
    cases h : ν q with
    | none => rw [h] at hq; cases hq
    | some xs => rw [mrg_r h]; rw [h] at hq; exact hq
  exact r.nx _ _ _ _ (s2.set i (.own hq2)) (q3 (new_none g1 fre))
theorem vs_retC {pos2 : Pos} (G : FnOk X.prog X.w X.K X.mg X.base CX0 k f fd ps (spD2 X.K F)) (hr : Room k X.A) (hg : Gl X x) (hm : X.mg x = some (.ref f)) (hk : PySem.W.keepIn X.K (.ref f) = true) (hb : Binds X.K fd ps []) (ha : VA X xl (e :: es) u)
    (hdb : (x == ("__debug__" : Str)) = false := by decide) (he : starEach (e :: es) X.env = (false, eval e X.env) :: starEach es X.env := by rfl) (hpl : (backTo pos (starEach es X.env)).any (·.1) = false := by rfl) :
    VS X xl (.Return (some (.Call (.Name x p) (e :: es) [] pos)) pos2) (wRetC F u) := by
  refine ps_weak (ps_ret (pe_call G hr hg hm hk hb .nil (E := E0) pass0 ha hdb he hpl)) fun D σ H ⟨S, B, H0, G0, ρ, μ, E, s, w, r⟩ => ⟨S, B, ρ, μ, _, s.st, w, fun vs H1 as e1 g1 rs q1 => ?_⟩
  show spD2 X.K F (vs ++ []) H1 _ E0
  rw [List.append_nil]
  have s1 := s.ex e1 g1
  refine ⟨S, Hv.hide B μ, as, _, g1.hide, by rw [off_hide]; exact ras_noOwn rs q1.1, q1.2, fun q H2 ν ex g2 fre hq q3 => ?_⟩
  have s2 := mrg_ok s1 ex g2 fre
  have hq2 : isL (mrg μ ν) q = true := by
    unfold isL at hq ⊢
    cases h : ν q with
    | none => rw [h] at hq; cases hq
    | some xs => rw [mrg_r h]; rw [h] at hq; exact hq
  exact r.ow _ _ _ _ q s2 hq2 (q3 (new_none g1 fre))
end
/-! ### what a list of lists of one's own comes to -/
def rsvA2 (μ : Mem) : A → Option A
  | .own a => match μ a with | some xs => (match rsvL μ xs with | some ds => some (.dat (.list ds)) | none => none) | none => none
  | .obj _ => none
  | a => some a
def rsvs2 (μ : Mem) : List A → Option (List A)
  | [] => some []
  | a :: as => match rsvA2 μ a with | some b => (match rsvs2 μ as with | some bs => some (b :: bs) | none => none) | none => none
section
variable {K : PySem.W.Frag} {xl : XLT K} {S : Hs} {B : Hid} {μ : Mem} {H : Hp}
theorem ra_rsv2 (g : Good K S B μ H) {v : V} {a b : A} (r : Ra K S μ (off B μ H) v a) (h : rsvA2 μ a = some b) : Ra K S emp (off B emp H) v b := by
  cases r with
  | dat r => cases h; exact .dat (r.mono same_open _ _)
  | @own p h1 =>
    unfold rsvA2 at h
    dsimp only at h
    cases q : μ p with
    | none => rw [q] at h; cases h
    | some xs =>
      rw [q] at h
      dsimp only at h
      obtain ⟨b1, vs, e1, e2⟩ := g.ls h1 q
      cases hd : rsvL μ xs with
      | none => rw [hd] at h; cases h
      | some ds =>
        rw [hd] at h
        cases h
        exact .dat (.lst (by rw [off_of b1 rfl]; exact e1) (rsvL_rp g e2 hd))
  | drw h1 => cases h; exact .drw h1
  | ty => cases h; exact .ty
  | fn => cases h; exact .fn
  | obj => cases h
theorem ras_rsv2 (g : Good K S B μ H) : ∀ {as bs : List A} {vs : List V}, Ras K S μ (off B μ H) vs as → rsvs2 μ as = some bs → Ras K S emp (off B emp H) vs bs
  | [], bs, _, h, e => by cases h; cases e; exact .nil
  | a :: as, bs, _, h, e => by
    cases h with
    | cons h1 h2 =>
      unfold rsvs2 at e
      cases q1 : rsvA2 μ a with
      | none => rw [q1] at e; cases e
      | some b =>
        rw [q1] at e
        dsimp only at e
        cases q2 : rsvs2 μ as with
        | none => rw [q2] at e; cases e
        | some cs => rw [q2] at e; cases e; exact .cons (ra_rsv2 g h1 q1) (ras_rsv2 g h2 q2)
end
/-- f(..) of lists within lists of one's own; a flat answer -/
def wCall2 (F : FS) (u : WA) : WE := fun ρ μ Q => u ρ μ fun as => ∃ bs, rsvs2 μ as = some bs ∧ F bs fun d => flatD d = true ∧ Q (.dat d)
theorem ve_call2 {X : Cx} {xl : XLT X.K} {k : Nat} {f : Addr} {fd : FuncData} {ps : List Str} {fr : Bool} {F : FS} {x : Str} {p pos : Pos} {e : Expr} {es : List Expr} {u : WA} (G : FnOk X.prog X.w X.K X.mg X.base CX0 k f fd ps (spD X.K fr F)) (hr : Room k X.A) (hg : Gl X x) (hm : X.mg x = some (.ref f)) (hk : PySem.W.keepIn X.K (.ref f) = true) (hb : Binds X.K fd ps []) (ha : VA X xl (e :: es) u)
    (hdb : (x == ("__debug__" : Str)) = false := by decide) (he : starEach (e :: es) X.env = (false, eval e X.env) :: starEach es X.env := by rfl) (hpl : (backTo pos (starEach es X.env)).any (·.1) = false := by rfl) : VE X xl (.Call (.Name x p) (e :: es) [] pos) (wCall2 F u) := by
  refine pe_weak (pe_call G hr hg hm hk hb .nil (E := E0) pass0 ha hdb he hpl) fun σ H Q ⟨S, B, ρ, μ, Q2, st, w, k⟩ => ⟨S, B, ρ, μ, _, st, w, fun vs H1 as e1 g1 rs q1 => ?_⟩
  show spD X.K fr F (vs ++ []) H1 Q E0
  rw [List.append_nil]
  obtain ⟨bs, hbs, hF⟩ := q1
  refine ⟨S, B, bs, _, g1.open, ras_rsv2 g1 rs hbs, hF, fun v H2 d ex g2 r n q => ?_⟩
  obtain ⟨r1, r2⟩ := flat_any (G2 := off B μ H2) r q.1
  exact k v H2 _ (e1.trans ex) (g1.step ex g2) (.dat r1) q.2
/-! ### all lists under change, lists within lists too, become data -/
def frzS2 (μ : Mem) : Option A → Option A
  | some a => rsvA2 μ a
  | none => none
def wFrz2 (W : WS) : WS := fun E ρ μ => W E (ρ.map (frzS2 μ)) emp
theorem sls_frz2 {K : PySem.W.Frag} {S : Hs} {B : Hid} {μ : Mem} {H : Hp} (g : Good K S B μ H) : ∀ {ρ : List (Option A)} {σ : List (Option V)}, Sls K S μ (off B μ H) σ ρ → Sls K S emp (off B emp H) σ (ρ.map (frzS2 μ))
  | [], _, h => by cases h; exact .nil
  | none :: ρ, _, h => by cases h with | any h => exact .any (sls_frz2 g h)
  | some a :: ρ, _, h => by
    cases h with
    | has h1 h2 =>
      rw [List.map_cons]
      show Sls _ _ _ _ _ (rsvA2 μ a :: _)
      cases q : rsvA2 μ a with
      | none => exact .any (sls_frz2 g h2)
      | some b => exact .has (ra_rsv2 g h1 q) (sls_frz2 g h2)
theorem vss_frz2 {X : Cx} {xl : XLT X.K} {st : List Stmt} {W : WS} (h : VSs X xl st W) : VSs X xl st (wFrz2 W) :=
  pss_weak h fun D σ H ⟨S, B, H0, G0, ρ, μ, E, s, w, r⟩ => ⟨S, B, H0, G0, _, emp, E, .of s.st.gd.open (sls_frz2 s.st.gd s.st.sl) s.old (fun _ _ => rfl) (fun a o h => same_open a o (s.vis a o h)) s.xs, w, r⟩
theorem x_frz2 {W : WS} {E : Ends2} {ρ ρ' : Rho} {μ : Mem} (h : ρ.map (frzS2 μ) = ρ') (q : W E ρ' emp) : wFrz2 W E ρ μ := by
  unfold wFrz2
  rw [h]
  exact q
theorem frz2_dat {μ : Mem} {d : PyData} : frzS2 μ (some (.dat d)) = some (.dat d) := rfl
theorem frz2_drw {μ : Mem} : frzS2 μ (some .drw) = some .drw := rfl
theorem rsvL_dats {μ : Mem} : ∀ ds : List PyData, rsvL μ (ds.map .dat) = some ds
  | [] => rfl
  | d :: ds => by
    rw [List.map_cons]
    unfold rsvL
    rw [rsvL_dats ds]
    rfl
theorem rsvA2_own {μ : Mem} {p : Addr} {xs : List A} {ds : List PyData} (h : μ p = some xs) (h2 : rsvL μ xs = some ds) : rsvA2 μ (.own p) = some (.dat (.list ds)) := by
  unfold rsvA2
  dsimp only
  rw [h]
  dsimp only
  rw [h2]
theorem frz2_own {μ : Mem} {p : Addr} {ds : List PyData} (h : μ p = some (ds.map .dat)) : frzS2 μ (some (.own p)) = some (.dat (.list ds)) := rsvA2_own h (rsvL_dats ds)
theorem frz2_own2 {μ : Mem} {p : Addr} {xs : List A} {ds : List PyData} (h : μ p = some xs) (h2 : rsvL μ xs = some ds) : frzS2 μ (some (.own p)) = some (.dat (.list ds)) := rsvA2_own h h2
end Hv

set_option Elab.async false
set_option linter.all false
set_option maxRecDepth 100000
namespace Hv
open PySem PySem.Spec PyProof.Rows L2 Hod
/-! ### any, int of a bool -/
def gAny : GC := fun μ as Q => match as with | [.dat (.list ds)] => (match boolsD ds with | some bs => Q (.dat (.bool (bs.any id))) | none => False) | _ => False
theorem c_any {K : PySem.W.Frag} : CW K (rAny K) gAny := fun S B xs H μ as Q Q2 gd rs q k => by
  cases rs with
  | nil => exact q.elim
  | @cons v vs a as r rs =>
    cases rs with
    | cons _ _ => cases a <;> first | exact q.elim | (rename_i d; cases d <;> exact q.elim)
    | nil =>
      cases r with
      | dat r =>
        cases r with
        | @lst p xs ds h1 h2 =>
          unfold gAny at q
          dsimp only at q
          split at q
          · rename_i bs hb
            exact ⟨p, bs, rfl, by rw [← bools_ok h2 hb]; exact SqL.of (off_same _ _ h1), k _ H _ .refl gd (.dat (.bl _)) (fun _ _ e => nomatch e) q⟩
          · exact q.elim
        | _ => exact q.elim
      | _ => exact q.elim
theorem ev_any {ρ : Rho} {μ : Mem} {w : WE} {bs : List Bool} (h : Evs w ρ μ (.dat (.list (bs.map PyData.bool)))) : Evs (wCB gAny (waCons w waNil)) ρ μ (.dat (.bool (bs.any id))) := fun Q q => h _ (by
  show (match boolsD (bs.map PyData.bool) with | some bs => Q (.dat (.bool (bs.any id))) | none => False)
  rw [bools_map]
  exact q)
theorem ev_anym {ρ : Rho} {μ : Mem} {w : WE} {α : Type} {l : List α} {b : α → Bool} (h : Evs w ρ μ (.dat (.list (l.map fun x => PyData.bool (b x))))) : Evs (wCB gAny (waCons w waNil)) ρ μ (.dat (.bool (l.any b))) := by
  have e : (l.map b).any id = l.any b := by rw [List.any_map]; rfl
  rw [← e]
  refine ev_any ?_
  rw [List.map_map]
  exact h
def gIntB : GC := fun μ as Q => match as with | [.dat (.bool b)] => Q (.dat (.int (if b then 1 else 0))) | _ => False
theorem c_intB {K : PySem.W.Frag} : CW K (fun xs H Q => (∃ i, xs = [.int i] ∧ Q (.int i) H) ∨ ∃ k, xs = [.bl k] ∧ Q (.int (if k then 1 else 0)) H) gIntB := fun S B xs H μ as Q Q2 gd rs q k => by
  cases rs with
  | nil => exact q.elim
  | @cons v vs a as r rs =>
    cases rs with
    | cons _ _ => cases a <;> first | exact q.elim | (rename_i d; cases d <;> exact q.elim)
    | nil =>
      cases r with
      | dat r =>
        cases r with
        | bl b => exact .inr ⟨b, rfl, k _ H _ .refl gd (.dat (.int _)) (fun _ _ e => nomatch e) q⟩
        | _ => exact q.elim
      | _ => exact q.elim
theorem ev_intB {ρ : Rho} {μ : Mem} {w : WE} {b : Bool} (h : Evs w ρ μ (.dat (.bool b))) : Evs (wCB gIntB (waCons w waNil)) ρ μ (.dat (.int (if b then 1 else 0))) := fun Q q => h _ q
/-! ### a text not in a dict of the module -/
/-- the keys of a dict of the module -/
structure KD (K : PySem.W.Frag) (w : World) (d : Addr) (ks : List Str) : Prop where
  dict : ∃ es n, KDict K w d es n
  keys : ∀ z ∈ ks, ∃ u, PySem.W.nsIn K d z = some (some u)
def wNotKd (ks : List Str) (wa : WE) : WT := fun ρ μ Q => wa ρ μ fun a => match a with | .dat (.str z) => z ∈ ks ∧ Q false | _ => False
theorem vt_notKd {X : Cx} {xl : XLT X.K} {a : Expr} {wa : WE} {x : Str} {d : Addr} {ks : List Str} {p pos : Pos} (D : KD X.K X.w d ks) (ha : VE X xl a wa) (hg : Gl X x) (hm : X.mg x = some (.ref d)) (hdb : (x == ("__debug__" : Str)) = false := by decide) (hb : behindInMarks .NotIn (.Name x p) = false := by rfl) : VT X xl (.Compare a [.NotIn] [.Name x p] pos) (wNotKd ks wa) := by
  obtain ⟨es, n, kd⟩ := D.dict
  refine pt_weak (pt_cmpR (op_notIn_kd kd) ha (pe_glob (v := .ref d) hg hm rfl hdb) hb) fun σ H Q ⟨S, B, ρ, μ, Q2, st, w, k⟩ => ⟨S, B, ρ, μ, _, st, w, fun v H1 a e1 g1 ra q1 => ?_⟩
  cases ra with
  | dat ra =>
    cases ra with
    | str z =>
      obtain ⟨u, hu⟩ := D.keys z q1.1
      exact ⟨z, some u, rfl, rfl, hu, false, rfl, k _ H1 e1 g1 q1.2⟩
    | _ => exact q1.elim
  | _ => exact q1.elim
theorem et_notKd {ρ : Rho} {μ : Mem} {ks : List Str} {w : WE} {z : Str} (h : Evs w ρ μ (.dat (.str z))) (hz : z ∈ ks) : EvTs (wNotKd ks w) ρ μ false := fun Q q => h _ ⟨hz, q⟩
/-! ### calls by names with defaults of the module -/
def GAK (K : PySem.W.Frag) (gV : List V → List V → List V) (gA : List A → List A → List A) : Prop := ∀ S μ G vs as zs bs, Ras K S μ G vs as → Ras K S μ G zs bs → Ras K S μ G (gV vs zs) (gA as bs)
theorem gakD_mk {K : PySem.W.Frag} {π : List Nat} {n m : Nat} {mz : List V} {das : List A} (h : ∀ S μ G, Ras K S μ G mz das) : GAK K (permD .non π n m mz) (permD (.dat .none) π n m das) := fun S μ G vs as zs bs h1 h2 => by
  unfold permD
  rw [h1.len, h2.len]
  split
  · have hh := (h1.app h2).app (h S μ G)
    clear h1 h2
    induction π with
    | nil => exact .nil
    | cons i π ih => exact .cons (getD_rel hh i) ih
  · exact .nil
section
variable {X : Cx} {xl : XLT X.K} {k : Nat} {f : Addr} {fd : FuncData} {ps ks : List Str} {fr : Bool} {F : FS} {x : Str} {p pos : Pos} {e : Expr} {es : List Expr} {u uk : WA}
variable {kws : List Keyword} {g : List Value → List Value → List Value} {gV : List V → List V → List V} {gA : List A → List A → List A}
theorem ve_callKk (G : FnOk X.prog X.w X.K X.mg X.base CX0 k f fd ps (spD X.K fr F)) (hr : Room k X.A) (hg : Gl X x) (hm : X.mg x = some (.ref f)) (hk : PySem.W.keepIn X.K (.ref f) = true) (hb : KBinds X.K fd ps ks g gV) (hG : GAK X.K gV gA) (ha : VA X xl (e :: es) u) (hkw : VK2 X xl kws uk)
    (hall : (backToKw pos (keywordEach kws X.env)).all (·.1.isSome) = true := by rfl) (hks : (backToKw pos (keywordEach kws X.env)).filterMap (·.1) = ks := by rfl)
    (hdb : (x == ("__debug__" : Str)) = false := by decide) (he : starEach (e :: es) X.env = (false, eval e X.env) :: starEach es X.env := by rfl)
    (hpl : ((backTo pos (starEach (e :: es) X.env)).any (·.1) || (backToKw pos (keywordEach kws X.env)).any (·.1.isNone)) = false := by rfl) : VE X xl (.Call (.Name x p) (e :: es) kws pos) (wCallK F gA u uk) := by
  refine pe_weak (pe_callK G hr hg hm hk hb (E := E0) pass0 ha hkw hall hks hdb he hpl) fun σ H Q ⟨S, B, ρ, μ, Q2, st, w, k⟩ => ⟨S, B, ρ, μ, _, st, w, fun vs H1 as e1 g1 rs q1 => ⟨S, B, ρ, μ, _, st.ex e1 g1, q1, fun zs H2 bs e2 g2 rz q2 => ?_⟩⟩
  exact wF_ok g2 (hG _ _ _ _ _ _ _ (rs.mono (e2.off g1)) rz) q2 fun v H3 a e3 g3 r3 n q3 => k v H3 a (e1.trans (e2.trans e3)) g3 r3 q3
end
end Hv

set_option Elab.async false
set_option linter.all false
set_option maxRecDepth 100000
namespace Hv
open PySem PySem.Spec PyProof.Rows L2 Hod
/-! ### sayings -/
inductive Wd where | frm | ahd | way | nt | sty | mov
def Wd.s : Wd → Str
  | .frm => "from"
  | .ahd => "ahead"
  | .way => "way"
  | .nt => "not"
  | .sty => "stays"
  | .mov => "moves"
def wordsL : List Str := ["from", "ahead", "way", "not", "stays", "moves"]
theorem Wd.mem (w : Wd) : w.s ∈ wordsL := by cases w <;> decide
structure Say where
  word : Wd
  work : Nat
  num : Int
def Say.e (s : Say) : PyData := .tuple [.str s.word.s, .int s.work, .int s.num]
def Say.ok (y : Yard) (s : Say) : Prop := ∃ v, y.works[s.work]? = some v ∧ (match s.word with
  | .frm => 0 ≤ s.num ∧ s.num ≤ y.days
  | .ahd => 0 ≤ s.num ∧ s.num ≤ y.days
  | .way => 0 ≤ s.num ∧ s.num < (v.ways.length : Int)
  | .nt => 0 ≤ s.num ∧ s.num < (v.ways.length : Int)
  | .sty => s.num = 0
  | .mov => s.num = 0)
def eOp : Option (Int × Int) → PyData
  | none => .none
  | some q => prP q
def eOld (old : List (Option (Int × Int))) : PyData := .tuple (old.map eOp)
def stay (pl : List (Int × Int)) (old : List (Option (Int × Int))) (s : Say) : Bool := match old[s.work]? with
  | some o => PyData.eqv (eOp o) (prP (pl.getD s.work (0, 0)))
  | none => false
def hold (pl : List (Int × Int)) (old : List (Option (Int × Int))) (s : Say) : Bool := match s.word with
  | .frm => decide ((pl.getD s.work (0, 0)).1 ≥ s.num)
  | .ahd => decide ((pl.getD s.work (0, 0)).1 < s.num)
  | .way => decide ((pl.getD s.work (0, 0)).2 = s.num)
  | .nt => !decide ((pl.getD s.work (0, 0)).2 = s.num)
  | .sty => stay pl old s
  | .mov => !stay pl old s
def OldOk (y : Yard) (old : List (Option (Int × Int))) : Prop := old = [] ∨ old.length = y.works.length
def FisSay : FS := fun as Q => ∃ (y : Yard) (s : Say), as = [.dat y.e, .dat s.e] ∧ y.ok ∧ s.ok y ∧ Q (.bool true)
def FcSays : FS := fun as Q => ∃ (y : Yard) (ss : List Say), as = [.dat y.e, .dat (.list (ss.map Say.e))] ∧ y.ok ∧ (∀ s ∈ ss, s.ok y) ∧ Q .none
def FholdsOf : FS := fun as Q => ∃ (y : Yard) (pl : List (Int × Int)) (old : List (Option (Int × Int))) (s : Say), as = [.dat (.list (pl.map prP)), .dat (eOld old), .dat s.e] ∧ s.ok y ∧ pl.length = y.works.length ∧ OldOk y old ∧ Q (.bool (hold pl old s))
def Fholds : FS := fun as Q => ∃ (y : Yard) (pl : List (Int × Int)) (ss : List Say) (old : List (Option (Int × Int))), as = [.dat y.e, .dat (.list (pl.map prP)), .dat (.list (ss.map Say.e)), .dat (eOld old)] ∧ y.ok ∧ pl.length = y.works.length ∧ ss.length ≤ 1000 ∧ (∀ s ∈ ss, s.ok y) ∧ OldOk y old ∧ Q (.bool (ss.any (hold pl old)))
def Fold : FS := fun as Q => ∃ y : Yard, as = [.drw, .dat y.e] ∧ y.ok ∧ ∀ old : List (Option (Int × Int)), OldOk y old → Q (eOld old)
def Fsaying : FS := fun as Q => ∃ y : Yard, as = [.drw, .dat y.e] ∧ y.ok ∧ 0 < y.works.length ∧ ∀ s : Say, s.ok y → Q s.e
def Fsays : FS := fun as Q => ∃ (y : Yard) (old : List (Option (Int × Int))) (pl : List (Int × Int)) (s : Say), as = [.dat y.e, .dat (eOld old), .dat (.list (pl.map prP)), .dat s.e] ∧ s.ok y ∧ pl.length = y.works.length ∧ OldOk y old ∧ Q (.bool (hold pl old s))
theorem shp_prp (q : Int × Int) : (prP q).canLay0 = true ∧ (prP q).depth ≤ 1 := shp_tup (n := 0) fun d hd => by
  rcases List.mem_cons.mp hd with rfl | hd
  · exact shp_int _
  · rcases List.mem_cons.mp hd with rfl | hd
    · exact shp_int _
    · cases hd
theorem shp_eop (o : Option (Int × Int)) : (eOp o).canLay0 = true ∧ (eOp o).depth ≤ 1 := by
  cases o with
  | none => exact ⟨rfl, Nat.zero_le _⟩
  | some q => exact shp_prp q
theorem shp_eold (old : List (Option (Int × Int))) : SeqAt.shaped (eOld old) = true := shaped_of (n := 2) (shp_tup fun d hd => by
  obtain ⟨o, _, rfl⟩ := List.mem_map.mp hd
  exact shp_eop o) (by decide)
theorem shp_say (s : Say) : s.e.canLay0 = true ∧ s.e.depth ≤ 1 := shp_tup (n := 0) fun d hd => by
  rcases List.mem_cons.mp hd with rfl | hd
  · exact ⟨by show (PyData.str s.word.s).canLay0 = true; unfold PyData.canLay0; cases s.word <;> decide +kernel, Nat.le_refl _⟩
  · rcases List.mem_cons.mp hd with rfl | hd
    · exact shp_int _
    · rcases List.mem_cons.mp hd with rfl | hd
      · exact shp_int _
      · cases hd
theorem stay_at {y : Yard} {pl : List (Int × Int)} {old : List (Option (Int × Int))} {s : Say} (hs : s.ok y) (ho : OldOk y old) : (old = [] ∧ stay pl old s = false) ∨ ∃ o, old[s.work]? = some o ∧ stay pl old s = PyData.eqv (eOp o) (prP (pl.getD s.work (0, 0))) := by
  obtain ⟨v, hv, _⟩ := hs
  rcases ho with rfl | ho
  · exact .inl ⟨rfl, rfl⟩
  · have := lt_of_get hv
    refine .inr ⟨old[s.work], List.getElem?_eq_getElem (by omega), ?_⟩
    unfold stay
    rw [List.getElem?_eq_getElem (by omega)]
end Hv

set_option Elab.async false
set_option linter.all false
set_option maxRecDepth 100000
/-! calls with lists of one's own, an answer without lists; lines of sayings -/
namespace Hv
open PySem PySem.Spec PyProof.Rows L2 Hod
mutual
def noLst : PyData → Bool
  | .list _ => false
  | .dict _ => false
  | .tuple ds => noLsts ds
  | _ => true
def noLsts : List PyData → Bool
  | [] => true
  | d :: ds => noLst d && noLsts ds
end
section
variable {K : PySem.W.Frag} {S : Hs} {B : Hid} {μ : Mem} {H : Hp}
theorem rd_hid (g : Good K S B μ H) {a : Addr} {xs : List V} (h : SqT K (off B emp H) a xs) : SqT K (off B μ H) a xs := by
  have at' : ∀ o, off B emp H a = some o → chg o = false → off B μ H a = some o := fun o e ne => by
    obtain ⟨h1, _, h3⟩ := off_some e
    refine (off_of h1 ?_).trans h3
    cases q : μ a with
    | none => rfl
    | some zs =>
      obtain ⟨_, o2, vs, e1, e2, _⟩ := g.ce a zs q
      rw [h3] at e1
      cases e1
      rw [hol_chg e2] at ne
      cases ne
  rcases h with (h | ⟨o, h⟩) | h
  · exact .inl (.inl (at' _ h rfl))
  · exact .inl (.inr ⟨o, at' _ h rfl⟩)
  · exact .inr h
mutual
theorem rp_hid (g : Good K S B μ H) : ∀ {d : PyData} {v : V}, noLst d = true → Rp K (off B emp H) v d → Rp K (off B μ H) v d
  | .none, _, _, r => by cases r; exact .non
  | .bool _, _, _, r => by cases r; exact .bl _
  | .int _, _, _, r => by cases r; exact .int _
  | .str _, _, _, r => by cases r; exact .str _
  | .list _, _, h, _ => by cases h
  | .dict _, _, h, _ => by cases h
  | .tuple ds, _, h, r => by
    cases r with
    | tup h1 h2 => exact .tup (rd_hid g h1) (rps_hid g h h2)
theorem rps_hid (g : Good K S B μ H) : ∀ {ds : List PyData} {vs : List V}, noLsts ds = true → Rps K (off B emp H) vs ds → Rps K (off B μ H) vs ds
  | [], _, _, r => by cases r; exact .nil
  | d :: ds, _, h, r => by
    have h : (noLst d && noLsts ds) = true := h
    rw [Bool.and_eq_true] at h
    cases r with
    | cons h1 h2 => exact .cons (rp_hid g h.1 h1) (rps_hid g h.2 h2)
end
end
def wCallN (F : FS) (u : WA) : WE := fun ρ μ Q => u ρ μ fun as => ∃ bs, rsvs2 μ as = some bs ∧ F bs fun d => noLst d = true ∧ Q (.dat d)
theorem ve_callN {X : Cx} {xl : XLT X.K} {k : Nat} {f : Addr} {fd : FuncData} {ps : List Str} {fr : Bool} {F : FS} {x : Str} {p pos : Pos} {e : Expr} {es : List Expr} {u : WA} (G : FnOk X.prog X.w X.K X.mg X.base CX0 k f fd ps (spD X.K fr F)) (hr : Room k X.A) (hg : Gl X x) (hm : X.mg x = some (.ref f)) (hk : PySem.W.keepIn X.K (.ref f) = true) (hb : Binds X.K fd ps []) (ha : VA X xl (e :: es) u)
    (hdb : (x == ("__debug__" : Str)) = false := by decide) (he : starEach (e :: es) X.env = (false, eval e X.env) :: starEach es X.env := by rfl) (hpl : (backTo pos (starEach es X.env)).any (·.1) = false := by rfl) : VE X xl (.Call (.Name x p) (e :: es) [] pos) (wCallN F u) := by
  refine pe_weak (pe_call G hr hg hm hk hb .nil (E := E0) pass0 ha hdb he hpl) fun σ H Q ⟨S, B, ρ, μ, Q2, st, w, k⟩ => ⟨S, B, ρ, μ, _, st, w, fun vs H1 as e1 g1 rs q1 => ?_⟩
  show spD X.K fr F (vs ++ []) H1 Q E0
  rw [List.append_nil]
  obtain ⟨bs, hbs, hF⟩ := q1
  refine ⟨S, B, bs, _, g1.open, ras_rsv2 g1 rs hbs, hF, fun v H2 d ex g2 r n q => ?_⟩
  have g3 := g1.step ex g2
  exact k v H2 _ (e1.trans ex) g3 (.dat (rp_hid g3 q.1 r)) q.2
theorem ev_callN {ρ : Rho} {μ : Mem} {F : FS} {u : WA} {as bs : List A} {d : PyData} (h : EvAs u ρ μ as) (hb : rsvs2 μ as = some bs) (hd : noLst d = true) (hF : ∀ Q : PyData → Prop, Q d → F bs Q) : Evs (wCallN F u) ρ μ (.dat d) := fun Q q => h _ ⟨bs, hb, hF _ ⟨hd, q⟩⟩
/-! ### lines -/
def Say.k (s : Say) : List Key := [.inr s.word.s, .inl s.work, .inl s.num]
theorem Say.kT (s : Say) : keyT s.k = s.e := rfl
def lineK (ss : List Say) : List (List Key) := ordK (ss.map Say.k)
def lineE (ss : List Say) : PyData := .tuple ((lineK ss).map keyT)
def Fordered : FS := fun as Q => ∃ ss : List Say, as = [.dat (.list (ss.map Say.e))] ∧ ss.length ≤ 63 ∧ Q (lineE ss)
def Fline : FS := fun as Q => ∃ (y : Yard) (ss : List Say), as = [.dat y.e, .dat (.list (ss.map Say.e))] ∧ y.ok ∧ (∀ s ∈ ss, s.ok y) ∧ ss.length ≤ 63 ∧ Q (lineE ss)
theorem alike_says (ss : List Say) : AlikeK (ss.map Say.k) := fun k hk k' hk' => by
  obtain ⟨s, _, rfl⟩ := List.mem_map.mp hk
  obtain ⟨s', _, rfl⟩ := List.mem_map.mp hk'
  rfl
theorem ne_says (ss : List Say) : ∀ k ∈ ss.map Say.k, k ≠ [] := fun k hk => by
  obtain ⟨s, _, rfl⟩ := List.mem_map.mp hk
  exact fun z => nomatch z
theorem map_kT (ss : List Say) : (ss.map Say.k).map keyT = ss.map Say.e := by rw [List.map_map]; rfl
theorem once_len : ∀ l : List (List Key), (onceK l).length ≤ l.length
  | [] => Nat.le_refl _
  | x :: l => by
    unfold onceK
    have := once_len l
    split
    · exact Nat.le_succ_of_le this
    · exact Nat.succ_le_succ this
theorem line_says (ss : List Say) : ∃ ts : List Say, lineK ss = ts.map Say.k ∧ (∀ t ∈ ts, t ∈ ss) ∧ ts.length ≤ ss.length ∧ lineK ts = lineK ss := by
  have key : ∀ l : List (List Key), (∀ k ∈ l, k ∈ ss.map Say.k) → ∃ ts : List Say, l = ts.map Say.k ∧ ∀ t ∈ ts, t ∈ ss := by
    intro l
    induction l with
    | nil => exact fun _ => ⟨[], rfl, fun _ z => nomatch z⟩
    | cons x l ih =>
      intro h
      obtain ⟨ts, e1, e2⟩ := ih fun k hk => h k (by simp [hk])
      obtain ⟨s, hs, rfl⟩ := List.mem_map.mp (h x (by simp))
      refine ⟨s :: ts, by rw [e1]; rfl, fun t ht => ?_⟩
      rcases List.mem_cons.mp ht with rfl | ht
      · exact hs
      · exact e2 t ht
  obtain ⟨ts, e1, e2⟩ := key (lineK ss) fun k hk => ord_mem.mp hk
  refine ⟨ts, e1, e2, ?_, ?_⟩
  · have h1 : (lineK ss).length ≤ (ss.map Say.k).length := by unfold lineK ordK; rw [List.length_mergeSort]; exact once_len _
    rw [e1, List.length_map, List.length_map] at h1
    exact h1
  · unfold lineK
    refine ord_congr fun k => ?_
    rw [← e1]
    exact ord_mem
theorem line_congr {ss ts : List Say} (h : ∀ s, s ∈ ss ↔ s ∈ ts) : lineK ss = lineK ts := ord_congr fun k => by
  rw [List.mem_map, List.mem_map]
  exact ⟨fun ⟨s, h1, h2⟩ => ⟨s, (h s).mp h1, h2⟩, fun ⟨s, h1, h2⟩ => ⟨s, (h s).mpr h1, h2⟩⟩
theorem noLst_says : ∀ ts : List Say, noLsts (ts.map Say.e) = true
  | [] => rfl
  | t :: ts => by
    show (noLst t.e && noLsts (ts.map Say.e)) = true
    rw [noLst_says ts]
    rfl
theorem noLst_line (ss : List Say) : noLst (lineE ss) = true := by
  obtain ⟨ts, e, _⟩ := line_says ss
  unfold lineE
  rw [e, map_kT]
  exact noLst_says ts
/-! ### l[::-1] -/
theorem rps_rev {K : PySem.W.Frag} {G : Hp} {xs : List V} {ds : List PyData} (h : Rps K G xs ds) : Rps K G xs.reverse ds.reverse := by
  have app : ∀ {xs ys : List V} {ds es : List PyData}, Rps K G xs ds → Rps K G ys es → Rps K G (xs ++ ys) (ds ++ es) := by
    intro xs
    induction xs with
    | nil => intro ys ds es h1 h2; cases h1; exact h2
    | cons x xs ih =>
      intro ys ds es h1 h2
      cases h1 with
      | cons a b => exact .cons a (ih b h2)
  induction xs generalizing ds with
  | nil => cases h; exact .nil
  | cons x xs ih =>
    cases h with
    | cons a b =>
      rw [List.reverse_cons, List.reverse_cons]
      exact app (ih b) (.cons a .nil)
def wRevL (w : WE) : WE := fun ρ μ Q => w ρ μ fun a => match a with | .dat (.list ds) => Q (.dat (.list ds.reverse)) | _ => False
theorem vf_revL {X : Cx} {xl : XLT X.K} {e : Expr} {w : WE} {k : Nat} {p1 p2 p3 pos : Pos} (he : VE X xl e w) : VF X xl (.Subscript e (.Slice none none (some (.UnaryOp .USub (.Constant (.int 1) k p1) p2)) p3) pos) (wRevL w) := by
  refine pe_weak (pe_revL he) fun σ H Q ⟨S, B, ρ, μ, Q2, st, w, k⟩ => ⟨S, B, ρ, μ, _, st, w, fun v H1 a e1 g1 ra q1 => ?_⟩
  cases ra with
  | dat r =>
    cases r with
    | @lst a xs ds h1 h2 =>
      refine ⟨a, xs, rfl, SqL.of (off_same _ _ h1), fun p np => ?_⟩
      obtain ⟨b1, b2⟩ := g1.free np
      exact k _ _ _ (e1.trans (.new np)) (g1.new np) (.dat (.lst (off_upd b1 b2) (rps_rev (h2.mono ((Ex.new np).off g1) _ _)))) (fun z _ e _ => by cases e; exact e1.dom _ np) q1
    | _ => exact q1.elim
  | _ => exact q1.elim
theorem ev_revL {ρ : Rho} {μ : Mem} {w : WE} {ds : List PyData} (h : Evs w ρ μ (.dat (.list ds))) : Evs (wRevL w) ρ μ (.dat (.list ds.reverse)) := fun Q q => h _ q
end Hv

set_option Elab.async false
set_option linter.all false
set_option maxRecDepth 100000
/-! sorted(l) of tuples of texts and numbers, by values -/
namespace Hv
open PySem PySem.Spec PyProof.Rows L2 Hod
def rSortLK (K : PySem.W.Frag) : List V → Hp → VK → Prop := fun vs H Q => ∃ (l : Addr) (ks : List (Addr × List Key)), vs = [V.ref l] ∧ SqL K H l (ks.map fun p => V.ref p.1) ∧ (∀ p ∈ ks, SqT K H p.1 (p.2.map kV)) ∧ (∀ p ∈ ks, p.2 ≠ []) ∧ (∀ p ∈ ks, ∀ q ∈ ks, PySem.W.alike (keyT p.2) (keyT q.2) = true) ∧ ks.length ≤ 1000 ∧
  ∀ b, H b = none → Q (.ref b) (upd H b (.lst ((ks.mergeSort (PySem.W.dataLe false encK)).map fun p => V.ref p.1)))
theorem cr_sortLK {X : Cx} (hu : X.A.units + 64 < cLine) : CallR X (.builtin "sorted") (rSortLK X.K) := by
  intro pins s σ H vs us Q I r h
  obtain ⟨l, ks, rfl, hl, hk, hne, hal, hn, q⟩ := h
  rw [Vals.ref1 r]
  obtain ⟨its, rv, pl, hz⟩ := I.list hl
  have ei : its = ks.map fun p => Value.ref p.1 := refs_vals rv
  subst ei
  refine PySem.W.sorted_data (R := fun v p => v = Value.ref p.1) (enc := encK) (bs := ks) pl.isList (each_refs ks fun _ _ => rfl) (each_refs ks fun p hp => ⟨[], reads_key (P := X.prog) (w := X.w) (inv_key I (hk p hp))⟩) (fun d hd d' hd' => ?_) (.inl fun d hd => ?_) (by rw [sizeLine_eq]; omega) (fun p hp => ?_) fun out hlen eo => ?_
  · obtain ⟨p, hp, rfl⟩ := List.mem_map.mp hd
    obtain ⟨p2, hp2, rfl⟩ := List.mem_map.mp hd'
    exact hal p hp p2 hp2
  · obtain ⟨p, hp, rfl⟩ := List.mem_map.mp hd
    cases e : p.2 with
    | nil => exact absurd e (hne p hp)
    | cons x r => exact ⟨kD x, r.map kD, by unfold encK keyT; rw [e]; rfl⟩
  · show X.A.units + 2 + (keyT p.2).depth < cLine
    unfold keyT PyData.depth
    rw [depth_kD]
    omega
  · have eo2 : out = (ks.mergeSort (PySem.W.dataLe false encK)).map fun p => Value.ref p.1 := refs_each eo
    obtain ⟨c, hc⟩ := sortedAll_at s.heap (ks.map fun p => Value.ref p.1) out.toArray
    have hv : Vals ((ks.mergeSort (PySem.W.dataLe false encK)).map fun p => V.ref p.1) out.toArray.toList := by
      rw [List.toList_toArray, eo2]
      exact vals_refs _
    have ln : ((ks.mergeSort (PySem.W.dataLe false encK)).map fun p => V.ref p.1).length ≤ sizeLine := by rw [List.length_map, List.length_mergeSort, sizeLine_eq]; omega
    generalize out.toArray = ou at hc hv ⊢
    exact ⟨.ref (s.heap.objs.size + 1), upd H (s.heap.objs.size + 1) (.lst ((ks.mergeSort (PySem.W.dataLe false encK)).map fun p => V.ref p.1)), I.laid (t' := s.toks) (fun _ _ => sortedAll_old) (Nat.le_succ _) ⟨ln, ou.toList, c, hv, hc⟩, rfl, q _ (I.hok.fresh (Nat.le_succ _))⟩
def gSortK : GC := fun μ as Q => match as with
  | [.dat (.list ds)] => ∃ kss : List (List Key), ds = kss.map keyT ∧ kss.length ≤ 1000 ∧ (∀ k ∈ kss, k ≠ []) ∧ AlikeK kss ∧ Q (.dat (.list ((kss.mergeSort leK).map keyT)))
  | _ => False
/-- sorted(l) as a built-in of values: in gen2's table of built-ins -/
theorem c_sortK {K : PySem.W.Frag} : CW K (rSortLK K) gSortK := fun S B xs H μ as Q Q2 gd rs q k => by
  cases rs with
  | nil => exact q.elim
  | @cons v vs a as r rs =>
    cases rs with
    | cons _ _ => cases a <;> first | exact q.elim | (rename_i d; cases d <;> exact q.elim)
    | nil =>
      cases r with
      | dat r =>
        cases r with
        | @lst a xs ds h1 h2 =>
          obtain ⟨kss, rfl, hl, hne, hal, q2⟩ := q
          obtain ⟨ks, rfl, e2, e3⟩ := rps_keys h2
          have mk : ∀ p ∈ ks, p.2 ∈ kss := fun p hp => by rw [← e2]; exact List.mem_map.mpr ⟨p, hp, rfl⟩
          refine ⟨a, ks, rfl, SqL.of (off_same _ _ h1), fun p hp => sqt_same off_same (e3 p hp), fun p hp => hne _ (mk p hp), fun p hp q hq => hal _ (mk p hp) _ (mk q hq), by rw [← e2, List.length_map] at hl; exact hl, fun b nb => ?_⟩
          obtain ⟨b1, b2⟩ := gd.free nb
          have x3 : Ex S H (upd H b (.lst ((ks.mergeSort (PySem.W.dataLe false encK)).map fun p => V.ref p.1))) := .new nb
          have perm2 := List.mergeSort_perm ks (PySem.W.dataLe false encK)
          have ek : (ks.mergeSort (PySem.W.dataLe false encK)).map Prod.snd = kss.mergeSort leK := by
            rw [← e2]
            exact PySem.W.sort_maps Prod.snd fun _ _ _ _ => rfl
          refine k _ _ _ x3 (gd.new nb) (.dat (.lst (off_upd b1 b2) ?_)) (fun z _ e _ => by cases e; exact nb) q2
          rw [← ek]
          exact keys_rps fun p hp => sqt_same (x3.off gd) (e3 p (perm2.mem_iff.mp hp))
        | _ => exact q.elim
      | _ => exact q.elim
theorem ev_sortK {ρ : Rho} {μ : Mem} {w : WE} {kss : List (List Key)} (h : Evs w ρ μ (.dat (.list (kss.map keyT)))) (hl : kss.length ≤ 1000) (hne : ∀ k ∈ kss, k ≠ []) (hal : AlikeK kss) : Evs (wCB gSortK (waCons w waNil)) ρ μ (.dat (.list ((kss.mergeSort leK).map keyT))) := fun Q q => h _ ⟨kss, rfl, hl, hne, hal, q⟩
/-- a list without twins, sorted, is its line -/
theorem sort_ord {l : List (List Key)} (h : l.Nodup) : l.mergeSort leK = ordK l := ord_one (PySem.W.sort_pairwise leK_total _) ((List.mergeSort_perm _ _).nodup_iff.mpr h) fun k => (List.mergeSort_perm _ _).mem_iff
end Hv

set_option Elab.async false
set_option linter.all false
set_option maxRecDepth 100000
/-! a star in a display, by values -/
namespace Hv
open PySem PySem.Spec PyProof.Rows L2 Hod
def datsOf : A → Option (List PyData)
  | .dat (.list ds) => some ds
  | .dat (.tuple ds) => some ds
  | _ => none
def waStar (w : WE) (u : WA) : WA := fun ρ μ Q => w ρ μ fun a => match datsOf a with | some ds => u ρ μ fun as => Q (ds.map .dat ++ as) | none => False
theorem ras_dats {K : PySem.W.Frag} {S : Hs} {μ : Mem} {G : Hp} : ∀ {xs : List V} {ds : List PyData}, Rps K G xs ds → Ras K S μ G xs (ds.map .dat)
  | _, _, .nil => .nil
  | _, _, .cons h t => .cons (.dat h) (ras_dats t)
theorem va_star {X : Cx} {xl : XLT X.K} {e : Expr} {es : List Expr} {p : Pos} {we : WE} {u : WA} (ha : VE X xl e we) (hr : VA X xl es u) (hs : starEach (.Starred e p :: es) X.env = (true, eval e X.env) :: starEach es X.env := by rfl) : VA X xl (.Starred e p :: es) (waStar we u) := by
  refine pa_weak (StX.pa_star ha hr hs) fun σ H Q ⟨S, B, ρ, μ, Q2, st, w, k⟩ => ?_
  refine ⟨S, B, ρ, μ, _, st, w, fun v H1 a e1 g1 ra q1 => ?_⟩
  have fin : ∀ (b : Addr) (xs : List V) (ds : List PyData), v = .ref b → (SqT X.K H1 b xs ∨ SqL X.K H1 b xs) → Rps X.K (off B μ H1) xs ds → (u ρ μ fun as => Q2 (ds.map .dat ++ as)) → ∃ p xs, v = V.ref p ∧ (SqT X.K H1 p xs ∨ SqL X.K H1 p xs) ∧ LA X.K xl u σ H1 fun ys H2 => Q (xs ++ ys) H2 := fun b xs ds ev sq rp q => ⟨b, xs, ev, sq, S, B, ρ, μ, _, st.ex e1 g1, q, fun vs H2 as e2 g2 rs q2 => k _ H2 _ (e1.trans e2) g2 (((ras_dats rp).mono (e2.off g1)).app rs) q2⟩
  cases ra with
  | dat r =>
    cases r with
    | @lst b xs ds h1 h2 => exact fin b xs ds rfl (.inr (SqL.of (off_same _ _ h1))) h2 q1
    | @tup b xs ds h1 h2 => exact fin b xs ds rfl (.inl (sqt_same off_same h1)) h2 q1
    | _ => exact q1.elim
  | _ => exact q1.elim
theorem ea_star {ρ : Rho} {μ : Mem} {w : WE} {u : WA} {a : A} {ds : List PyData} {as : List A} (h : Evs w ρ μ a) (hd : datsOf a = some ds) (h2 : EvAs u ρ μ as) : EvAs (waStar w u) ρ μ (ds.map .dat ++ as) := fun Q q => h _ (by
  show (match datsOf a with | some ds => u ρ μ fun as => Q (ds.map .dat ++ as) | none => False)
  rw [hd]
  exact h2 _ q)
end Hv

set_option Elab.async false
set_option linter.all false
set_option maxRecDepth 100000
namespace Hv
open PySem PySem.Spec PyProof.Rows L2 Hod
/-! ### plans of any numbers, and what they break first -/
def okw (y : Yard) (k : Nat) (q : Int × Int) : Bool := match y.works[k]? with
  | some v => decide (v.low ≤ q.1) && decide (q.1 < v.high) && (y.at? k q).isSome
  | none => false
def okAt (y : Yard) (pl : List (Int × Int)) (k : Nat) : Bool := match pl[k]? with | some q => okw y k q | none => false
theorem okw_get {y : Yard} {k : Nat} {q : Int × Int} (h : okw y k q = true) : ∃ v w l, y.works[k]? = some v ∧ v.low ≤ q.1 ∧ q.1 < v.high ∧ y.at? k q = some (w, l) := by
  unfold okw at h
  cases hv : y.works[k]? with
  | none => rw [hv] at h; cases h
  | some v =>
    rw [hv] at h
    have h : (decide (v.low ≤ q.1) && decide (q.1 < v.high) && (y.at? k q).isSome) = true := h
    rw [Bool.and_eq_true, Bool.and_eq_true] at h
    obtain ⟨⟨w, l⟩, e⟩ := Option.isSome_iff_exists.mp h.2
    exact ⟨v, w, l, rfl, of_decide_eq_true h.1.1, of_decide_eq_true h.1.2, e⟩
theorem okAt_of {y : Yard} {pl : List (Int × Int)} {k : Nat} {q : Int × Int} (hq : pl[k]? = some q) : okAt y pl k = okw y k q := by unfold okAt; rw [hq]
theorem within_of {y : Yard} {pl : List (Int × Int)} (hl : pl.length = y.works.length) (h : ∀ k, k < pl.length → okAt y pl k = true) : Within y pl := by
  refine ⟨⟨hl, fun k q hq => ?_⟩, fun k q v hq hv => ?_⟩
  · have := h k (lt_of_get hq)
    rw [okAt_of hq] at this
    obtain ⟨_, w, l, _, _, _, e⟩ := okw_get this
    exact ⟨w, l, e⟩
  · have := h k (lt_of_get hq)
    rw [okAt_of hq] at this
    obtain ⟨v2, _, _, e1, e2, e3, _⟩ := okw_get this
    rw [hv] at e1
    cases e1
    exact ⟨e2, e3⟩
def BrkAns (y : Yard) (pl : List (Int × Int)) (d : PyData) : Prop :=
  (∃ k : Nat, k < pl.length ∧ okAt y pl k = false ∧ (∀ j, j < k → okAt y pl j = true) ∧ d = .tuple [.str "work", .int k]) ∨
  ((∀ k, k < pl.length → okAt y pl k = true) ∧
    ((∃ (k : Nat) (t : Tie), y.ties[k]? = some t ∧ y.bad pl t = true ∧ (∀ (j : Nat) (u : Tie), j < k → y.ties[j]? = some u → y.bad pl u = false) ∧ d = .tuple [.str "tie", .int k]) ∨
    ((∀ t ∈ y.ties, y.bad pl t = false) ∧
      ((∃ s e : Nat, s < y.stuffs.length ∧ (e : Int) < y.days ∧ y.over pl s e = true ∧ (∀ s2 d2 : Nat, s2 < s → (d2 : Int) < y.days → y.over pl s2 d2 = false) ∧ (∀ d2 : Nat, d2 < e → y.over pl s d2 = false) ∧ d = .tuple [.str "stuff", .int s, .int e]) ∨
      ((∀ s e : Nat, s < y.stuffs.length → (e : Int) < y.days → y.over pl s e = false) ∧ d = .none)))))
theorem ft {b : Bool} (h : b = true) (h2 : b = false) : False := by rw [h] at h2; cases h2
theorem brk_one {y : Yard} {pl : List (Int × Int)} {d d2 : PyData} (h : BrkAns y pl d) (h2 : BrkAns y pl d2) : d = d2 := by
  rcases h with ⟨k, a1, a2, a3, rfl⟩ | ⟨a, h⟩
  · rcases h2 with ⟨k2, b1, b2, b3, rfl⟩ | ⟨b, _⟩
    · have : k = k2 := by
        rcases Nat.lt_trichotomy k k2 with z | z | z
        · exact (ft (b3 k z) a2).elim
        · exact z
        · exact (ft (a3 k2 z) b2).elim
      rw [this]
    · exact (ft (b k a1) a2).elim
  · rcases h2 with ⟨k2, b1, b2, b3, rfl⟩ | ⟨b, h2⟩
    · exact (ft (a k2 b1) b2).elim
    · rcases h with ⟨k, t, c1, c2, c3, rfl⟩ | ⟨c, h⟩
      · rcases h2 with ⟨k2, t2, e1, e2, e3, rfl⟩ | ⟨e, _⟩
        · have : k = k2 := by
            rcases Nat.lt_trichotomy k k2 with z | z | z
            · exact (ft c2 (e3 k t z c1)).elim
            · exact z
            · exact (ft e2 (c3 k2 t2 z e1)).elim
          rw [this]
        · exact (ft c2 (e t (List.mem_of_getElem? c1))).elim
      · rcases h2 with ⟨k2, t2, e1, e2, e3, rfl⟩ | ⟨e, h2⟩
        · exact (ft e2 (c t2 (List.mem_of_getElem? e1))).elim
        · rcases h with ⟨s, x, f1, f2, f3, f4, f5, rfl⟩ | ⟨f, rfl⟩
          · rcases h2 with ⟨s2, x2, g1, g2, g3, g4, g5, rfl⟩ | ⟨g, _⟩
            · have es : s = s2 := by
                rcases Nat.lt_trichotomy s s2 with z | z | z
                · exact (ft f3 (g4 s x z f2)).elim
                · exact z
                · exact (ft g3 (f4 s2 x2 z g2)).elim
              subst es
              have ex : x = x2 := by
                rcases Nat.lt_trichotomy x x2 with z | z | z
                · exact (ft f3 (g5 x z)).elim
                · exact z
                · exact (ft g3 (f5 x2 z)).elim
              rw [ex]
            · exact (ft f3 (g s x f1 f2)).elim
          · rcases h2 with ⟨s2, x2, g1, g2, g3, g4, g5, rfl⟩ | ⟨g, rfl⟩
            · exact (ft g3 (f s2 x2 g1 g2)).elim
            · rfl
/-- nothing is broken -/
def Clean (y : Yard) (pl : List (Int × Int)) : Prop := (∀ k, k < pl.length → okAt y pl k = true) ∧ (∀ t ∈ y.ties, y.bad pl t = false) ∧ (∀ s e : Nat, s < y.stuffs.length → (e : Int) < y.days → y.over pl s e = false)
theorem brk_none {y : Yard} {pl : List (Int × Int)} {d : PyData} (h : BrkAns y pl d) : isNoneA (.dat d) = true ↔ Clean y pl := by
  constructor
  · intro z
    rcases h with ⟨k, a1, a2, a3, rfl⟩ | ⟨a, h⟩
    · cases z
    · rcases h with ⟨k, t, c1, c2, c3, rfl⟩ | ⟨c, h⟩
      · cases z
      · rcases h with ⟨s, x, f1, f2, f3, f4, f5, rfl⟩ | ⟨f, rfl⟩
        · cases z
        · exact ⟨a, c, f⟩
  · rintro ⟨a, c, f⟩
    rw [brk_one h (.inr ⟨a, .inr ⟨c, .inr ⟨f, rfl⟩⟩⟩)]
    rfl
/-! ### all plans, as the law goes through them -/
theorem go_day {y : Yard} {w : Way} {b : Int} {l : List Int} (h : y.go w b = some l) : ∀ d ∈ l, b ≤ d ∧ d < y.days := by
  intro d hd
  rw [go_some h] at hd
  have h2 := List.mem_of_mem_take hd
  unfold free at h2
  have h3 := mem_rngI.mp (List.mem_filter.mp h2).1
  omega
theorem up_nodup : ∀ {l : List Int}, Up l → l.Nodup
  | [], _ => List.nodup_nil
  | x :: l, h => List.nodup_cons.mpr ⟨fun z => by have := h.1 x z; omega, up_nodup h.2⟩
theorem go_nodup {y : Yard} {u : Way} {b : Int} {l : List Int} (h : y.go u b = some l) : l.Nodup := by
  rw [go_some h]
  exact (up_nodup (up_free _ _ _)).sublist (List.take_sublist _ _)
theorem count_one : ∀ {l : List Int} {d : Int}, l.Nodup → d ∈ l → l.count d = 1
  | x :: l, d, nd, h => by
    have h2 := List.nodup_cons.mp nd
    by_cases e : x = d
    · subst e
      rw [List.count_cons_self, List.count_eq_zero_of_not_mem h2.1]
    · rw [List.count_cons_of_ne e]
      rcases List.mem_cons.mp h with z | z
      · exact absurd z.symm e
      · exact count_one h2.2 z
def fits (y : Yard) (w : Way) (l : List Int) (s : Nat) : Bool := l.all fun d => decide (w.needs.getD s 0 ≤ (y.stuffs.getD s []).getD d.toNat 0)
def alone (y : Yard) (w : Way) (b cap : Int) : Bool := match y.go w b with
  | some l => (match l.getLast? with | some z => !decide (z ≥ cap) && ((List.range w.needs.length).map (fits y w l)).all id | none => false)
  | none => false
def wayAt (v : Wrk) (m : Nat) : Way := v.ways.getD m ⟨0, 0, []⟩
def pairsD (y : Yard) (v : Wrk) (cap b : Int) : List (Int × Int) := ((List.range v.ways.length).filter fun m => alone y (wayAt v m) b cap).map fun (m : Nat) => (b, (m : Int))
def pairsV (y : Yard) (v : Wrk) (cap : Int) (n : Nat) : List (Int × Int) := (rngI v.low n).flatMap (pairsD y v cap)
def pairsL (y : Yard) (k : Nat) : List (Int × Int) := match y.works[k]? with | some v => pairsV y v y.days (v.high - v.low).toNat | none => []
def daysAt (y : Yard) (c : List (Int × Int)) (m : Nat) : List Int := match (c[m]?).bind (y.at? m) with | some (_, l) => l | none => []
def fitsB (y : Yard) (c : List (Int × Int)) : Bool := (y.ties.all fun t => !(decide (max t.one t.other = ((c.length - 1 : Nat) : Int)) && y.bad c t)) && (List.range y.stuffs.length).all fun s => (daysAt y c (c.length - 1)).all fun d => decide (y.sums c c.length s d.toNat ≤ (y.stuffs.getD s []).getD d.toNat 0)
def coursesL (y : Yard) : Nat → List (List (Int × Int))
  | 0 => [[]]
  | k + 1 => (coursesL y k).flatMap fun c => ((pairsL y k).filter fun q => fitsB y (c ++ [q])).map fun q => c ++ [q]
theorem mem_courses {y : Yard} : ∀ {n : Nat} {c : List (Int × Int)}, c ∈ coursesL y n ↔ c.length = n ∧ ∀ j, j < n → ∃ q, c[j]? = some q ∧ q ∈ pairsL y j ∧ fitsB y (c.take (j + 1)) = true
  | 0, c => by
    unfold coursesL
    rw [List.mem_singleton]
    exact ⟨fun h => ⟨by rw [h]; rfl, fun j hj => absurd hj (Nat.not_lt_zero _)⟩, fun h => List.eq_nil_of_length_eq_zero h.1⟩
  | n + 1, c => by
    unfold coursesL
    rw [List.mem_flatMap]
    constructor
    · rintro ⟨c0, hc0, hc⟩
      obtain ⟨q, hq, rfl⟩ := List.mem_map.mp hc
      obtain ⟨hq1, hq2⟩ := List.mem_filter.mp hq
      obtain ⟨hl, hall⟩ := mem_courses.mp hc0
      refine ⟨by rw [List.length_append, hl]; rfl, fun j hj => ?_⟩
      by_cases hjn : j < n
      · obtain ⟨r, r1, r2, r3⟩ := hall j hjn
        exact ⟨r, by rw [List.getElem?_append_left (by omega)]; exact r1, r2, by rw [List.take_append_of_le_length (by omega)]; exact r3⟩
      · have e : j = n := by omega
        subst e
        exact ⟨q, by rw [List.getElem?_append_right (by omega), hl, Nat.sub_self]; rfl, hq1, by rw [List.take_of_length_le (by rw [List.length_append, hl]; exact Nat.le_refl _)]; exact hq2⟩
    · rintro ⟨hl, hall⟩
      obtain ⟨q, q1, q2, q3⟩ := hall n (Nat.lt_succ_self n)
      have hc : c = c.take n ++ [q] := by
        have h1 : c.take (n + 1) = c := List.take_of_length_le (by omega)
        have h2 : c.take (n + 1) = c.take n ++ [q] := by rw [List.take_add_one, q1]; rfl
        exact h1.symm.trans h2
      refine ⟨c.take n, mem_courses.mpr ⟨by rw [List.length_take]; omega, fun j hj => ?_⟩, List.mem_map.mpr ⟨q, List.mem_filter.mpr ⟨q2, ?_⟩, hc.symm⟩⟩
      · obtain ⟨r, r1, r2, r3⟩ := hall j (by omega)
        exact ⟨r, by rw [List.getElem?_take_of_lt hj]; exact r1, r2, by rw [List.take_take, Nat.min_eq_left (by omega)]; exact r3⟩
      · rw [List.take_of_length_le (by omega)] at q3
        rw [← hc]
        exact q3
/-! a plan and its first works -/
theorem part_take {y : Yard} {pl : List (Int × Int)} {n k s d : Nat} (h : k < n) : y.part (pl.take n) k s d = y.part pl k s d := by
  unfold Yard.part
  rw [List.getElem?_take_of_lt h]
theorem sums_take {y : Yard} {pl : List (Int × Int)} {n m s d : Nat} (h : m ≤ n) : y.sums (pl.take n) m s d = y.sums pl m s d := by
  unfold Yard.sums
  congr 1
  exact List.map_congr_left fun k hk => part_take (Nat.lt_of_lt_of_le (List.mem_range.mp hk) h)
theorem endAt_take {y : Yard} {pl : List (Int × Int)} {n k : Nat} (h : k < n) : y.endAt (pl.take n) k = y.endAt pl k := by
  unfold Yard.endAt
  rw [List.getElem?_take_of_lt h]
theorem bad_take {y : Yard} {pl : List (Int × Int)} {n : Nat} {t : Tie} (h1 : t.one.toNat < n) (h2 : t.other.toNat < n) : y.bad (pl.take n) t = y.bad pl t := by
  unfold Yard.bad
  rw [endAt_take h1, List.getD, List.getD, List.getD, List.getD, List.getElem?_take_of_lt h1, List.getElem?_take_of_lt h2]
theorem part_nonneg {y : Yard} (ho : y.ok) {pl : List (Int × Int)} {k s d : Nat} : 0 ≤ y.part pl k s d := by
  unfold Yard.part
  split
  · rename_i w l h
    cases hq : pl[k]? with
    | none => rw [hq] at h; cases h
    | some q =>
      rw [hq] at h
      have ok := ho.way (at_get h).2.1
      refine Int.mul_nonneg ?_ (Int.natCast_nonneg _)
      by_cases hs : s < w.needs.length
      · have := ok.nf (w.needs[s]) (List.getElem_mem hs)
        rw [List.getD, List.getElem?_eq_getElem hs]
        exact this.1
      · rw [List.getD, List.getElem?_eq_none (by omega)]
        exact Int.le_refl _
  · exact Int.le_refl _
theorem sums_mono {y : Yard} (ho : y.ok) {pl : List (Int × Int)} {s d : Nat} : ∀ {m n : Nat}, m ≤ n → y.sums pl m s d ≤ y.sums pl n s d := by
  intro m n h
  induction n with
  | zero => rw [Nat.le_zero.mp h]; exact Int.le_refl _
  | succ n ih =>
    by_cases e : m = n + 1
    · rw [e]; exact Int.le_refl _
    · have := ih (by omega)
      have := part_nonneg ho (pl := pl) (k := n) (s := s) (d := d)
      rw [sums_succ]
      omega
theorem part_le {y : Yard} (ho : y.ok) {pl : List (Int × Int)} {k n s d : Nat} (h : k < n) : y.part pl k s d ≤ y.sums pl n s d := by
  have h1 := sums_mono ho (pl := pl) (s := s) (d := d) (m := k + 1) (n := n) h
  have h2 := sums_mono ho (pl := pl) (s := s) (d := d) (m := 0) (n := k) (Nat.zero_le _)
  have h3 : y.sums pl 0 s d = 0 := rfl
  rw [sums_succ] at h1
  omega
theorem part_at {y : Yard} {pl : List (Int × Int)} {k s d : Nat} {q : Int × Int} {w : Way} {l : List Int} (hq : pl[k]? = some q) (ha : y.at? k q = some (w, l)) : y.part pl k s d = w.needs.getD s 0 * (l.count (d : Int) : Nat) := by
  unfold Yard.part
  rw [hq]
  show (match y.at? k q with | some (w, l) => _ | none => _) = _
  rw [ha]
theorem mem_pairs {y : Yard} {k : Nat} {v : Wrk} {q : Int × Int} (hv : y.works[k]? = some v) : q ∈ pairsL y k ↔ v.low ≤ q.1 ∧ q.1 < v.high ∧ ∃ m : Nat, q.2 = m ∧ m < v.ways.length ∧ alone y (wayAt v m) q.1 y.days = true := by
  unfold pairsL
  rw [hv]
  show q ∈ (rngI v.low (v.high - v.low).toNat).flatMap (pairsD y v y.days) ↔ _
  rw [List.mem_flatMap]
  constructor
  · rintro ⟨b, hb, hq⟩
    have hb := mem_rngI.mp hb
    obtain ⟨m, hm, rfl⟩ := List.mem_map.mp hq
    obtain ⟨m1, m2⟩ := List.mem_filter.mp hm
    exact ⟨by show v.low ≤ b; omega, by show b < v.high; omega, m, rfl, List.mem_range.mp m1, m2⟩
  · rintro ⟨h1, h2, m, h3, h4, h5⟩
    refine ⟨q.1, mem_rngI.mpr (by omega), List.mem_map.mpr ⟨m, List.mem_filter.mpr ⟨List.mem_range.mpr h4, h5⟩, ?_⟩⟩
    rw [← h3]
theorem way_of {y : Yard} {k m : Nat} {v : Wrk} (hv : y.works[k]? = some v) (hm : m < v.ways.length) : y.way? k m = some (wayAt v m) := by
  unfold Yard.way? wayAt
  rw [hv]
  show v.ways[m]? = some (v.ways.getD m _)
  rw [List.getD, List.getElem?_eq_getElem hm]
  rfl
theorem at_of {y : Yard} {k m : Nat} {w : Way} {b : Int} {l : List Int} (hw : y.way? k m = some w) (b0 : 0 ≤ b) (b1 : b < y.days) (hg : y.go w b = some l) : y.at? k (b, (m : Int)) = some (w, l) := by
  unfold Yard.at?
  rw [if_pos (show (0 : Int) ≤ (m : Nat) by omega)]
  show (y.way? k ((m : Int).toNat)).bind _ = _
  rw [Int.toNat_natCast, hw]
  show (if 0 ≤ b ∧ b < y.days then _ else _) = _
  rw [if_pos ⟨b0, b1⟩, hg]
  rfl
theorem alone_go {y : Yard} {w : Way} {b cap : Int} (h : alone y w b cap = true) : ∃ l, y.go w b = some l := by
  unfold alone at h
  cases g : y.go w b with
  | none => rw [g] at h; cases h
  | some l => exact ⟨l, rfl⟩
theorem pairs_ok {y : Yard} (ho : y.ok) {k : Nat} {q : Int × Int} (h : q ∈ pairsL y k) : okw y k q = true := by
  cases hv : y.works[k]? with
  | none => unfold pairsL at h; rw [hv] at h; cases h
  | some v =>
    obtain ⟨h1, h2, m, h3, h4, h5⟩ := (mem_pairs hv).mp h
    obtain ⟨l, hg⟩ := alone_go h5
    have vok := ho.ws v (List.mem_of_getElem? hv)
    have l0 := vok.l0; have hd := vok.hd
    have ha := at_of (way_of hv h4) (by omega) (by omega) hg
    unfold okw
    rw [hv]
    show (decide (v.low ≤ q.1) && decide (q.1 < v.high) && (y.at? k q).isSome) = true
    have e : q = (q.1, (m : Int)) := by rw [← h3]
    rw [decide_eq_true h1, decide_eq_true h2, e, ha]
    rfl
theorem over_le {y : Yard} {pl : List (Int × Int)} {s d : Nat} : y.over pl s d = false ↔ y.sums pl pl.length s d ≤ (y.stuffs.getD s []).getD d 0 := by
  unfold Yard.over
  rw [decide_eq_false_iff_not]
  omega
theorem daysAt_of {y : Yard} {c : List (Int × Int)} {m : Nat} {q : Int × Int} {w : Way} {l : List Int} (hq : c[m]? = some q) (ha : y.at? m q = some (w, l)) : daysAt y c m = l := by
  unfold daysAt
  rw [hq]
  show (match y.at? m q with | some (_, l) => l | none => []) = l
  rw [ha]
theorem fits_iff {y : Yard} {c : List (Int × Int)} : fitsB y c = true ↔ (∀ t ∈ y.ties, max t.one t.other = ((c.length - 1 : Nat) : Int) → y.bad c t = false) ∧ ∀ s, s < y.stuffs.length → ∀ d ∈ daysAt y c (c.length - 1), y.sums c c.length s d.toNat ≤ (y.stuffs.getD s []).getD d.toNat 0 := by
  unfold fitsB
  rw [Bool.and_eq_true, List.all_eq_true, List.all_eq_true]
  constructor
  · rintro ⟨h1, h2⟩
    refine ⟨fun t ht hm => ?_, fun s hs d hd => ?_⟩
    · have := h1 t ht
      rw [decide_eq_true hm] at this
      cases hb : y.bad c t with
      | false => rfl
      | true => rw [hb] at this; cases this
    · have := h2 s (List.mem_range.mpr hs)
      rw [List.all_eq_true] at this
      exact of_decide_eq_true (this d hd)
  · rintro ⟨h1, h2⟩
    refine ⟨fun t ht => ?_, fun s hs => List.all_eq_true.mpr fun d hd => decide_eq_true (h2 s (List.mem_range.mp hs) d hd)⟩
    by_cases hm : max t.one t.other = ((c.length - 1 : Nat) : Int)
    · rw [h1 t ht hm]
      simp
    · rw [decide_eq_false hm]
      rfl
/-- a plan is clean just where the law finds it -/
theorem clean_iff {y : Yard} (ho : y.ok) {pl : List (Int × Int)} (hl : pl.length = y.works.length) : Clean y pl ↔ pl ∈ coursesL y y.works.length := by
  have s3 := ho.s3
  rw [mem_courses]
  constructor
  · rintro ⟨h1, h2, h3⟩
    refine ⟨hl, fun j hj => ?_⟩
    obtain ⟨q, hq⟩ : ∃ q, pl[j]? = some q := ⟨_, List.getElem?_eq_getElem (by omega)⟩
    have hok := h1 j (by omega)
    rw [okAt_of hq] at hok
    obtain ⟨v, w, l, e1, e2, e3, e4⟩ := okw_get hok
    obtain ⟨m0, hw, b0, b1, hgo⟩ := at_get e4
    have uok := ho.way hw
    obtain ⟨v', hv', hm'⟩ := way_get hw
    rw [e1] at hv'
    cases hv'
    have hmlt := lt_of_get hm'
    have ewy : wayAt v q.2.toNat = w := by unfold wayAt; rw [List.getD, hm']; rfl
    have em : ((q.2.toNat : Nat) : Int) = q.2 := by omega
    refine ⟨q, hq, (mem_pairs e1).mpr ⟨e2, e3, q.2.toNat, em.symm, hmlt, ?_⟩, ?_⟩
    · rw [ewy]
      obtain ⟨z, z1, z2, z3⟩ := endOf_some hgo uok.l1
      unfold alone
      rw [hgo]
      dsimp only
      rw [z1]
      dsimp only
      rw [decide_eq_false (show ¬ z ≥ y.days by omega)]
      show ((List.range w.needs.length).map (fits y w l)).all id = true
      rw [List.all_map, List.all_eq_true]
      intro s hs
      have hs := List.mem_range.mp hs
      rw [uok.nl] at hs
      show fits y w l s = true
      unfold fits
      rw [List.all_eq_true]
      intro d hd
      have hdd := go_day hgo d hd
      have dn : ((d.toNat : Nat) : Int) = d := by omega
      have hov := over_le.mp (h3 s d.toNat hs (by omega))
      have hpa := part_at (s := s) (d := d.toNat) hq e4
      rw [dn, count_one (go_nodup hgo) hd] at hpa
      have hpl := part_le ho (pl := pl) (k := j) (n := pl.length) (s := s) (d := d.toNat) (by omega)
      rw [hpa] at hpl
      refine decide_eq_true ?_
      have : w.needs.getD s 0 * ((1 : Nat) : Int) = w.needs.getD s 0 := by simp
      omega
    · have hln : (pl.take (j + 1)).length = j + 1 := by rw [List.length_take]; omega
      rw [fits_iff, hln]
      refine ⟨fun t ht hm => ?_, fun s hs d hd => ?_⟩
      · have tok := ho.ts t ht
        have o0 := tok.o0; have p0 := tok.p0
        have hm : max t.one t.other = (j : Nat) := hm
        have m1 := Int.le_max_left t.one t.other
        have m2 := Int.le_max_right t.one t.other
        rw [bad_take (by omega) (by omega)]
        exact h2 t ht
      · have hj1 : (pl.take (j + 1))[j]? = some q := by rw [List.getElem?_take_of_lt (Nat.lt_succ_self j)]; exact hq
        rw [show j + 1 - 1 = j from rfl, daysAt_of hj1 e4] at hd
        have hdd := go_day hgo d hd
        rw [sums_take (Nat.le_refl _)]
        have hov := over_le.mp (h3 s d.toNat hs (by omega))
        have := sums_mono ho (pl := pl) (s := s) (d := d.toNat) (m := j + 1) (n := pl.length) (by omega)
        omega
  · rintro ⟨_, hall⟩
    have hok : ∀ k, k < pl.length → okAt y pl k = true := fun k hk => by
      obtain ⟨q, q1, q2, _⟩ := hall k (by omega)
      rw [okAt_of q1]
      exact pairs_ok ho q2
    refine ⟨hok, fun t ht => ?_, fun s e hs he => ?_⟩
    · have tok := ho.ts t ht
      have o0 := tok.o0; have om := tok.om; have p0 := tok.p0; have pm := tok.pm
      have m1 := Int.le_max_left t.one t.other
      have m2 := Int.le_max_right t.one t.other
      have m3 : max t.one t.other < (y.works.length : Int) := Int.max_lt.mpr ⟨om, pm⟩
      obtain ⟨q, q1, q2, q3⟩ := hall (max t.one t.other).toNat (by omega)
      have hln : (pl.take ((max t.one t.other).toNat + 1)).length = (max t.one t.other).toNat + 1 := by rw [List.length_take]; omega
      rw [fits_iff, hln] at q3
      have := q3.1 t ht (by show _ = (((max t.one t.other).toNat : Nat) : Int); omega)
      rw [bad_take (by omega) (by omega)] at this
      exact this
    · rw [over_le]
      obtain ⟨row, hrow⟩ : ∃ row, y.stuffs[s]? = some row := ⟨_, List.getElem?_eq_getElem hs⟩
      obtain ⟨r1, r2⟩ := ho.st row (List.mem_of_getElem? hrow)
      have base : (0 : Int) ≤ (y.stuffs.getD s []).getD e 0 := by
        rw [List.getD, List.getD, hrow]
        show 0 ≤ (row[e]?).getD 0
        by_cases h : e < row.length
        · rw [List.getElem?_eq_getElem h]
          exact (r2 _ (List.getElem_mem h)).1
        · rw [List.getElem?_eq_none (by omega)]
          exact Int.le_refl _
      have step : ∀ m, m ≤ pl.length → y.sums pl m s e ≤ (y.stuffs.getD s []).getD e 0 := by
        intro m
        induction m with
        | zero => exact fun _ => base
        | succ m ih =>
          intro hm
          obtain ⟨q, q1, q2, q3⟩ := hall m (by omega)
          obtain ⟨v, w, l, e1, e2, e3, e4⟩ := okw_get (pairs_ok ho q2)
          have hln : (pl.take (m + 1)).length = m + 1 := by rw [List.length_take]; omega
          have hm1 : (pl.take (m + 1))[m]? = some q := by rw [List.getElem?_take_of_lt (Nat.lt_succ_self m)]; exact q1
          rw [fits_iff, hln] at q3
          by_cases hmem : (e : Int) ∈ l
          · have := q3.2 s hs (e : Int) (by rw [show m + 1 - 1 = m from rfl, daysAt_of hm1 e4]; exact hmem)
            rw [sums_take (Nat.le_refl _), Int.toNat_natCast] at this
            exact this
          · rw [sums_succ, part_at q1 e4, List.count_eq_zero_of_not_mem hmem]
            have := ih (by omega)
            rw [show w.needs.getD s 0 * ((0 : Nat) : Int) = 0 by simp]
            omega
      exact step pl.length (Nat.le_refl _)
theorem eqv_prs : ∀ (a b : List (Int × Int)), PyData.eqv (.list (a.map prP)) (.list (b.map prP)) = decide (a = b)
  | [], [] => rfl
  | [], q :: b => rfl
  | p :: a, [] => rfl
  | p :: a, q :: b => by
    have ih := eqv_prs a b
    have e : PyData.eqv (.list ((p :: a).map prP)) (.list ((q :: b).map prP)) = (PyData.eqv (prP p) (prP q) && PyData.eqv (.list (a.map prP)) (.list (b.map prP))) := rfl
    have e2 : PyData.eqv (prP p) (prP q) = decide (p = q) := by
      have e3 : PyData.eqv (prP p) (prP q) = ((p.1 == q.1) && ((p.2 == q.2) && true)) := rfl
      rw [e3]
      by_cases h : p = q
      · subst h; simp
      · rw [decide_eq_false h]
        by_cases h1 : p.1 = q.1
        · by_cases h2 : p.2 = q.2
          · exact absurd (Prod.ext h1 h2) h
          · simp [h2]
        · simp [h1]
    rw [e, e2, ih]
    by_cases h : p = q
    · by_cases h2 : a = b
      · simp [h, h2]
      · simp [h, h2]
    · simp [h]
end Hv

set_option Elab.async false
set_option linter.all false
set_option maxRecDepth 100000
/-! exception classes of the program whose __init__ says super().__init__(..) first -/
namespace L2
open PySem PySem.Spec PyProof.Rows NdefX
/-- the written part, about such an __init__: its cell, its code, the class above -/
structure SupF (P : Program) (K : PySem.W.Frag) (C cc cd : Addr) (qual : Str) (scope : Scope) (B i : String) : Prop where
  cell : ∃ cl cld csl, K.lookup cc = some ⟨cl, cld, .cell (some (.ref C)), csl⟩
  code : PySem.W.codeIn K (.ref cd) qual = true
  file : ∃ ccl cdd vs ccs file tf, K.lookup cd = some ⟨ccl, cdd, .fields vs, ccs⟩ ∧ vs[2]? = some (.str file tf) ∧ ((P.main.file : Str) == file) = true
  top : (P.main.scope.names.lookup ("super" : Str)).isSome = false
  sup : PySem.W.ks_superIn K C C "__init__" = some (some (.builtin i))
  opq : PySem.W.nsIn K cStatics "thirdparty.any" = some none
  mro : PySem.W.mroIn K C (.ref C) = some true
  sub : PySem.W.subIn K (.ref C) (.type B) = some true
  ks : scope.names.lookup ("super" : Str) = some .globalImplicit
  kc : scope.names.lookup ("__class__" : Str) = some .free
  kself : scope.names.lookup ("self" : Str) = some .local
section
variable {P : Program} {w : World} {M : Model} {A : Around} {E : Value → Shared → Prop} {g : Array GenState} {d : Drawn} {t : Nat} {os : OsState}
variable {nm qn : Str} {C N : Addr} {bs bm bmB : List Value} {hdct : Bool} {sn : List Str} {sub : List Value} {ab : Bool} {col : Option Bool} {dd : Option Addr} {k0 k1 k2 k3 k5 : Option Value} {B newId initId : String}
/-- the bound __init__ of the class above, called -/
theorem call_mw (Fa : ExcBaseFacts B newId initId bmB) {hp : Heap} {u e t0 : Addr} {rest : List Value} {Q : Value → Shared → Prop}
    (atC : hp.get? C = some (excClassObj nm qn C N bs bm hdct sn sub ab col dd k0 k1 k2 k3 k5 newId)) (atE : hp.get? e = some (PySem.W.excObj C t0 none .none)) (atU : hp.get? u = some (PySem.W.kxs_mw initId e)) (few : rest.length ≤ sizeLine)
    (fin : ∀ h' t1, (∀ b o, b ≠ e → hp.get? b = some o → h'.get? b = some o) → h'.get? e = some (PySem.W.excObj C t1 none .none) → Q .none ⟨h', g, d, t, os⟩) : wpAny (model P w) A (call (.ref u) rest) Q E ⟨hp, g, d, t, os⟩ := by
  refine wpAny_call (codeAny_of_tree ?_)
  show wpAny _ A.in1 (callAny (.ref u) ⟨rest, []⟩) _ _ _
  unfold callAny
  dsimp only
  refine wpAny_bind (wpAny_load atU ?_)
  have z1 : (Value.type "method-wrapper" == Value.type "method" || Value.type "method-wrapper" == Value.type "builtin_function_or_method" || Value.type "method-wrapper" == Value.type "method-wrapper") = true := by decide
  dsimp only [PySem.W.kxs_mw]
  simp only [z1, if_true]
  refine PySem.W.KFB.if_so (by decide) (wpAny_bind (PySem.W.check_bound_init Fa.toExcCallFacts atC atE rfl (wpAny_bind (wpAny_pure (wpAny_pure ⟨plainId_quiet Fa.init.plain _, codeAny_builtin Fa.initEntry ?_⟩)))))
  exact PySem.W.exc_init_tree (cls := .ref C) (t0 := t0) (dv := none) (c2 := .none) (c3 := .none) (b4 := .bool false) atE few fun h' k e' _ => fin h' _ k e'
end
/-- the record of an exception that is being made -/
theorem exo_get {P : Program} {w : World} {H : Hp} {h : Heap} {e C : Addr} (hok : HOk P w H h) (he : H e = some (exo e C none)) : ∃ t1 : Addr, h.get? e = some (PySem.W.excObj C t1 none .none) := exo_at hok he
section
variable {CX : CXT} {P : Program} {w : World} {K : PySem.W.Frag} {mg : Str → Option Value} {base : Heap} {N ps : List Str} {f C cc cd : Addr} {k : Nat} {sp : Sp} {B i newId : String} {bmB : List Value}
  {nm qual : Str} {params : Arguments} {scope : Scope} {dV kV doc pm ct oc : Value} {an od : Option Addr} {osl : Array (Option Value)} {e : Expr} {rest : List Stmt} {p0 p1 p2 p3 p4 : Pos} {ar : Arg}
abbrev supSt (e : Expr) (p0 p1 p2 p3 p4 : Pos) : Stmt := .Expr (.Call (.Attribute (.Call (.Name "super" p0) [] [] p1) "__init__" p2) [e] [] p3) p4
theorem sup_run {X : Cx} {pins : List (Addr × Obj)} {σ : St} {H : Hp} {s : Shared} {body : List Stmt} {a : Addr} {ta : TA} {R : Hp → Prop} {Qf : Flow → Shared → Prop} {fd : FuncData} (I : Inv X pins σ H s) (F : SupF X.prog X.K C cc cd qual X.env.scope B i) (Fa : ExcBaseFacts B newId i bmB) (KF : PySem.W.KxsFacts B i)
    (cls : ∃ nm q N bs bm sn sub ab col dd k0 k1 k2 k3 k5, X.K.lookup C = some (excClassObj nm q C N bs bm true sn sub ab col dd k0 k1 k2 k3 k5 newId)) (hfu : X.env.func = some f) (lf : X.K.lookup f = some ⟨oc, od, .func fd, osl⟩) (hp : (fd.params.posonlyargs ++ fd.params.args).head? = some ar) (har : ar.arg = ("self" : Str))
    (hco : X.env.code = .ref cd) (hce : X.env.cells.lookup ("__class__" : Str) = some cc) (h0 : X.N[0]? = some ("self" : Str)) (hsu : X.mg "super" = none) (hσ : σ[0]? = some (some (.ref a))) (ha : H a = some (exo a C none)) (hA : PA X [e] ta)
    (hq : ta σ H fun us H1 => us.length ≤ 1000 ∧ H1 a = some (exo a C none) ∧ R H1) (he : starEach [e] X.env = [(false, eval e X.env)]) (fin : ∀ s' H1, Inv X pins σ H1 s' → R H1 → Qf .next s')
    {pl : Sem Bool} (hev : eval (.Call (.Attribute (.Call (.Name "super" p0) [] [] p1) "__init__" p2) [e] [] p3) X.env = (do
      let ov ← attributeBase (.Call (.Name "super" p0) [] [] p1) "__init__" X.env (eval (.Call (.Name "super" p0) [] [] p1) X.env)
      standAt p2.atName
      let (f0, first) ← holding [ov] (getMethod ov "__init__" pl)
      callWith p3 f0 first (backTo p3 (starEach [e] X.env)) []))
    (hsw : swapsWith (.Call (.Attribute (.Call (.Name "super" p0) [] [] p1) "__init__" p2) [e] [] p3) none p4.line X.env = pure false) :
    PySem.wpAt (model X.prog X.w) X.A (.func body X.env) (exec (supSt e p0 p1 p2 p3 p4) X.env) Qf X.xe s := by
  obtain ⟨cl, cld, csl, lcc⟩ := F.cell
  obtain ⟨ccl, cdd, vsC, ccs, file, tf, lcd, hvs, hfile⟩ := F.file
  obtain ⟨nm1, q1, N1, bs1, bm1, sn1, sub1, ab1, col1, dd1, k01, k11, k21, k31, k51, lC⟩ := cls
  have kin := I.kIn
  refine ks_wpAt_Expr_any (ks_wpAt_MethodCall (ks_wpAt_super_base F.ks F.kc (by decide) hfu (kin _ _ lf) rfl hp hco (kin _ _ lcd) rfl hvs hfile F.top ?_) hev) I.quiet hsw
  obtain ⟨mb, hb1, hb2⟩ := I.mod.blt
  refine PySem.W.ks_loadName_global I.ok.kind F.ks (Calls.loadGlobal_builtin (by rw [I.ok.glob]; exact I.mod.glob.keeps I.bk) hsu (by rw [I.ok.blt]; exact hb1.keeps I.bk) ((hb2 _ (by decide)).trans (show bootBuiltins "super" = some (.type "super") by decide +kernel)) ⟨rfl, ?_⟩)
  refine wpAny_loadName_free I.ok.kind F.kc hce ⟨_, kin _ _ lcc, rfl⟩ ?_
  rw [har]
  obtain ⟨m, hn, hlk⟩ := id I.loc
  obtain ⟨u0, ru, lo⟩ := hlk 0 _ _ h0 hσ (.inl F.kself)
  obtain rfl : u0 = Value.ref a := ru
  have hm : m "self" = some (.ref a) := by
    rcases lo with ⟨_, z⟩ | ⟨kz, _⟩
    · exact z
    · have y := F.kself
      rcases kz with kz | kz
      · have kz : X.env.scope.names.lookup ("self" : Str) = some .cell := kz
        rw [y] at kz
        cases kz
      · have kz : X.env.scope.names.lookup ("self" : Str) = some .free := kz
        rw [y] at kz
        cases kz
  refine wpAny_loadName_local I.ok.kind F.kself hn hm ?_
  have atC := kin _ _ lC
  refine ks_wpAny_isType_cls atC rfl ⟨rfl, ?_⟩
  obtain ⟨t1, atA⟩ := exo_get I.hok ha
  obtain ⟨hp0, g0, d0, tk0, os0⟩ := s
  refine ks_wpAny_call_super atC rfl atA rfl (fun _ z => nomatch z) (PySem.W.looks_mroIn kin F.mro) fun h2 hso k2 => ?_
  have kin2 : X.K.In h2 := kin.keeps k2
  have I2 : Inv X pins σ H ⟨h2, g0, d0, tk0, os0⟩ := I.kept (t' := tk0) k2
  have L1 : PySem.W.Looks (model X.prog X.w) h2 (typeOf (.ref a)) (.ref C) := fun A2 Q2 E2 s2 kk qq => wpAny_typeOf_ref (kk _ _ (k2 _ _ atA)) qq
  have hne : a ≠ C := fun z => by
    rw [z, atC] at atA
    have z2 := congrArg Obj.data (Option.some.inj atA)
    cases z2
  have hsup := F.sup
  unfold PySem.W.ks_superIn at hsup
  have hcl : PySem.W.clsIn X.K C = some { name := nm1, bases := bs1, mro := .ref C :: bm1, ns := N1, qualname := q1, hasDict := true, slotNames := sn1, subclasses := sub1, abstract := ab1, collection := col1, hasDel := false } := by unfold PySem.W.clsIn; rw [lC]
  rw [hcl] at hsup
  refine PySem.W.kxs_getMethod KF hso (PySem.W.looks_opaque kin2 F.opq) (l₀ := .ref C :: bm1) (fun A2 Q2 E2 s2 kk qq => wpAny_bind ((PySem.W.looks_clsIn kin2 hcl) A2 _ E2 s2 kk (wpAny_pure qq))) rfl kin2 hsup (L1.andThen (PySem.W.looks_subIn kin2 F.sub)) hne (by decide) ?_
  have k3 : ∀ b o, h2.get? b = some o → (h2.push (PySem.W.kxs_mw i a)).get? b = some o := fun b o z => Heap.get?_push_of_some _ z
  have I3 : Inv X pins σ H ⟨h2.push (PySem.W.kxs_mw i a), g0, d0, tk0 + 1, os0⟩ := I2.kept (t' := tk0 + 1) k3
  have atU : (h2.push (PySem.W.kxs_mw i a)).get? h2.objs.size = some (PySem.W.kxs_mw i a) := Heap.get?_push_size _ rfl
  have I4 : Inv X ((h2.objs.size, PySem.W.kxs_mw i a) :: pins) σ H ⟨h2.push (PySem.W.kxs_mw i a), g0, d0, tk0 + 1, os0⟩ := I3.pins_of fun p hpn => by
    rcases List.mem_cons.mp hpn with rfl | z
    · exact ⟨atU, I2.hok.fresh (Nat.le_refl _), Nat.ne_of_gt I2.lt, I2.nofs (Nat.le_refl _), fun _ y => nomatch y⟩
    · exact I3.pin p (List.mem_append_right _ z)
  have hrun := hA.run p3 _ _ σ H _ I4 hq
  rw [he] at hrun ⊢
  refine PySem.W.kxs_callWith (i := i) (x := a) rfl (Calls.evalArgs_plain ?_)
  refine thn hrun fun us s5 ⟨vs5, H5, I5, r5, hl5, ha5, hR5⟩ => ?_
  have atU5 := (I5.pin (h2.objs.size, PySem.W.kxs_mw i a) (List.mem_append_right _ (List.mem_cons_self ..))).1
  refine ⟨atU5, ?_⟩
  obtain ⟨t5, at5⟩ := exo_get I5.hok ha5
  obtain ⟨hp5, g5, d5, tk5, os5⟩ := s5
  refine call_mw Fa (I5.kIn _ _ lC) at5 atU5 (by show us.length ≤ _; rw [← Paired.length r5, sizeLine_eq]; omega) fun h6 t6 kk at6 => ?_
  have J := I5.write (t' := tk5) (x := a) (e := a) (o := exo a C none) (by rw [ha5]; exact True.intro) (.inl rfl) kk ⟨_, at6⟩ (exo_ok at6)
  have eu : upd H5 a (exo a C none) = H5 := by
    funext b
    by_cases hb : b = a
    · rw [hb, upd_same, ha5]
    · rw [upd_ne hb]
  rw [eu] at J
  exact fin _ H5 (J.pins_of fun p hpn => J.pin p (List.mem_append_right _ (List.mem_cons_of_mem _ hpn))) hR5
set_option maxHeartbeats 1000000 in
theorem fn_sup (lk : K.lookup f = some ⟨oc, od, .func (PySem.W.fnX nm qual params (supSt e p0 p1 p2 p3 p4 :: rest) scope [("__class__", cc)] dV kV doc pm an (.ref cd) ct), osl⟩)
    (F : SupF P K C cc cd qual scope B i) (Fa : ExcBaseFacts B newId i bmB) (KF : PySem.W.KxsFacts B i) (cls : ∃ nm q N bs bm sn sub ab col dd k0 k1 k2 k3 k5, K.lookup C = some (excClassObj nm q C N bs bm true sn sub ab col dd k0 k1 k2 k3 k5 newId)) (S : NScope N ps ["__class__"] scope) (hp : (params.posonlyargs ++ params.args).head? = some ar) (har : ar.arg = ("self" : Str)) (h0 : N[0]? = some ("self" : Str)) (hsu : mg "super" = none)
    (len : ∀ vs H Q E, sp vs H Q E → vs.length = ps.length)
    (hbody : ∀ (A : Around) (outer : List Env) (s : Shared) (H : Hp) (vs : List V) (Q : VK) (E : XK), Room k (A.deeper (envF ⟨nm, qual, params, supSt e p0 p1 p2 p3 p4 :: rest, scope, [("__class__", cc)], cd⟩ f s.heap.objs.size)) → sp vs H Q E →
      ∃ a ws ta tr, vs = V.ref a :: ws ∧ H a = some (exo a C none) ∧ PA (ncx CX P w K mg base N ⟨nm, qual, params, supSt e p0 p1 p2 p3 p4 :: rest, scope, [("__class__", cc)], cd⟩ f A outer s H E) [e] ta ∧ PSs (ncx CX P w K mg base N ⟨nm, qual, params, supSt e p0 p1 p2 p3 p4 :: rest, scope, [("__class__", cc)], cd⟩ f A outer s H E) rest tr ∧
        ta (startF N vs [none]) H fun us H1 => us.length ≤ 1000 ∧ H1 a = some (exo a C none) ∧ tr { nx := fun _ H' => Q .non H', rt := Q } (startF N vs [none]) H1)
    (hev : ∀ L : Addr, starEach [e] (envF ⟨nm, qual, params, supSt e p0 p1 p2 p3 p4 :: rest, scope, [("__class__", cc)], cd⟩ f L) = [(false, eval e (envF ⟨nm, qual, params, supSt e p0 p1 p2 p3 p4 :: rest, scope, [("__class__", cc)], cd⟩ f L))] := by intro _; rfl)
    {pl : Sem Bool} (hev0 : ∀ L : Addr, eval (.Call (.Attribute (.Call (.Name "super" p0) [] [] p1) "__init__" p2) [e] [] p3) (envF ⟨nm, qual, params, supSt e p0 p1 p2 p3 p4 :: rest, scope, [("__class__", cc)], cd⟩ f L) = (do
      let ov ← attributeBase (.Call (.Name "super" p0) [] [] p1) "__init__" (envF ⟨nm, qual, params, supSt e p0 p1 p2 p3 p4 :: rest, scope, [("__class__", cc)], cd⟩ f L) (eval (.Call (.Name "super" p0) [] [] p1) (envF ⟨nm, qual, params, supSt e p0 p1 p2 p3 p4 :: rest, scope, [("__class__", cc)], cd⟩ f L))
      standAt p2.atName
      let (f0, first) ← holding [ov] (getMethod ov "__init__" pl)
      callWith p3 f0 first (backTo p3 (starEach [e] (envF ⟨nm, qual, params, supSt e p0 p1 p2 p3 p4 :: rest, scope, [("__class__", cc)], cd⟩ f L))) []) := by intro _; rfl)
    (hsw : ∀ L : Addr, swapsWith (.Call (.Attribute (.Call (.Name "super" p0) [] [] p1) "__init__" p2) [e] [] p3) none p4.line (envF ⟨nm, qual, params, supSt e p0 p1 p2 p3 p4 :: rest, scope, [("__class__", cc)], cd⟩ f L) = pure false := by intro _; rfl) :
    FnOk P w K mg base CX (k + 1) f (PySem.W.fnX nm qual params (supSt e p0 p1 p2 p3 p4 :: rest) scope [("__class__", cc)] dV kV doc pm an (.ref cd) ct) ps sp := by
  refine ⟨len, fun A outer s H args us vs Q E hr e0 hb r hsp => ?_⟩
  have hl := len _ _ _ _ hsp
  have lim : s.heap.NoLimit := e0.mod.nolimit.keeps fun b o z => (e0.bs b o z).1
  have kin : K.In s.heap := e0.mod.kin.keeps fun b o z => (e0.bs b o z).1
  obtain ⟨a, ws, ta, tr, rfl, ha, hA, hR, hq⟩ := hbody A outer s H vs Q E (hr.deeper _) hsp
  obtain ⟨cl, cld, csl, lcc⟩ := F.cell
  obtain ⟨ccl, cdd, vsC, ccs, file, tf, lcd, hvs, hfile⟩ := F.file
  obtain ⟨nm1, q1, N1, bs1, bm1, sn1, sub1, ab1, col1, dd1, k01, k11, k21, k31, k51, lC⟩ := cls
  have one : ∀ {y : Str} {c : Addr}, List.lookup y [(("__class__" : Str), cc)] = some c → y = "__class__" ∧ c = cc := fun {y c} z => by
    have m := PySem.mem_of_lookup z
    have m2 := List.mem_singleton.mp m
    exact ⟨congrArg Prod.fst m2, congrArg Prod.snd m2⟩
  have cellK : s.heap.IsCell cc (some (.ref C)) := ⟨_, kin _ _ lcc, rfl⟩
  have Ca : CellsAt [(("__class__" : Str), cc)] ["__class__"] [none] s.heap H := by
    refine ⟨rfl, fun y c z => ?_, fun x y c z1 z2 => by rw [(one z1).1, (one z2).1], fun j y z => ?_⟩
    · rw [(one z).2]
      exact ⟨(e0.bs cc _ (e0.mod.kin _ _ lcc)).2, _, cellK⟩
    · have e2 : y = "__class__" := by
        cases j with
        | zero => exact (Option.some.inj z).symm
        | succ n => exact absurd z (by simp)
      refine ⟨cc, by rw [e2]; simp [List.lookup], fun v hv => ?_⟩
      cases j with
      | zero => exact absurd hv (by simp)
      | succ n => exact absurd hv (by simp)
  refine ks_codeAny_call_defAt hr.depth (kin _ _ lk) rfl lim (PySem.W.codeRec_of kin F.code) rfl hb S.nocell (fun ⟨n, _⟩ hy => S.par n (List.of_mem_zip hy).1) (fun h₁ hns kp => ?_) S.co S.gen S.kind
  have I : Inv (ncx CX P w K mg base N ⟨nm, qual, params, supSt e p0 p1 p2 p3 p4 :: rest, scope, [("__class__", cc)], cd⟩ f A outer s H E) [] (startF N (V.ref a :: ws) [none]) H { s with heap := h₁, toks := s.toks + (ps.zip us).length } := inv_startN S hr.hd e0 hl r Ca hns kp
  have fin : ∀ {σ' : St} {H' : Hp} {v : V} {u : Value} {s' : Shared}, Inv (ncx CX P w K mg base N ⟨nm, qual, params, supSt e p0 p1 p2 p3 p4 :: rest, scope, [("__class__", cc)], cd⟩ f A outer s H E) [] σ' H' s' → RelV v u → Q v H' → CE outer P w H s Q u s' := fun {σ' H' v u s'} J rv q => ⟨v, H', J.os, J.bare, J.base, J.hok, rv, q⟩
  show PySem.wpAt (model P w) (ncx CX P w K mg base N ⟨nm, qual, params, supSt e p0 p1 p2 p3 p4 :: rest, scope, [("__class__", cc)], cd⟩ f A outer s H E).A (.func (supSt e p0 p1 p2 p3 p4 :: rest) (ncx CX P w K mg base N ⟨nm, qual, params, supSt e p0 p1 p2 p3 p4 :: rest, scope, [("__class__", cc)], cd⟩ f A outer s H E).env) (execs (supSt e p0 p1 p2 p3 p4 :: rest) (ncx CX P w K mg base N ⟨nm, qual, params, supSt e p0 p1 p2 p3 p4 :: rest, scope, [("__class__", cc)], cd⟩ f A outer s H E).env) _ (ncx CX P w K mg base N ⟨nm, qual, params, supSt e p0 p1 p2 p3 p4 :: rest, scope, [("__class__", cc)], cd⟩ f A outer s H E).xe _
  refine ks_wpAt_execs_cons (sup_run (fd := PySem.W.fnX nm qual params (supSt e p0 p1 p2 p3 p4 :: rest) scope [("__class__", cc)] dV kV doc pm an (.ref cd) ct) (R := fun H1 => tr { nx := fun _ H' => Q .non H', rt := Q } (startF N (V.ref a :: ws) [none]) H1) I F Fa KF ⟨nm1, q1, N1, bs1, bm1, sn1, sub1, ab1, col1, dd1, k01, k11, k21, k31, k51, lC⟩ rfl lk hp har rfl (by show List.lookup _ [_] = _; simp [List.lookup]) h0 hsu rfl ha hA hq (hev _) (fun s' H1 I1 hR1 => ?_) (hev0 _) (hsw _))
  refine wpAt_of_wpAny (wpAny_mono (hR.run [] s' _ H1 _ I1 hR1) (fun fl s2 hs => ?_) fun _ _ z => z)
  cases fl with
  | ret u =>
    obtain ⟨v, σ', H', J, rv, q⟩ := hs
    exact fin J rv q
  | next =>
    obtain ⟨σ', H', J, q⟩ := hs
    exact fin (v := V.non) (u := Value.none) J rfl q
  | brk =>
    obtain ⟨_, _, _, q⟩ := hs
    exact False.elim q
  | cont =>
    obtain ⟨_, _, _, q⟩ := hs
    exact False.elim q
end
end L2

set_option Elab.async false
set_option linter.all false
set_option maxRecDepth 100000
/-! ### raising, by values -/
namespace Hv
open PySem PySem.Spec PyProof.Rows L2 Hod NdefX
/-! f-strings of numbers and short texts -/
def fmtV : V → Prop
  | .int i => i.natAbs < 2 ^ 1000
  | .str x => x.length ≤ 1000
  | _ => False
def JsOk (ts : List TE) (σ : L2.St) (H : Hp) (n : Nat) : Prop := ∀ (acc : Str) (Q : Str → Hp → Prop), acc.length ≤ n → (∀ out, Q out H) → tJs ts acc σ H Q
theorem js_nil {σ : L2.St} {H : Hp} {n : Nat} : JsOk [] σ H n := fun acc Q _ q => q acc
theorem len_add (a b : Str) : (a ++ b).length = a.length + b.length := strLen_append a b
theorem js_c {σ : L2.St} {H : Hp} {n : Nat} {c : Str} {ts : List TE} (r : JsOk ts σ H (n + 2000)) (hc : c.length ≤ 2000 := by decide) (hn : n + 2000 ≤ 2 ^ 24 := by decide) : JsOk (tC (.str c) :: ts) σ H n := fun acc Q ha q =>
  ⟨c, rfl, by rw [len_add]; show _ ≤ sizeLine; rw [sizeLine_eq]; omega, r _ Q (by rw [len_add]; omega) q⟩
theorem js_v {σ : L2.St} {H : Hp} {n : Nat} {v : V} {ts : List TE} (j : Nat) (hv : σ[j]? = some (some v)) (fm : fmtV v) (r : JsOk ts σ H (n + 2000)) (hn : n + 2000 ≤ 2 ^ 24 := by decide) : JsOk (tFmt (tVar j) :: ts) σ H n := fun acc Q ha q => by
  cases v with
  | int i =>
    have fm : i.natAbs < 2 ^ 1000 := fm
    have hz : i.natAbs.log2 < 1920 := by
      rcases Nat.eq_zero_or_pos i.natAbs with e | e
      · rw [e]; decide
      · exact Nat.lt_of_lt_of_le ((Nat.log2_lt (by omega)).mpr fm) (by decide)
    have hl := int_text_length_le (k := 1920) (by decide) hz
    refine ⟨_, hv, .inr ⟨i, rfl, hz, _, rfl, ?_, r _ Q ?_ q⟩⟩
    · rw [len_add, PySem.ofString_length]; show _ ≤ sizeLine; rw [sizeLine_eq]; omega
    · rw [len_add, PySem.ofString_length]; omega
  | str x =>
    have fm : x.length ≤ 1000 := fm
    refine ⟨_, hv, .inl ⟨x, rfl, ?_, x, rfl, ?_, r _ Q ?_ q⟩⟩
    · show _ ≤ sizeLine; rw [sizeLine_eq]; omega
    · rw [len_add]; show _ ≤ sizeLine; rw [sizeLine_eq]; omega
    · rw [len_add]; omega
  | _ => exact fm.elim
/-! an exception class of the program -/
/-- its __init__, at an instance at a -/
def spInit (C : Addr) (wd : Str) (ns : List Str) : Sp := fun vs H Q _ => ∃ a ws, vs = V.ref a :: ws ∧ ws.length = ns.length ∧ (∀ v ∈ ws, fmtV v) ∧ H a = some (exo a C none) ∧
  ∀ dx fs H2, H dx = none → dx ≠ a → H2 a = some (exo a C (some dx)) → H2 dx = some (exd dx fs) → (∀ f v, List.lookup f ((("word" : Str), V.str wd) :: ns.zip ws) = some v → fs.lookup f = some v) → (∀ b, b ≠ a → b ≠ dx → H2 b = H b) → Q .non H2
structure ExcD (P : Program) (w : World) (K : PySem.W.Frag) (mg : Str → Option Value) (base : Heap) (x wd : Str) (ns : List Str) : Prop where
  ex : ∃ C fI fd, mg x = some (.ref C) ∧ OexC K C ∧ PySem.W.findIn K (.ref C) "__init__" = some (some (.ref fI)) ∧ PySem.W.typeIn K (.ref fI) = some (.type "function") ∧ FnOk P w K mg base CX0 1 fI fd ("self" :: ns) (spInit C wd ns) ∧ Binds K fd ("self" :: ns) []
def fmtD : PyData → Prop
  | .int i => i.natAbs < 2 ^ 1000
  | .str x => x.length ≤ 1000
  | _ => False
theorem fmt_ok {K : PySem.W.Frag} {G : Hp} {v : V} {d : PyData} (r : Rp K G v d) (h : fmtD d) : fmtV v := by
  cases r <;> first | exact h | exact h.elim
theorem fmts_ok {K : PySem.W.Frag} {G : Hp} : ∀ {ds : List PyData} {vs : List V}, Rps K G vs ds → (∀ d ∈ ds, fmtD d) → ∀ v ∈ vs, fmtV v
  | [], _, h, _ => by cases h; simp
  | d :: ds, _, h, k => by
    cases h with
    | cons h1 h2 =>
      intro v hv
      rcases List.mem_cons.mp hv with rfl | hv
      · exact fmt_ok h1 (k d (by simp))
      · exact fmts_ok h2 (fun e he => k e (by simp [he])) v hv
theorem zip_look {K : PySem.W.Frag} {G : Hp} : ∀ {ns : List Str} {ds : List PyData} {vs : List V} {f : Str} {d : PyData}, Rps K G vs ds → (ns.zip ds).lookup f = some d → ∃ v, (ns.zip vs).lookup f = some v ∧ Rp K G v d
  | [], _, _, _, _, _, e => by simp at e
  | _ :: _, [], _, _, _, h, e => by simp at e
  | n :: ns, d :: ds, _, f, e, h, q => by
    cases h with
    | @cons v vs _ _ h1 h2 =>
      rw [List.zip_cons_cons] at q ⊢
      simp only [List.lookup] at q ⊢
      split at q
      · cases q; exact ⟨v, rfl, h1⟩
      · exact zip_look h2 q
theorem XdAt.new {K : PySem.W.Frag} {G H : Hp} {dd : Addr} {fs : List (Str × V)} {wd : Str} {ns : List Str} {ds : List PyData} {vs : List V} (r : Rps K G vs ds) (h : H dd = some (.xd fs)) (hf : ∀ f v, List.lookup f ((("word" : Str), V.str wd) :: ns.zip vs) = some v → fs.lookup f = some v) : XdAt K G H dd (("word", .str wd) :: ns.zip ds) := by
  refine ⟨fs, h, fun f d e => ?_⟩
  simp only [List.lookup] at e
  split at e
  · rename_i q
    cases e
    refine ⟨.str wd, hf f _ ?_, .str wd⟩
    simp only [List.lookup, q]
  · rename_i q
    obtain ⟨v, e1, e2⟩ := zip_look r e
    refine ⟨v, hf f v ?_, e2⟩
    simp only [List.lookup, q]
    exact e1
def wRaise (xw : XW) (x wd : Str) (ns : List Str) (u : WA) : WS := fun _ ρ μ => u ρ μ fun as => match dats as with | some ds => ds.length = ns.length ∧ ns.length ≤ 1000 ∧ (∀ d ∈ ds, fmtD d) ∧ xw x (("word", .str wd) :: ns.zip ds) | none => False
theorem vs_raise {X : Cx} {xw : XW} {x wd : Str} {ns : List Str} {e : Expr} {es : List Expr} {u : WA} {p pos pos' : Pos} (hc : X.calm = true) (D : ExcD X.prog X.w X.K X.mg X.base x wd ns) (hr : Room 2 X.A) (hg : Gl X x) (ha : VA X (xlOf X xw) (e :: es) u)
    (hdb : (x == ("__debug__" : Str)) = false := by decide) (he : starEach (e :: es) X.env = (false, eval e X.env) :: starEach es X.env := by rfl) (hpl : (backTo pos (starEach es X.env)).any (·.1) = false := by rfl) :
    VS X (xlOf X xw) (.Raise (some (.Call (.Name x p) (e :: es) [] pos)) none pos') (wRaise xw x wd ns u) := by
  obtain ⟨C, fI, fd, hm, T, iC, tI, F1, hb⟩ := D.ex
  refine ps_weak (ps_raise hc (takesOf X) (pmk_oex T iC tI F1 hr hb .nil (fun _ _ _ _ _ _ _ z => z.elim) hg hm ha hdb he hpl)) fun D σ H ⟨S, B, H0, G0, ρ, μ, E, s, w, r⟩ => ?_
  refine ⟨S, B, ρ, μ, _, s.st, w, fun vs H1 as e1 g1 rs q1 => ?_⟩
  split at q1
  · rename_i ds hd
    obtain ⟨hl, hl2, hf, hx⟩ := q1
    have hlen : vs.length = ns.length := by rw [rs.len, ← dats_len hd, hl]
    have rp := rs.rps hd
    refine ⟨by omega, fun a na => ⟨a, vs, by rw [List.append_nil], hlen, fmts_ok rp hf, upd_same, fun dx fs H2 ndx nda h2a h2d hfs h2 => ?_⟩⟩
    have ndx1 : H1 dx = none := by rw [upd_ne nda] at ndx; exact ndx
    refine ⟨rfl, dx, fs, h2a, h2d, ndx1, ?_⟩
    have eH : upd (del H2 a) dx (.xd fs) = upd H1 dx (.xd fs) := by
      funext b
      by_cases h1 : b = dx
      · rw [h1, upd_same, upd_same]
      · rw [upd_ne h1, upd_ne h1]
        by_cases h3 : b = a
        · rw [h3, del_same, na]
        · rw [del_ne h3, h2 b h3 h1, upd_ne h3]
    rw [eH]
    have key := s.st.xl (upd H1 dx (.xd fs)) x dx _ (e1.trans (.new ndx1)) (g1.new ndx1) (XdAt.new (rp.mono ((Ex.new ndx1).off g1) _ _) upd_same hfs) hx
    rw [ct_of hm] at key
    exact key
  · exact q1.elim
end Hv

set_option Elab.async false
set_option linter.all false
set_option maxRecDepth 100000
namespace Hv
open PySem PySem.Spec PyProof.Rows L2 Hod
section
variable {X : Cx} {xl : XLT X.K} {e o : Expr} {pos : Pos} {w wo : WE} {W : WS}
/-- xs.append(a new list): it becomes one's own -/
def wAppL (wo we : WE) : WS := fun E ρ μ => wo ρ μ fun o => match cel μ o with
  | some (p, xs) => we ρ μ fun a => (match a with | .dat (.list ds) => nols ds = true ∧ xs.length < 1000000 ∧ ∀ r, μ r = none → r ≠ p → E.nx ρ (put (put μ r (ds.map .dat)) p (xs ++ [.own r])) | _ => False)
  | none => False
theorem vs_appL {cpos apos : Pos} (ho : VE X xl o wo) (he : VF X xl e w)
    (hbase : attributeBase o "append" X.env (eval o X.env) = eval o X.env := by rfl)
    (hfew : ((backTo cpos (starEach [e] X.env)).all (fun x => !x.1) && (backToKw cpos (keywordEach [] X.env)).all (fun x => x.1.isSome)
      && decide ([e].length + ([] : List Keyword).length + (if ([] : List Keyword).isEmpty then 0 else 1) < 30)) = true := by rfl)
    (hline : (apos.endLine == cpos.line) = true := by rfl) (hs : starEach [e] X.env = (false, eval e X.env) :: starEach [] X.env := by rfl)
    (hsw : swapsWith (.Call (.Attribute o "append" apos) [e] [] cpos) none pos.line X.env = pure false := by rfl) : VS X xl (.Expr (.Call (.Attribute o "append" apos) [e] [] cpos) pos) (wAppL wo w) := by
  refine ps_weak (ps_expr (pe_bm PySem.F.plainAttrs_list PySem.F.slot_list_append PySem.F.type_list_append mt_append ho (pa_cons he pa_nil hs) hbase hfew hline hs) hsw) fun D σ H ⟨S, B, H0, G0, ρ, μ, E, s, w, r⟩ => ?_
  refine ⟨S, B, ρ, μ, _, s.st, w, fun v H1 a e1 g1 ra q1 => ?_⟩
  have s1 := s.ex e1 g1
  split at q1
  · rename_i p xs hc
    obtain ⟨rfl, hm, vs, h1, h2⟩ := cel_ok g1 ra hc
    refine ⟨.inl ⟨rfl, _, SqL.of h1⟩, S, B, ρ, μ, _, s1.st, q1, fun v2 H2 a2 e2 g2 r2 n2 q2 => ?_⟩
    cases r2 with
    | dat r2 =>
      cases r2 with
      | @lst c ys ds k1 k2 =>
        have s3 := own_new s1 e2 g2 (n2 c ds rfl rfl) k1 k2 q2.1 (σ.length + ρ.length)
        rw [List.set_eq_of_length_le (by omega), List.set_eq_of_length_le (by omega)] at s3
        have mc : μ c = none := (off_some k1).2.1
        have ne : c ≠ p := fun z => by rw [z, hm] at mc; cases mc
        have hm3 : put μ c (ds.map .dat) p = some xs := by rw [put_ne (Ne.symm ne)]; exact hm
        have hL3 : isL (put μ c (ds.map .dat)) p = true := put_L (unt_dat ds) (cel_L ra hc)
        obtain ⟨_, vs3, h3, h4⟩ := s3.st.gd.ls hL3 hm3
        exact ⟨p, vs3, .ref c, rfl, rfl, h3, million (by rw [h4.len]; exact q2.2.1), r.nx _ _ _ _ (own_set s3 hL3 hm3 (h4.app (.cons (.own (isL_of put_same (unt_dat ds))) .nil))) (q2.2.2 c mc ne)⟩
      | _ => exact q2.elim
    | _ => exact q2.elim
  · exact q1.elim
theorem ras_own {K : PySem.W.Frag} {S : Hs} {μ : Mem} {G : Hp} : ∀ {ps : List Addr} {vs : List V}, Ras K S μ G vs (ps.map .own) → vs = ps.map V.ref
  | [], _, h => by cases h; rfl
  | p :: ps, _, h => by
    cases h with
    | cons h1 h2 =>
      cases h1
      rw [List.map_cons, ras_own h2]
/-- for x in xs, xs a list of one's own with lists of one's own in it, which the body may change, but not xs -/
def wForO (we : WE) (i : Nat) (W : WS) : WS := fun E ρ μ => we ρ μ fun a => match a with
  | .own q => ∃ (ps : List Addr) (I : Nat → Rho → Mem → Prop), μ q = some (ps.map .own) ∧ I 0 ρ μ ∧ (∀ n ρ μ, I n ρ μ → μ q = some (ps.map .own)) ∧ (∀ n p ρ μ, ps[n]? = some p → I n ρ μ → isL μ p = true ∧ W { E with nx := I (n + 1), ct := I (n + 1), bk := E.nx } (ρ.set i (some (.own p))) μ) ∧ ∀ ρ μ, I ps.length ρ μ → E.nx ρ μ
  | _ => False
theorem vs_forO {i : Nat} {x : Str} {tp : Pos} {body : List Stmt} (hp : PassesOwn (model X.prog X.w) X.A X.env X.xe) (hc : X.calm = true) (he : VE X xl e w) (hg : PG X (.Name x tp) (gName i)) (hb : VSs X xl body W)
    (hs : ∀ x, foldedSetIterable e X.env x = pure x := by intro _; rfl) : VS X xl (.For (.Name x tp) e body [] pos) (wForO w i W) := by
  refine ps_weak (ps_for hp hc (pi_list he) hg hb hs) fun D σ H ⟨S, B, H0, G0, ρ, μ, E, s, w, r⟩ => ⟨S, B, ρ, μ, _, s.st, w, fun v H1 a e1 g1 ra q1 => ?_⟩
  have s1 := s.ex e1 g1
  cases ra with
  | @own q hq =>
    obtain ⟨ps, I, hm, h0, hI, hstep, hend⟩ := q1
    have at_ : ∀ {σ' : L2.St} {H' : Hp} {ρ' : Rho} {μ' : Mem}, Sts X.K xl S B H0 G0 σ' H' ρ' μ' → μ' q = some (ps.map .own) → H' q = some (.lst (ps.map V.ref)) := fun {σ' H' ρ' μ'} z h => by
      obtain ⟨_, vs, k1, k2⟩ := z.st.gd.ls (isL_of h (by cases ps <;> rfl)) h
      rw [k1, ras_own k2]
    have hlen : (ps.map V.ref).length = ps.length := List.length_map _
    refine ⟨q, rfl, ⟨ps.map V.ref, SqL.of (at_ s1 hm)⟩, ?_⟩
    refine for_it (n := (ps.map V.ref).length) walk_list (fun i σ' H' => ∃ ρ' μ', Sts X.K xl S B H0 G0 σ' H' ρ' μ' ∧ I i ρ' μ') ⟨ρ, μ, s1, h0⟩ ?_ ?_ ?_
    · rintro n σ' H' hn ⟨ρ', μ', z, hi⟩
      exact SqL.of (at_ z (hI _ _ _ hi))
    · rintro n y σ' H' H2 hn ⟨ρ', μ', z, hi⟩ hy
      obtain ⟨rfl, ey⟩ := hy
      rw [List.getElem?_map] at ey
      cases hp2 : ps[n]? with
      | none => rw [hp2] at ey; cases ey
      | some p =>
        rw [hp2] at ey
        cases ey
        obtain ⟨hs1, hs2⟩ := hstep n p ρ' μ' hp2 hi
        exact ⟨S, B, H0, G0, _, μ', _, z.set i (.own hs1), hs2, ⟨fun σ3 H3 ρ3 μ3 s3 q3 => ⟨ρ3, μ3, s3, q3⟩, fun σ3 H3 ρ3 μ3 s3 q3 => r.nx _ _ _ _ s3 q3, fun σ3 H3 ρ3 μ3 s3 q3 => ⟨ρ3, μ3, s3, q3⟩, r.rt, r.ow⟩⟩
    · rintro σ' H' ⟨ρ', μ', z, hi⟩
      rw [hlen] at hi
      exact r.nx _ _ _ _ z (hend _ _ hi)
  | _ => exact q1.elim
end
end Hv

set_option Elab.async false
set_option linter.all false
set_option maxRecDepth 100000
/-! ### defs that may raise -/
namespace Hv
open PySem PySem.Spec PyProof.Rows L2 Hod NdefX
abbrev FSX := List A → (PyData → Prop) → XW → Prop
/-- a def's promise by values, with what it may raise -/
def spX (K : PySem.W.Frag) (mg : Str → Option Value) (fr : Bool) (F : FSX) : Sp := fun vs H Q E => ∃ S B as Q2 E2, Good K S B emp H ∧ Ras K S emp (off B emp H) vs as ∧ F as Q2 E2 ∧
  (∀ v H' d, Ex S H H' → Good K S B emp H' → Rp K (off B emp H') v d → (fr = true → ∀ p ds, v = .ref p → d = .list ds → H p = none) → Q2 d → Q v H') ∧
  ∀ H' x dd flds, Ex S H H' → Good K S B emp H' → XdAt K (off B emp H') H' dd flds → E2 x flds → E (.ref (ctOf mg x)) (some dd) H'
def flatX (flds : List (Str × PyData)) : Bool := flds.all fun p => flatD p.2
def wFX (F : FSX) (μ : Mem) (as : List A) (Q : A → Prop) (xw : XW) : Prop :=
  if noOwn as = true then F as (fun d => Q (.dat d)) xw else match rsvs μ as with | some as' => F as' (fun d => flatD d = true ∧ Q (.dat d)) (fun x flds => flatX flds = true ∧ xw x flds) | none => False
theorem lookup_mem : ∀ {l : List (Str × PyData)} {f : Str} {d : PyData}, l.lookup f = some d → (f, d) ∈ l := fun h => PySem.mem_of_lookup h
theorem XdAt.flat {K : PySem.W.Frag} {G G2 H : Hp} {dd : Addr} {flds : List (Str × PyData)} (h : XdAt K G H dd flds) (hf : flatX flds = true) : XdAt K G2 H dd flds := by
  obtain ⟨fs, h1, h2⟩ := h
  refine ⟨fs, h1, fun f d e => ?_⟩
  obtain ⟨v, e1, e2⟩ := h2 f d e
  exact ⟨v, e1, (flat_any e2 (List.all_eq_true.mp hf _ (lookup_mem e))).1⟩
theorem wFX_ok {K : PySem.W.Frag} {S : Hs} {B : Hid} {μ : Mem} {H : Hp} {mg : Str → Option Value} {fr : Bool} {F : FSX} {as : List A} {vs : List V} {Q : VK} {Q2 : A → Prop} {xw : XW} {E : XK} (g : Good K S B μ H) (rs : Ras K S μ (off B μ H) vs as) (h : wFX F μ as Q2 xw)
    (k : ∀ v H' a, Ex S H H' → Good K S B μ H' → Ra K S μ (off B μ H') v a → (fr = true → ∀ p ds, v = .ref p → a = .dat (.list ds) → H p = none) → Q2 a → Q v H')
    (kx : ∀ H' x dd flds, Ex S H H' → Good K S B μ H' → XdAt K (off B μ H') H' dd flds → xw x flds → E (.ref (ctOf mg x)) (some dd) H') : spX K mg fr F vs H Q E := by
  unfold wFX at h
  split at h
  · rename_i no
    refine ⟨S, Hv.hide B μ, as, _, _, g.hide, by rw [off_hide]; exact ras_noOwn rs no, h, fun v H' d ex g2 r n q => ?_, fun H' x dd flds ex g2 xd q => ?_⟩
    · rw [off_hide] at r
      exact k v H' _ ex (g.step ex g2) (.dat r) (fun f p ds e1 e2 => n f p ds e1 (A.dat.inj e2)) q
    · rw [off_hide] at xd
      exact kx H' x dd flds ex (g.step ex g2) xd q
  · split at h
    · rename_i bs hb
      refine ⟨S, B, bs, _, _, g.open, ras_rsv g rs hb, h, fun v H' d ex g2 r n q => ?_, fun H' x dd flds ex g2 xd q => ?_⟩
      · obtain ⟨r1, r2⟩ := flat_any (G2 := off B μ H') r q.1
        exact k v H' _ ex (g.step ex g2) (.dat r1) (fun f p ds e1 e2 => absurd e1 (r2 p)) q.2
      · exact kx H' x dd flds ex (g.step ex g2) (xd.flat q.1) q.2
    · exact h.elim
def wCallX (xw : XW) (F : FSX) (u : WA) : WE := fun ρ μ Q => u ρ μ fun as => wFX F μ as Q xw
section
variable {X : Cx} {xw : XW} {k : Nat} {f : Addr} {fd : FuncData} {ps ks : List Str} {fr : Bool} {F : FSX} {x : Str} {p pos : Pos} {e : Expr} {es : List Expr} {u uk : WA}
theorem ve_callX (G : FnOk X.prog X.w X.K X.mg X.base (L2.CX X.prog X.w) k f fd ps (spX X.K X.mg fr F)) (hr : Room k X.A) (hg : Gl X x) (hm : X.mg x = some (.ref f)) (hk : PySem.W.keepIn X.K (.ref f) = true) (hb : Binds X.K fd ps []) (ha : VA X (xlOf X xw) (e :: es) u)
    (hdb : (x == ("__debug__" : Str)) = false := by decide) (he : starEach (e :: es) X.env = (false, eval e X.env) :: starEach es X.env := by rfl) (hpl : (backTo pos (starEach es X.env)).any (·.1) = false := by rfl) : VE X (xlOf X xw) (.Call (.Name x p) (e :: es) [] pos) (wCallX xw F u) := by
  refine pe_weak (pe_callS G hr hg hm hk hb (E := L2.WE (wxOf X)) (passAt (takesOf X)) ha hdb he hpl) fun σ H Q ⟨S, B, ρ, μ, Q2, st, w, k⟩ => ⟨S, B, ρ, μ, _, st, w, fun vs H1 as e1 g1 rs q1 => ?_⟩
  exact wFX_ok g1 rs q1 (fun v H2 a e2 g2 r2 _ q2 => k v H2 a (e1.trans e2) g2 r2 q2) fun H2 y dd flds e2 g2 xd q2 => st.xl H2 y dd flds (e1.trans e2) g2 xd q2
theorem vf_callX (G : FnOk X.prog X.w X.K X.mg X.base (L2.CX X.prog X.w) k f fd ps (spX X.K X.mg true F)) (hr : Room k X.A) (hg : Gl X x) (hm : X.mg x = some (.ref f)) (hk : PySem.W.keepIn X.K (.ref f) = true) (hb : Binds X.K fd ps []) (ha : VA X (xlOf X xw) (e :: es) u)
    (hdb : (x == ("__debug__" : Str)) = false := by decide) (he : starEach (e :: es) X.env = (false, eval e X.env) :: starEach es X.env := by rfl) (hpl : (backTo pos (starEach es X.env)).any (·.1) = false := by rfl) : VF X (xlOf X xw) (.Call (.Name x p) (e :: es) [] pos) (wCallX xw F u) := by
  refine pe_weak (pe_callS G hr hg hm hk hb (E := L2.WE (wxOf X)) (passAt (takesOf X)) ha hdb he hpl) fun σ H Q ⟨S, B, ρ, μ, Q2, st, w, k⟩ => ⟨S, B, ρ, μ, _, st, w, fun vs H1 as e1 g1 rs q1 => ?_⟩
  exact wFX_ok g1 rs q1 (fun v H2 a e2 g2 r2 n q2 => k v H2 a (e1.trans e2) g2 r2 (fun p ds h1 h2 => e1.dom _ (n rfl p ds h1 h2)) q2) fun H2 y dd flds e2 g2 xd q2 => st.xl H2 y dd flds (e1.trans e2) g2 xd q2
/-! by names -/
variable {kws : List Keyword} {g : List Value → List Value → List Value} {gV : List V → List V → List V} {gA : List A → List A → List A} {CX : CXT} {sp : Sp} {E : L2.St → XK} {t tk : TA}
theorem run_kS {pins : List (Addr × Obj)} {σ : L2.St} {H : Hp} {s : Shared} {Q : VK} {us ws : List Value} {vs zs : List V} (G : FnOk X.prog X.w X.K X.mg X.base CX k f fd ps sp) (hr : Room k X.A) (hb : KBinds X.K fd ps ks g gV) (hx : PassesAt CX X σ (E σ))
    (I : Inv X pins σ H s) (r : Vals vs us) (rz : Vals zs ws) (h : sp (gV vs zs) H Q (E σ)) : wpAny (model X.prog X.w) X.A (call (.ref f) us (ks.zip ws)) (EP X pins σ Q) X.xe s := by
  have rr := hb.rel r rz
  have ll : (g us ws).length = ps.length := by rw [← rr.length]; exact G.len _ _ _ _ h
  have run := G.run X.A X.stack s H ⟨us, ks.zip ws⟩ (g us ws) (gV vs zs) Q (E σ) hr I.env0 (hb.to s us ws I.kIn ll) rr h
  refine wpAny_call (codeAny_mono run fun res s' hq => ?_)
  match res, hq with
  | .error e, hq => exact hx pins H s e s' I hq
  | .ok (.ret u), hq => exact I.after hq
  | .ok .next, hq => exact False.elim hq
  | .ok .brk, hq => exact False.elim hq
  | .ok .cont, hq => exact False.elim hq
def tKS (sp : Sp) (gV : List V → List V → List V) (E : L2.St → XK) (t tk : TA) : TE := fun σ H Q => t σ H fun vs H1 => tk σ H1 fun zs H2 => sp (gV vs zs) H2 Q (E σ)
theorem pe_kS (G : FnOk X.prog X.w X.K X.mg X.base CX k f fd ps sp) (hr : Room k X.A) (hg : Gl X x) (hm : X.mg x = some (.ref f)) (hk : PySem.W.keepIn X.K (.ref f) = true) (hb : KBinds X.K fd ps ks g gV) (hx : ∀ σ, PassesAt CX X σ (E σ)) (ha : PA X (e :: es) t) (hkw : PK X kws tk)
    (hall : (backToKw pos (keywordEach kws X.env)).all (·.1.isSome) = true) (hks : (backToKw pos (keywordEach kws X.env)).filterMap (·.1) = ks) (hdb : (x == ("__debug__" : Str)) = false) (he : starEach (e :: es) X.env = (false, eval e X.env) :: starEach es X.env)
    (hpl : ((backTo pos (starEach (e :: es) X.env)).any (·.1) || (backToKw pos (keywordEach kws X.env)).any (·.1.isNone)) = false) : PE X (.Call (.Name x p) (e :: es) kws pos) (tKS sp gV E t tk) := by
  refine ⟨fun pins s σ H Q I h => wpAny_Call_Name_kw (ld_glob I hg hm (PySem.W.callWith_KW (h₀ := X.base) I.ok.mod.kin hk hall (thn (ha.run pos pins s σ H _ I h) fun us s1 ⟨vs, H1, I1, r, q⟩ => ?_) hpl he) hdb)⟩
  refine thn (hkw.run pos pins s1 σ H1 _ I1 q) fun ws s2 ⟨zs, H2, I2, rz, q2⟩ => ⟨I2.kIn, ?_⟩
  rw [hks]
  exact run_kS G hr hb (hx σ) I2 r rz q2
theorem pe_kS0 (G : FnOk X.prog X.w X.K X.mg X.base CX k f fd ps sp) (hr : Room k X.A) (hg : Gl X x) (hm : X.mg x = some (.ref f)) (hk : PySem.W.keepIn X.K (.ref f) = true) (hb : KBinds X.K fd ps ks g gV) (hx : ∀ σ, PassesAt CX X σ (E σ)) (hkw : PK X kws tk)
    (hall : (backToKw pos (keywordEach kws X.env)).all (·.1.isSome) = true) (hks : (backToKw pos (keywordEach kws X.env)).filterMap (·.1) = ks) (hdb : (x == ("__debug__" : Str)) = false)
    (hpl : ((backTo pos (starEach [] X.env)).any (·.1) || (backToKw pos (keywordEach kws X.env)).any (·.1.isNone)) = false) : PE X (.Call (.Name x p) [] kws pos) (tKS sp gV E tNil tk) := by
  refine ⟨fun pins s σ H Q I h => wpAny_Call_Name_kw (ld_glob I hg hm (PySem.W.callWith_KW0 (h₀ := X.base) I.ok.mod.kin hk hall (thn (hkw.run pos pins s σ H _ I h) fun ws s2 ⟨zs, H2, I2, rz, q2⟩ => ⟨I2.kIn, ?_⟩) hpl) hdb)⟩
  rw [hks]
  exact run_kS G hr hb (hx σ) I2 .nil rz q2
def wCallKX (xw : XW) (F : FSX) (gA : List A → List A → List A) (u uk : WA) : WE := fun ρ μ Q => u ρ μ fun as => uk ρ μ fun bs => wFX F μ (gA as bs) Q xw
theorem ve_callKX (G : FnOk X.prog X.w X.K X.mg X.base (L2.CX X.prog X.w) k f fd ps (spX X.K X.mg fr F)) (hr : Room k X.A) (hg : Gl X x) (hm : X.mg x = some (.ref f)) (hk : PySem.W.keepIn X.K (.ref f) = true) (hb : KBinds X.K fd ps ks g gV) (hG : GAK X.K gV gA) (ha : VA X (xlOf X xw) (e :: es) u) (hkw : VK2 X (xlOf X xw) kws uk)
    (hall : (backToKw pos (keywordEach kws X.env)).all (·.1.isSome) = true := by rfl) (hks : (backToKw pos (keywordEach kws X.env)).filterMap (·.1) = ks := by rfl)
    (hdb : (x == ("__debug__" : Str)) = false := by decide) (he : starEach (e :: es) X.env = (false, eval e X.env) :: starEach es X.env := by rfl)
    (hpl : ((backTo pos (starEach (e :: es) X.env)).any (·.1) || (backToKw pos (keywordEach kws X.env)).any (·.1.isNone)) = false := by rfl) : VE X (xlOf X xw) (.Call (.Name x p) (e :: es) kws pos) (wCallKX xw F gA u uk) := by
  refine pe_weak (pe_kS G hr hg hm hk hb (E := L2.WE (wxOf X)) (passAt (takesOf X)) ha hkw hall hks hdb he hpl) fun σ H Q ⟨S, B, ρ, μ, Q2, st, w, k⟩ => ⟨S, B, ρ, μ, _, st, w, fun vs H1 as e1 g1 rs q1 => ⟨S, B, ρ, μ, _, st.ex e1 g1, q1, fun zs H2 bs e2 g2 rz q2 => ?_⟩⟩
  exact wFX_ok g2 (hG _ _ _ _ _ _ _ (rs.mono (e2.off g1)) rz) q2 (fun v H3 a e3 g3 r3 n q3 => k v H3 a (e1.trans (e2.trans e3)) g3 r3 q3) fun H3 y dd flds e3 g3 xd q3 => st.xl H3 y dd flds (e1.trans (e2.trans e3)) g3 xd q3
theorem ve_callKX0 (G : FnOk X.prog X.w X.K X.mg X.base (L2.CX X.prog X.w) k f fd ps (spX X.K X.mg fr F)) (hr : Room k X.A) (hg : Gl X x) (hm : X.mg x = some (.ref f)) (hk : PySem.W.keepIn X.K (.ref f) = true) (hb : KBinds X.K fd ps ks g gV) (hG : GAK X.K gV gA) (hkw : VK2 X (xlOf X xw) kws uk)
    (hall : (backToKw pos (keywordEach kws X.env)).all (·.1.isSome) = true := by rfl) (hks : (backToKw pos (keywordEach kws X.env)).filterMap (·.1) = ks := by rfl) (hdb : (x == ("__debug__" : Str)) = false := by decide)
    (hpl : ((backTo pos (starEach [] X.env)).any (·.1) || (backToKw pos (keywordEach kws X.env)).any (·.1.isNone)) = false := by rfl) : VE X (xlOf X xw) (.Call (.Name x p) [] kws pos) (wCallKX xw F gA waNil uk) := by
  refine pe_weak (pe_kS0 G hr hg hm hk hb (E := L2.WE (wxOf X)) (passAt (takesOf X)) hkw hall hks hdb hpl) fun σ H Q ⟨S, B, ρ, μ, Q2, st, w, k⟩ => ⟨S, B, ρ, μ, _, st, w, fun zs H2 bs e2 g2 rz q2 => ?_⟩
  exact wFX_ok g2 (hG _ _ _ _ _ _ _ .nil rz) q2 (fun v H3 a e3 g3 r3 n q3 => k v H3 a (e2.trans e3) g3 r3 q3) fun H3 y dd flds e3 g3 xd q3 => st.xl H3 y dd flds (e2.trans e3) g3 xd q3
end
/-- a def that may raise, by its body -/
theorem fnX {P : Program} {w : World} {K : PySem.W.Frag} {mg : Str → Option Value} {base : Heap} {x qual : Str} {st : Stmt} {f : Addr} {fd : FuncData} {N ps : List Str} {k : Nat} {fr : Bool} {F : FSX} {W : XW → WS}
    (Fn : Fun K x qual st f fd) (Sc : FnScope N ps (defScope st)) (len : ∀ as Q E, F as Q E → as.length = ps.length)
    (hbody : ∀ (xw : XW) (cdv : Value) (A : Around) (outer : List Env) (s : Shared) (H : Hp) (E : XK), Room k (A.deeper (envOfC qual (defScope st) s.heap.objs.size f cdv)) → VSs (cxOf (L2.CX P w) P w K mg base N qual (defScope st) f cdv A outer s H E) (xlOf (cxOf (L2.CX P w) P w K mg base N qual (defScope st) f cdv A outer s H E) xw) (defBody st) (W xw))
    (hw : ∀ as Q E, F as Q E → W E { nx := fun _ _ => Q .none, rt := Q, fr := fr } (startA N as) emp) : FnOk P w K mg base (L2.CX P w) (k + 1) f fd ps (spX K mg fr F) := by
  refine Fn.okX Sc (fun vs H Q E h => ?_) (fun cdv A outer s H vs Q E hr h => ?_)
  · obtain ⟨S, B, as, Q2, E2, _, h2, h3, _⟩ := h
    rw [h2.len]
    exact len _ _ _ h3
  · obtain ⟨S, B, as, Q2, E2, h1, h2, h3, h4, h5⟩ := h
    refine ⟨_, hbody E2 cdv A outer s H E hr, S, B, H, off B emp H, startA N as, emp, _, .of h1 ?_ .refl (fun _ _ => rfl) (Same.refl _) (fun σ' H' μ' e1 g1 H2 y dd flds e2 g2 xd q => ?_), hw as Q2 E2 h3, ⟨?_, ?_, ?_, ?_, fun _ _ _ _ _ _ _ q => q.elim⟩⟩
    · have q := Sls.start (N.length - vs.length) h2
      unfold L2.start startA
      rw [h2.len] at q ⊢
      exact q
    · exact wx_of (takes_of (E := E) rfl rfl rfl rfl) (h5 H2 y dd flds (e1.trans e2) g2.open (xd.mono same_open) q)
    · intro σ' H' ρ' μ' z q
      exact h4 _ _ _ z.old z.st.gd.open .non (fun _ _ _ e => nomatch e) q
    · exact fun _ _ _ _ _ q => q.elim
    · exact fun _ _ _ _ _ q => q.elim
    · exact fun v H' d e g r n q => h4 v H' d e g r n q
def DfnX (P : Program) (w : World) (K : PySem.W.Frag) (mg : Str → Option Value) (base : Heap) (k : Nat) (x : Str) (ps : List Str) (F : FSX) : Prop :=
  ∃ f fd, FnOk P w K mg base (L2.CX P w) k f fd ps (spX K mg false F) ∧ mg x = some (.ref f) ∧ PySem.W.keepIn K (.ref f) = true ∧ Binds K fd ps []
end Hv

set_option Elab.async false
set_option linter.all false
set_option maxRecDepth 100000
/-! several clauses 'except x as n' -/
namespace L2
open PySem PySem.Spec PyProof.Rows
abbrev Clause := Value × Nat × (Addr → Value → Option Addr → TS)
/-- behind a suite the clause's name is gone -/
def endsAs (i : Nat) (D : Ends) : Ends := { nx := fun σ H => D.nx (σ.set i none) H, rt := D.rt, bk := fun σ H => D.bk (σ.set i none) H, ct := fun σ H => D.ct (σ.set i none) H }
def wClauses (K : PySem.W.Frag) (Wout : WX) (D : Ends) : List Clause → WX
  | [] => Wout
  | (c, i, ts) :: l => fun cls d σ H => ∃ b, PySem.W.exmOne K cls c = some b ∧ (b = true → ∀ a, H a = none → ts a cls d (endsAs i D) (σ.set i (some (.ref a))) H) ∧ (b = false → wClauses K Wout D l cls d σ H)
inductive ClausesOk (X : Cx) : List ExceptHandler → List Clause → Prop
  | nil : ClausesOk X [] []
  | cons {x n : Str} {c : Value} {i : Nat} {ts : Addr → Value → Option Addr → TS} {st : Stmt} {sts : List Stmt} {p q : Pos} {hs : List ExceptHandler} {l : List Clause} (hc : Names X x c) (hi : X.N[i]? = some n) (hl : X.env.kindOf n = some .local)
      (su : ∀ (a : Addr) (oe : Obj) (cls : Value) (d : Option Addr) (pn : List (Addr × Obj)), Zc cls d oe → (∃ vs, oe.data = .fields vs) → PSs (X.suite a ((a, oe) :: pn)) (st :: sts) (ts a cls d)) (r : ClausesOk X hs l) :
      ClausesOk X (.ExceptHandler (some (.Name x p)) (some n) (st :: sts) q :: hs) ((c, i, ts) :: l)
section
variable {X : Cx} {pins : List (Addr × Obj)} {D : Ends} {Wout : WX}
/-- the exception is on the ground: the clauses one after the other -/
theorem clauses_run {B : Heap} {a : Addr} {sI s' : Shared} {σ : St} {H : Hp} {cls : Value} {d : Option Addr} {h3 : Heap} (ok : X.Ok) (hs : X.stack = X.env :: X.outer) (hf : X.env.frame = some X.env.locals) (hN : X.N.Nodup) (tk : Takes X Wout) (J : Inv X pins σ H sI)
    (nb : ∀ b o, sI.heap.get? b = some o → b ∉ frs X.stack → B.get? b = some o) (up : sI.heap.UpToSlots h3) (fl : HandSPX.FlyingZ B (X.env :: X.outer) a (Zc cls d) h3) (na : H a = none) (os : s'.os = sI.os) (ag : AllBare s'.gens) :
    ∀ {hds : List ExceptHandler} {l : List Clause}, ClausesOk X hds l → wClauses X.K Wout D l cls d σ H → wpAny (model X.prog X.w) X.A (handleBy (.ref a) X.env hds) (SP X pins D) X.xe { s' with heap := h3 } := by
  have J3 : Inv X pins σ H { s' with heap := h3 } := J.landed nb fl.1 up os ag
  obtain ⟨oe, vs, atA, hz, hd⟩ := fl.there
  have far : a ∉ frs (X.env :: X.outer) := fun m => by
    obtain ⟨_, o, e, no⟩ := fl.2.2.1.mem m
    rw [atA] at e
    cases e
    exact no _ hd
  have nL : a ≠ X.env.locals := fun z => far (List.mem_filterMap.mpr ⟨X.env, List.mem_cons_self, by rw [hf, z]⟩)
  have nF : a ∉ X.fs := fun m => by
    obtain ⟨e, he, q⟩ := List.mem_filterMap.mp m
    exact far (List.mem_filterMap.mpr ⟨e, List.mem_cons_of_mem _ he, q⟩)
  have S3 := J3.suite atA hd na nL nF
  have LT : PySem.W.Looks (model X.prog X.w) h3 (typeOf (.ref a)) cls := fun A Q E s k q => wpAny_typeOf_ref (k _ _ atA) (by rw [hz.1]; exact q)
  intro hds l ck
  induction ck with
  | nil =>
    intro w
    refine wpAny_handleBy_nil ?_
    obtain ⟨_, _, _, o1, vs1, T, oT, ts1, a1, _, d1, f1, _⟩ := id fl
    unfold PySem.passOn
    refine wpAny_bind (wpAny_field a1 d1 f1 ?_)
    rw [if_neg (show ¬ ((Value.ref T == Value.none) = true) from by simp)]
    have go : wpAny (model X.prog X.w) X.A (setFlight (.ref a) X.env.frame) (fun _ s4 => wpAny (model X.prog X.w) X.A (throw (.ref a) : Sem Flow) (SP X pins D) X.xe s4) X.xe { s' with heap := h3 } := by
      rw [hf]
      refine HandSPX.setFlight_upZ fl fun h4 hh up4 => wpAny_throw (tk _ _ ⟨a, B, sI, pins, σ, H, cls, d, rfl, J, nb, up.trans up4, .inr (.inr (by rw [hs]; exact hh)), na, os, ag, w⟩)
    first
      | exact wpAny_bind (wpAny_pure (wpAny_bind go))
      | exact wpAny_bind go
  | @cons x n c i ts st sts p q hs2 l2 hc hi hl su r ih =>
    intro w
    obtain ⟨b, hb, yes, no⟩ := w
    refine wpAny_handleBy_cons (codeAny_handlers_test ?_) (by intro z; cases z)
    have LM := PySem.W.exm_one (M := model X.prog X.w) J3.kIn LT hb
    have test : ∀ {Q : Value → Shared → Prop} {E : Value → Shared → Prop}, Q c { s' with heap := h3 } → wpAny (model X.prog X.w) (X.A.mark (some (.ref a))) (eval (.Name x p) X.env) Q E { s' with heap := h3 } := fun {Q E} qq => by
      obtain ⟨hg, hdbg, m | ⟨m, v, nn⟩⟩ := hc
      · exact ld_glob (X := X.suite a ((a, oe) :: (X.pn ++ pins))) S3 hg m qq hdbg
      · exact ld_blt (X := X.suite a ((a, oe) :: (X.pn ++ pins))) S3 hg m v qq nn hdbg
    refine test (LM.here ?_)
    cases b with
    | false => exact ih (no rfl)
    | true =>
      refine codeAny_handlers_suite_as (HandSPX.lands_againZ fl fun h4 fl4 up4 => ?_)
      have J4 : Inv X pins σ H { s' with heap := h4 } := J.landed nb fl4.1 (up.trans up4) os ag
      obtain ⟨oe4, vs4, at4, hz4, hd4⟩ := fl4.there
      refine store_ok (X := X.suite a ((a, oe4) :: (X.pn ++ pins))) (v := .ref a) (J4.suite at4 hd4 na nL nF) hN hi (.inl hl) rfl (fun s5 S5 => ?_) (.inr hl)
      refine wpAny_mono ((su a oe4 cls d (X.pn ++ pins) hz4 ⟨_, hd4⟩).run [] s5 _ H _ S5 (yes rfl a na)) (fun fw s6 hsp => ?_) (fun _ _ z => False.elim z)
      have out : ∀ {σ6 : St} {H6 : Hp} {R : Shared → Prop}, Inv (X.suite a ((a, oe4) :: (X.pn ++ pins))) [] σ6 H6 s6 → (∀ s7, Inv X pins (σ6.set i none) H6 s7 → R s7) →
          wpAny (model X.prog X.w) X.A (do bindName X.env n .none; unbindBehindTheSuite X.env n q) (fun _ s7 => R s7) X.xe s6 := fun {σ6 H6 R} S6 hq => gone_ok (S6.unsuite ok) hN hi hl hq
      cases fw with
      | next => obtain ⟨σ6, H6, S6, q6⟩ := hsp; exact out S6 fun s7 J7 => ⟨_, _, J7, q6⟩
      | brk => obtain ⟨σ6, H6, S6, q6⟩ := hsp; exact out S6 fun s7 J7 => ⟨_, _, J7, q6⟩
      | cont => obtain ⟨σ6, H6, S6, q6⟩ := hsp; exact out S6 fun s7 J7 => ⟨_, _, J7, q6⟩
      | ret u => obtain ⟨v6, σ6, H6, S6, r6, q6⟩ := hsp; exact out S6 fun s7 J7 => ⟨_, _, _, J7, r6, q6⟩
theorem ps_clauses {body : List Stmt} {h₀ : ExceptHandler} {hds : List ExceptHandler} {l : List Clause} {pos : Pos} {tb : WX → TS} (hs : X.stack = X.env :: X.outer) (hf : X.env.frame = some X.env.locals) (hN : X.N.Nodup) (tk : Takes X Wout)
    (hb : ∀ (W : WX) (pn : List (Addr × Obj)) (xe : Value → Shared → Prop), Takes (X.tr pn xe) W → PassesOwn (model X.prog X.w) X.A X.env xe → PSs (X.tr pn xe) body (tb W)) (ck : ClausesOk X (h₀ :: hds) l) :
    PS X (.Try body (h₀ :: hds) [] [] pos) (fun D σ H => tb (wClauses X.K Wout D l) D σ H) := by
  refine ⟨fun pins s σ H D I h => ?_⟩
  have ok := I.ok
  have hfr : X.A.frames = some (X.env :: X.outer) := by rw [ok.frames, hs]
  refine wpAny_Try_except (wpAny_mono ((hb (wClauses X.K Wout D l) (X.pn ++ pins) (fun e s₁ => wpAny (model X.prog X.w) X.A (noteFrame e X.env) (fun _ s₂ => wpAny (model X.prog X.w) X.A (setFlight e none) (fun _ s₃ =>
    wpAny (model X.prog X.w) X.A (handleBy e X.env (h₀ :: hds)) (SP X pins D) X.xe s₃) X.xe s₂) X.xe s₁) (fun u s' xx => ?_) PassesOwn.looking).run [] s σ H D (I.toTry _) h) (fun fw s1 hsp => ?_) (fun e s1 he => he))
  · obtain ⟨a, B, sI, pins', σ', H', cls, d, rfl, J', nb, up, sky, na, os, ag, w⟩ := xx
    have sky' : Sky B (X.env :: X.outer) a (Zc cls d) X.env.locals s'.heap := by rw [← hs]; exact sky
    show wpAny (model X.prog X.w) X.A (noteFrame (.ref a) X.env) _ _ _
    exact Sky.land Zc.steady hfr hf sky' fun h3 fl3 up3 => clauses_run (sI := sI) ok hs hf hN tk (J'.ofTry ok) nb (up.trans up3) fl3 na os ag ck w
  · cases fw with
    | next => obtain ⟨σ', H', J', q⟩ := hsp; exact wpAny_execs_nil ⟨σ', H', J'.ofTry ok, q⟩
    | brk => obtain ⟨σ', H', J', q⟩ := hsp; exact ⟨σ', H', J'.ofTry ok, q⟩
    | cont => obtain ⟨σ', H', J', q⟩ := hsp; exact ⟨σ', H', J'.ofTry ok, q⟩
    | ret u => obtain ⟨v, σ', H', J', r, q⟩ := hsp; exact ⟨v, σ', H', J'.ofTry ok, r, q⟩
end
end L2

set_option Elab.async false
set_option linter.all false
set_option maxRecDepth 100000
/-! a lambda handed to a def that calls it; what that def wishes of exceptions may speak of its slots -/
namespace L2
open PySem PySem.Spec PyProof.Rows LamX
section
variable {X : Cx} {pins : List (Addr × Obj)} {σ : St} {H : Hp} {s : Shared}
abbrev lamOb (X : Cx) (params : Arguments) (body : Expr) (scope : Scope) (pm : Value) (c' : Addr) (ctv : Value) : Obj := PySem.W.kla_obj "<lambda>" (X.env.qual ++ "<lambda>") params body scope (cloFrom X.env.cells scope.names []) pm c' ctv
/-- the context of the def that got the lambda -/
abbrev gotCx (X : Cx) (Ng : List Str) (x : Str) (sg : Scope) (g : Addr) (cdg : Value) (s : Shared) (H : Hp) : Cx := cxOf CX0 X.prog X.w X.K X.mg X.base Ng x sg g cdg X.A X.stack s H E0
theorem act_run {Ng : List Str} {x : Str} {sg : Scope} {g f c' : Addr} {cdg pm ctv : Value} {params : Arguments} {body : Expr} {scope : Scope} {k i : Nat} {a : Str} {pn : List (Addr × Obj)} {xe : Value → Shared → Prop} {W : WX} {tb : XK → TE} {p1 p2 : Pos}
    (I : Inv X pins σ H s) (L : LamS X.env.scope scope) (atF : s.heap.get? f = some (lamOb X params body scope pm c' ctv)) (nf : H f = none) (ff : f ∉ frs X.stack)
    (bind : bindArgs (PySem.W.kla_fn "<lambda>" (X.env.qual ++ "<lambda>") params body scope (cloFrom X.env.cells scope.names []) pm (.ref c') ctv) ⟨[], []⟩ = pure [])
    (tk : Takes ((gotCx X Ng x sg g cdg s H).tr pn xe) W) (hr : Room (k + 1) (X.A.deeper (envOfC x sg s.heap.objs.size g cdg)))
    (hbody : ∀ (E : XK) (A : Around) (outer : List Env) (s : Shared) (H : Hp), Room k (A.deeper (lamEnv X scope s.heap.objs.size f c')) → PE (lamCx X A outer s H E scope f c') body (tb E))
    (hN : Ng[i]? = some a) (hv : Vis sg a) (hd : (a == ("__debug__" : Str)) = false) (hcd : (a == ("__classdict__" : Str)) = false) :
    PE ((gotCx X Ng x sg g cdg s H).tr pn xe) (.Call (.Name a p1) [] [] p2) (fun σZ HZ Q => ∃ E : XK, (∀ cls d H', E cls d H' → W cls d σZ H') ∧ σZ[i]? = some (some (.ref f)) ∧ HZ c' = some (CodeO c' (X.env.qual ++ "<lambda>")) ∧ tb E σ HZ Q) := by
  refine ⟨fun pinsZ sZ σZ HZ Q IZ ⟨E, hW, hs, hc, ht⟩ => ?_⟩
  refine wpAny_Call_Name_kw (thn ((pe_var (pos := p1) (i := i) hN hv hd hcd).run pinsZ sZ σZ HZ (fun v H1 => v = .ref f ∧ H1 = HZ) IZ ⟨.ref f, hs, rfl, rfl⟩) fun u s1 ⟨v, H1, I1, r1, e1, e2⟩ => ?_)
  subst e1
  rw [e2] at I1
  obtain rfl : u = Value.ref f := r1
  have at1 := I1.base.keep f _ atF nf ff (fun z => nomatch (show f ∈ ([] : List Addr) from z))
  refine PySem.W.callWith_F0 ⟨_, _, _, _, at1⟩ ?_
  obtain ⟨⟨oc, vs, t, c1, c2, c3⟩, _, _⟩ := I1.hok c' _ hc
  have key : codeAny (model X.prog X.w) (X.A.deeper (envOfC x sg s.heap.objs.size g cdg)) (.call (.ref f) ⟨[], []⟩) (CR (L2.CX X.prog X.w) (envOfC x sg s.heap.objs.size g cdg :: X.stack) X.prog X.w HZ s1 Q E) s1 := by
    refine PySem.W.kla_callFunE hr.depth at1 rfl L.co L.gen rfl ⟨c', oc, vs, t, rfl, c1, c2, c3⟩ ?_
    rw [bind]
    refine wpAny_pure (wpAny_newFunctionEnv (fun y hy => (L.own y hy).2) (fun y hy => absurd hy (by simp)) (fun h₁ ns sb => ⟨I1.nolimit.fresh _ sb, ?_⟩) L.kind)
    show codeAny _ _ (.expr body (lamEnv X scope s1.heap.objs.size f c')) _ _
    have J := lam_start2 (E := E) (f := f) (c' := c') (tk := s1.toks + ([] : List (Str × Value)).length) I L I1.env0 hr.hd I1.base ns (fun b o e => sb.extBut b o (Nat.ne_of_lt (Heap.lt_size e)) (Heap.get?_push_of_some _ e))
    exact PySem.W.kla_codeExpr (wpAny_mono ((hbody E _ _ s1 HZ (hr.deeper _)).run [] _ _ HZ Q J ht) (fun v s' ⟨w', H', J', rv, q⟩ => ⟨w', H', J'.os, J'.bare, J'.base, J'.hok, rv, q⟩) fun e s' hq => hq)
  refine wpAny_call (codeAny_mono key fun res s' hq => ?_)
  match res, hq with
  | .error e, hq => exact passAt (W := fun cls d σ' H' => σ' = σZ ∧ E cls d H') (fun u s2 xx => tk u s2 (by obtain ⟨a2, B2, sI, p2, σ2, H2, cl2, d2, z1, z2, z3, z4, z5, z6, z7, z8, z9, z10⟩ := xx; exact ⟨a2, B2, sI, p2, σ2, H2, cl2, d2, z1, z2, z3, z4, z5, z6, z7, z8, by rw [z9]; exact hW _ _ _ z10⟩)) σZ pinsZ HZ s1 e s' I1 (by obtain ⟨a2, B2, H2, cl2, d2, z1, z2, z3, z4, z5, z6, z7, z8⟩ := hq; exact ⟨a2, B2, H2, cl2, d2, z1, z2, z3, z4, z5, z6, z7, rfl, z8⟩)
  | .ok (.ret u), hq => exact I1.after hq
  | .ok .next, hq => exact False.elim hq
  | .ok .brk, hq => exact False.elim hq
  | .ok .cont, hq => exact False.elim hq
/-- the lambda is made: nothing is lost -/
theorem lam_mk {c P : Addr} {params : Arguments} {body : Expr} {scope : Scope} {pos : Pos} {E : Value → Shared → Prop} {Q : Value → Shared → Prop} (I : Inv X pins σ H s) (TB : TabB X.base X.mg c P) (code : X.env.code = .ref c) (tab : TabS H P (X.env.qual ++ "<lambda>"))
    (hdef : defaultsOf params X.env = ([], [])) (free : ∀ y ∈ scope.names, y.2 = .free → ∃ c, X.env.cells.lookup y.1 = some c)
    (fin : ∀ (f c' : Addr) (pm ctv : Value) (H1 : Hp) (s' : Shared), Inv X pins σ H1 s' → (∀ b o, b ≠ P → H b = some o → H1 b = some o) → (∀ b, H1 b = none → H b = none) → TabS H1 P (X.env.qual ++ "<lambda>") → s'.heap.get? f = some (lamOb X params body scope pm c' ctv) → H1 f = none → f ∉ frs X.stack → H1 c' = some (CodeO c' (X.env.qual ++ "<lambda>")) → Q (.ref f) s') :
    wpAny (model X.prog X.w) X.A (eval (.Lambda params body scope pos) X.env) Q E s := by
  obtain ⟨tb, atP, ok3, known⟩ := tab
  have rawP : s.heap.get? P = some { cls := .none, data := .fields tb } := I.hok P _ atP
  have new : ∀ f, s.heap.objs.size ≤ f → f ∉ frs X.stack := fun f le m => by
    rcases List.mem_cons.mp (I.stkSub _ m) with z | z
    · exact absurd (z ▸ I.lt : f < s.heap.objs.size) (Nat.not_lt.mpr le)
    · exact I.nofs le z
  refine PySem.W.kla_eval hdef ?_
  cases seen : codeAmong pos tb.toList with
  | some cv =>
    obtain ⟨c', rfl, atc⟩ := known pos cv seen
    refine PySem.W.kla_makeFunctionHit (mg := X.mg) (c := c) (P := P) (ps := tb) (closure_ok free) I.ok.glob (I.mod.glob.keeps I.bk) code (TB.code.keeps I.bk) rawP ok3 seen (TB.bm.keeps I.bk) fun ctv h' tk more le => ?_
    exact fin h'.objs.size c' ((X.mg "__name__").getD .none) ctv H _ (I.kept fun b o z => Heap.get?_push_of_some _ (more b o z)) (fun _ _ _ z => z) (fun _ z => z) ⟨tb, atP, ok3, known⟩ (Heap.get?_push_size _ rfl) (I.hok.fresh le) (new _ le) atc
  | none =>
    refine PySem.W.kla_makeFunction (mg := X.mg) (c := c) (P := P) (ps := tb) (closure_ok free) I.ok.glob (I.mod.glob.keeps I.bk) code (TB.code.keeps I.bk) rawP ok3 seen TB.gP (TB.bm.keeps I.bk) fun c' ctv h' tk more ge lt rec ntb => ?_
    obtain ⟨c2, oc, vs, t, z2, hoc, hd, hv⟩ := rec
    cases z2
    have le : s.heap.objs.size ≤ h'.objs.size := Nat.le_trans ge (Nat.le_of_lt lt)
    have fc : H c' = none := I.hok.fresh ge
    have up : ∀ {b : Addr} {o : Obj}, h'.get? b = some o → (h'.push (lamOb X params body scope ((X.mg "__name__").getD .none) c' ctv)).get? b = some o := fun z => Heap.get?_push_of_some _ z
    have I1 := inv_table (t' := tk) (more := #[rawInt pos.line, rawInt pos.col, .ref c']) (h' := h'.push (lamOb X params body scope ((X.mg "__name__").getD .none) c' ctv)) I atP (fun b o hb z => up (more b o hb z)) (up ntb) ge ⟨oc, vs, t, up hoc, hd, hv⟩
    have ext : ExtN H (upd (upd H P (.tbl (tb ++ #[rawInt pos.line, rawInt pos.col, .ref c']))) c' (CodeO c' (X.env.qual ++ "<lambda>"))) := fun b o z n => by
      have bp : b ≠ P := fun y => by
        rw [y, atP] at z
        exact n tb (Option.some.inj z).symm
      rw [upd_ne (ne_of_none z fc), upd_ne bp]
      exact z
    have lst : (tb ++ #[rawInt pos.line, rawInt pos.col, .ref c']).toList = tb.toList ++ [rawInt pos.line, rawInt pos.col, .ref c'] := by simp
    have fs : h'.objs.size ≠ c' ∧ h'.objs.size ≠ P := ⟨Nat.ne_of_gt lt, Nat.ne_of_gt (Nat.lt_of_lt_of_le (Heap.lt_size rawP) le)⟩
    refine fin h'.objs.size c' ((X.mg "__name__").getD .none) ctv _ _ I1 (fun b o bp z => by rw [upd_ne (ne_of_none z fc), upd_ne bp]; exact z) (fun b z => ?_) ⟨_, by rw [upd_ne (ne_of_none atP fc), upd_same], by rw [lst]; exact PySem.TriplesOk_snoc _ _ _ _ ok3, fun p2 cv z => ?_⟩ (Heap.get?_push_size _ rfl) (by rw [upd_ne fs.1, upd_ne fs.2]; exact I.hok.fresh le) (new _ le) upd_same
    · by_cases y : b = c'
      · rw [y]; exact fc
      · rw [upd_ne y] at z
        by_cases y2 : b = P
        · rw [y2, upd_same] at z; cases z
        · rw [upd_ne y2] at z; exact z
    · rw [lst] at z
      rcases among_app _ ok3 z with y | y
      · obtain ⟨c0, y1, y2⟩ := known p2 cv y
        exact ⟨c0, y1, ext _ _ y2 codeO_ne⟩
      · exact ⟨c', y, upd_same⟩
/-- what the def that got the lambda makes of its reading -/
def Gives (X : Cx) (Ng : List Str) (x : Str) (sg : Scope) (g : Addr) (cdg : Value) (bg : List Stmt) (a q : Str) (TT : (XK → Hp → VK → Prop) → Hp → VK → Prop) : Prop :=
  ∀ (f c' : Addr) (s : Shared) (H : Hp) (Q : VK) (tl : XK → Hp → VK → Prop),
    (∀ (W : WX) (pn : List (Addr × Obj)) (xe : Value → Shared → Prop) (p1 p2 : Pos), Takes ((gotCx X Ng x sg g cdg s H).tr pn xe) W →
      PE ((gotCx X Ng x sg g cdg s H).tr pn xe) (.Call (.Name a p1) [] [] p2) (fun σZ HZ Q => ∃ E : XK, (∀ cls d H', E cls d H' → W cls d σZ H') ∧ σZ[0]? = some (some (.ref f)) ∧ HZ c' = some (CodeO c' q) ∧ tl E HZ Q)) →
    (∀ (E E' : XK) (H : Hp) (Q Q' : VK), (∀ cls d H', E cls d H' → E' cls d H') → (∀ v H', Q v H' → Q' v H') → tl E H Q → tl E' H Q') → H c' = some (CodeO c' q) → TT tl H Q →
    ∃ t, PSs (gotCx X Ng x sg g cdg s H).nox bg t ∧ t { nx := fun _ H' => Q .non H', rt := Q } (L2.start Ng [.ref f]) H
def tLam2 (P : Addr) (q : Str) (TT : (XK → Hp → VK → Prop) → Hp → VK → Prop) (t : XK → TE) : TE := fun σ H Q => TabS H P q ∧ ∀ H1, (∀ b o, b ≠ P → H b = some o → H1 b = some o) → (∀ b, H1 b = none → H b = none) → TabS H1 P q → TT (fun E H' Q' => t E σ H' Q') H1 Q
/-- x(lambda: body) -/
theorem pe_lam {TT : (XK → Hp → VK → Prop) → Hp → VK → Prop} {x a : Str} {g c P : Addr} {k : Nat} {pg : Arguments} {bg : List Stmt} {sg : Scope} {dV kV doc pm cdv ct oc : Value} {an od : Option Addr} {osl : Array (Option Value)} {Ng : List Str}
    {params : Arguments} {body : Expr} {scope : Scope} {t : XK → TE} {p lpos pos : Pos} (hg : Gl X x) (hm : X.mg x = some (.ref g)) (hk : PySem.W.keepIn X.K (.ref g) = true)
    (lk : X.K.lookup g = some ⟨oc, od, .func (PySem.W.fnOf x x pg bg sg dV kV doc pm an cdv ct), osl⟩) (hcg : PySem.W.codeIn X.K cdv x = true) (hb : Binds X.K (PySem.W.fnOf x x pg bg sg dV kV doc pm an cdv ct) [a] []) (Sg : FnScope Ng [a] sg) (hNg : Ng[0]? = some a) (hva : Vis sg a)
    (hG : Gives X Ng x sg g cdv bg a (X.env.qual ++ "<lambda>") TT) (TB : TabB X.base X.mg c P) (code : X.env.code = .ref c) (hr : Room (k + 2) X.A) (L : LamS X.env.scope scope) (hdef : defaultsOf params X.env = ([], []))
    (bind : ∀ (q : Str) (cl : List (Str × Addr)) (pm cv ctv : Value), bindArgs (PySem.W.kla_fn "<lambda>" q params body scope cl pm cv ctv) ⟨[], []⟩ = pure [])
    (hbody : ∀ (A : Around) (outer : List Env) (s : Shared) (H : Hp) (E : XK) (f c' : Addr), Room k (A.deeper (lamEnv X scope s.heap.objs.size f c')) → PE (lamCx X A outer s H E scope f c') body (t E))
    (mt : ∀ (σ : St) (E E' : XK) (H : Hp) (Q Q' : VK), (∀ cls d H', E cls d H' → E' cls d H') → (∀ v H', Q v H' → Q' v H') → t E σ H Q → t E' σ H Q')
    (hdb : (x == ("__debug__" : Str)) = false := by decide) (hd : (a == ("__debug__" : Str)) = false := by decide) (hcd : (a == ("__classdict__" : Str)) = false := by decide) :
    PE X (.Call (.Name x p) [.Lambda params body scope lpos] [] pos) (tLam2 P (X.env.qual ++ "<lambda>") TT t) := by
  refine ⟨fun pins s σ H Q I ⟨tab, h⟩ => wpAny_Call_Name_kw (ld_glob I hg hm (PySem.W.callWith_K (h₀ := X.base) I.ok.mod.kin hk ?_ (by rfl) (by rfl)) hdb)⟩
  show wpAny _ _ (spliced ((false, eval (.Lambda params body scope lpos) X.env) :: backTo pos (starEach [] X.env))) _ _ s
  refine Calls.spliced_cons (lam_mk I TB code tab hdef (L.has I.ok) fun f c' pm2 ctv H1 s1 I1 ex dm t1 atF nf ff atc => Calls.spliced_nil ⟨I1.kIn, ?_⟩)
  have key : codeAny (model X.prog X.w) X.A (.call (.ref g) ⟨[.ref f], []⟩) (CR CX0 X.stack X.prog X.w H1 s1 Q E0) s1 := by
    refine run_ofS (N := Ng) (ps := [a]) (us := [.ref f]) (vs := [.ref f]) lk hcg Sg hr I1.env0 (hb s1 [.ref f] I1.kIn rfl) (.cons rfl .nil) rfl fun hr2 => ?_
    obtain ⟨t2, ht2, hq2⟩ := hG f c' s1 H1 Q (fun E H' Q' => t E σ H' Q') (fun W pn xe p1 p2 tk => act_run (i := 0) I1 L atF nf ff (bind _ _ _ _ _) tk hr2 (fun E A outer s H hr3 => hbody A outer s H E f c' hr3) hNg hva hd hcd) (fun E E' H Q Q' => mt σ E E' H Q Q') atc (h H1 ex dm t1)
    exact ⟨t2, ht2.nox, hq2⟩
  refine wpAny_call (codeAny_mono key fun res s2 hq => ?_)
  match res, hq with
  | .error e, hq => exact (show False from hq).elim
  | .ok (.ret u), hq => exact I1.after hq
  | .ok .next, hq => exact False.elim hq
  | .ok .brk, hq => exact False.elim hq
  | .ok .cont, hq => exact False.elim hq
end
end L2

set_option Elab.async false
set_option linter.all false
set_option maxRecDepth 100000
/-! lambdas by values -/
namespace Hv
open PySem PySem.Spec PyProof.Rows L2 Hod LamX
/-- the table of the running def's code is among those that may change -/
def HasT (S : Hs) (P : Addr) (q : Str) : Prop := S.t P = true ∧ S.q P = q
def xlTs {K : PySem.W.Frag} (L : List (Addr × Str)) : XLT K := ⟨fun S _ _ _ _ => ∀ p ∈ L, HasT S p.1 p.2, fun _ _ _ _ _ _ h _ => h⟩
abbrev xlT {K : PySem.W.Frag} (P : Addr) : XLT K := xlTs [(P, lamQ)]
/-- what is raised is told to E -/
def xlE (K : PySem.W.Frag) (mg : Str → Option Value) (E : XK) (xw : XW) : XLT K := ⟨fun S B μ _ H => ∀ H' x dd flds, Ex S H H' → Good K S B μ H' → XdAt K (off B μ H') H' dd flds → xw x flds → E (.ref (ctOf mg x)) (some dd) H', fun _ _ _ _ _ _ h e H2 x dd flds e2 => h H2 x dd flds (e.trans e2)⟩
theorem pe_xlE {Y : Cx} {xw : XW} {E : XK} {e : Expr} {w : WE} (tk : Takes Y (fun cls d _ H => E cls d H)) (h : VE Y (xlOf Y xw) e w) : PE Y e (LE Y.K (xlE Y.K Y.mg E xw) w) :=
  pe_weak h fun σ H Q ⟨S, B, ρ, μ, Q2, st, w, k⟩ => ⟨S, B, ρ, μ, Q2, ⟨st.gd, st.sl, fun H' x dd flds e g xd q => wx_of tk (st.xl H' x dd flds e g xd q)⟩, w, k⟩
theorem tab_ok {K : PySem.W.Frag} {S : Hs} {B : Hid} {μ : Mem} {H H1 : Hp} {P : Addr} (g : Good K S B μ H) (tP : S.t P = true) (ext : ∀ b o, b ≠ P → H b = some o → H1 b = some o) (dm : ∀ b, H1 b = none → H b = none) (t1 : TabS H1 P (S.q P)) : Ex S H H1 ∧ Good K S B μ H1 := by
  obtain ⟨bP, ps, atP, _⟩ := g.tb P tP
  have nl : ∀ {a : Addr} {xs : List V}, H a = some (.lst xs) → a ≠ P := fun {a xs} h => ne_of h atP (fun z => nomatch z)
  have ex : Ex S H H1 := by
    refine ⟨fun a o s h => ext a o (fun z => ?_) h, dm, fun a c r _ h => ⟨r, ext _ _ (nl h) h⟩⟩
    have s2 : (S.d a || S.t a) = false := s
    rw [z, tP, Bool.or_true] at s2
    cases s2
  refine ⟨ex, fun a sa => ?_, fun a sa => ⟨(g.tb a sa).1, ?_⟩, fun a ba z => g.bd a ba (dm a z), fun a xs q => ?_⟩
  · obtain ⟨h1, c, ns, i, big, seed, h2, h3, h4⟩ := g.dr a sa
    exact ⟨h1, c, ns, i, big, seed, ext _ _ (nl h2) h2, ex.off g _ _ h3, h4⟩
  · by_cases e : a = P
    · rw [e]; exact t1
    · obtain ⟨_, ps2, k1, k2, k3⟩ := g.tb a sa
      refine ⟨ps2, ext _ _ e k1, k2, fun pos cv hc => ?_⟩
      obtain ⟨c, e1, e2⟩ := k3 pos cv hc
      exact ⟨c, e1, ext _ _ (ne_of e2 atP (fun z => by unfold LamX.CodeO at z; cases z)) e2⟩
  · obtain ⟨h1, o, vs, h2, hh, h3⟩ := g.ce a xs q
    have np : a ≠ P := ne_of h2 atP (fun z => by have := hol_chg hh; rw [z] at this; cases this)
    exact ⟨h1, o, vs, ext _ _ np h2, hh, h3.mono (ex.off g)⟩
/-! flat things as values -/
def toV : PyData → V
  | .bool b => .bl b
  | .int i => .int i
  | .str x => .str x
  | _ => .non
theorem flat_rp {K : PySem.W.Frag} {G : Hp} : ∀ {d : PyData}, flatD d = true → Rp K G (toV d) d
  | .none, _ => .non
  | .bool b, _ => .bl b
  | .int i, _ => .int i
  | .str x, _ => .str x
  | .list _, h => by cases h
  | .tuple _, h => by cases h
  | .dict _, h => by cases h
theorem flat_rps {K : PySem.W.Frag} {G : Hp} : ∀ {ds : List PyData}, ds.all flatD = true → Rps K G (ds.map toV) ds
  | [], _ => .nil
  | d :: ds, h => by
    simp only [List.all_cons, Bool.and_eq_true] at h
    exact .cons (flat_rp h.1) (flat_rps h.2)
theorem rp_flat {K : PySem.W.Frag} {G : Hp} {v : V} {d : PyData} (r : Rp K G v d) (h : flatD d = true) : v = toV d := by
  cases r <;> first | rfl | (cases h)
/-- a flat thing, or a tuple of such -/
def okD : PyData → Bool
  | .tuple ds => ds.all flatD && decide (ds.length ≤ 1000)
  | d => flatD d
def okRes (d : PyData) (H : Hp) (Q : VK) : Prop := match d with
  | .tuple ds => ∀ p, H p = none → Q (.ref p) (upd H p (.tup (ds.map toV)))
  | d => Q (toV d) H
theorem okRes_of {K : PySem.W.Frag} {S : Hs} {B : Hid} {μ : Mem} {H : Hp} {Q : VK} {Q2 : A → Prop} {d : PyData} (g : Good K S B μ H) (h : okD d = true) (k : ∀ v H' a, Ex S H H' → Good K S B μ H' → Ra K S μ (off B μ H') v a → Q2 a → Q v H') (q : Q2 (.dat d)) : okRes d H Q := by
  have flat : flatD d = true → Q (toV d) H := fun h => k _ H _ .refl g (.dat (flat_rp h)) q
  cases d with
  | tuple ds =>
    have h2 : (ds.all flatD && decide (ds.length ≤ 1000)) = true := h
    rw [Bool.and_eq_true] at h2
    intro p np
    obtain ⟨b1, b2⟩ := g.free np
    exact k _ _ _ (.new np) (g.new np) (.dat (.tup (.inl (.inl (off_upd b1 b2))) (flat_rps h2.1))) q
  | none => exact flat h
  | bool _ => exact flat h
  | int _ => exact flat h
  | str _ => exact flat h
  | list _ => cases h
  | dict _ => cases h
/-- the fields as they lie there -/
def FldV (H : Hp) (dd : Addr) (flds : List (Str × PyData)) : Prop := ∃ fs, H dd = some (.xd fs) ∧ ∀ f e, flds.lookup f = some e → flatD e = true → fs.lookup f = some (toV e)
theorem XdAt.fld {K : PySem.W.Frag} {G H : Hp} {dd : Addr} {flds : List (Str × PyData)} (h : XdAt K G H dd flds) : FldV H dd flds := by
  obtain ⟨fs, h1, h2⟩ := h
  refine ⟨fs, h1, fun f e he hf => ?_⟩
  obtain ⟨v, e1, e2⟩ := h2 f e he
  rw [e1, rp_flat e2 hf]
abbrev ErF := Str → List (Str × PyData) → Option PyData
/-- found = None; try: ask() except ..: found = .. -/
def TTf (mg : Str → Option Value) (er : ErF) : (XK → Hp → VK → Prop) → Hp → VK → Prop := fun tl H Q =>
  tl (fun cls d H' => ∃ x dd flds d', cls = .ref (ctOf mg x) ∧ d = some dd ∧ FldV H' dd flds ∧ er x flds = some d' ∧ okD d' = true ∧ okRes d' H' Q) H (fun _ H' => Q .non H')
/-- answer, word = None, w0; try: answer = ask() except ..: word = .. -/
def TTw (mg : Str → Option Value) (w0 : V) (er : ErF) : (XK → Hp → VK → Prop) → Hp → VK → Prop := fun tl H Q =>
  tl (fun cls d H' => ∃ x dd flds d', cls = .ref (ctOf mg x) ∧ d = some dd ∧ FldV H' dd flds ∧ er x flds = some d' ∧ flatD d' = true ∧ ∀ p, H' p = none → Q (.ref p) (upd H' p (.tup [.non, toV d']))) H (fun v H' => ∀ p, H' p = none → Q (.ref p) (upd H' p (.tup [v, w0])))
def wLamF (er : ErF) (we : XW → WE) : WE := fun ρ μ Q => we (fun x flds => ∃ d, er x flds = some d ∧ okD d = true ∧ Q (.dat d)) ρ μ (fun _ => Q (.dat .none))
def wLamW (w0 : PyData) (er : ErF) (we : XW → WE) : WE := fun ρ μ Q => we (fun x flds => ∃ d, er x flds = some d ∧ flatD d = true ∧ Q (.dat (.tuple [.none, d]))) ρ μ (fun a => match a with | .dat d => Q (.dat (.tuple [d, w0])) | _ => False)
section
variable {X : Cx} {xl : XLT X.K} {x a : Str} {g c P : Addr} {k : Nat} {pg : Arguments} {bg : List Stmt} {sg : Scope} {dV kV doc pm cdv ct oc : Value} {an od : Option Addr} {osl : Array (Option Value)} {Ng : List Str} {params : Arguments} {body : Expr} {scope : Scope} {p lpos pos : Pos} {er : ErF} {we : XW → WE}
/-- the def that is handed a lambda, as its callers know it -/
structure GotD (X : Cx) (x a : Str) (TT : (XK → Hp → VK → Prop) → Hp → VK → Prop) (q : Str := lamQ) : Prop where
  ex : ∃ (g : Addr) (pg : Arguments) (bg : List Stmt) (sg : Scope) (dV kV doc pm cdv ct oc : Value) (an od : Option Addr) (osl : Array (Option Value)) (Ng : List Str), X.mg x = some (.ref g) ∧ PySem.W.keepIn X.K (.ref g) = true ∧
    X.K.lookup g = some ⟨oc, od, .func (PySem.W.fnOf x x pg bg sg dV kV doc pm an cdv ct), osl⟩ ∧ PySem.W.codeIn X.K cdv x = true ∧ Binds X.K (PySem.W.fnOf x x pg bg sg dV kV doc pm an cdv ct) [a] [] ∧ FnScope Ng [a] sg ∧ Ng[0]? = some a ∧ Vis sg a ∧ Gives X Ng x sg g cdv bg a q TT
theorem lam_body {E : XK} {A : Around} {outer : List Env} {s : Shared} {H : Hp} {f c' : Addr} (h : ∀ xw, VE (lamCx X A outer s H E scope f c') (xlOf (lamCx X A outer s H E scope f c') xw) body (we xw)) : PE (lamCx X A outer s H E scope f c') body (fun σ H Q => ∃ xw, LE X.K (xlE X.K X.mg E xw) (we xw) σ H Q) :=
  ⟨fun pins s2 σ2 H2 Q2 I ⟨xw, z⟩ => (pe_xlE (takes_of (E := E) rfl rfl rfl rfl) (h xw)).run pins s2 σ2 H2 Q2 I z⟩
theorem lam_mono (σ : L2.St) (E E' : XK) (H : Hp) (Q Q' : VK) (he : ∀ cls d H', E cls d H' → E' cls d H') (hq : ∀ v H', Q v H' → Q' v H') (h : ∃ xw, LE X.K (xlE X.K X.mg E xw) (we xw) σ H Q) : ∃ xw, LE X.K (xlE X.K X.mg E' xw) (we xw) σ H Q' := by
  obtain ⟨xw, S, B, ρ, μ, Q2, st, w, k⟩ := h
  exact ⟨xw, S, B, ρ, μ, Q2, ⟨st.gd, st.sl, fun H' x dd flds e g xd q => he _ _ _ (st.xl H' x dd flds e g xd q)⟩, w, fun v H' a e g r q => hq _ _ (k v H' a e g r q)⟩
theorem ve_lamF {q : Str} (D : GotD X x a (TTf X.mg er) q) (hg : Gl X x) (TB : TabB X.base X.mg c P) (code : X.env.code = .ref c) (hq : X.env.qual ++ "<lambda>" = q) (hr : Room (k + 2) X.A) (L : LamS X.env.scope scope)
    (hbody : ∀ (xw : XW) (A : Around) (outer : List Env) (s : Shared) (H : Hp) (E : XK) (f c' : Addr), Room k (A.deeper (lamEnv X scope s.heap.objs.size f c')) → VE (lamCx X A outer s H E scope f c') (xlOf (lamCx X A outer s H E scope f c') xw) body (we xw))
    (hdef : defaultsOf params X.env = ([], []) := by rfl) (bind : ∀ (q : Str) (cl : List (Str × Addr)) (pm cv ctv : Value), bindArgs (PySem.W.kla_fn "<lambda>" q params body scope cl pm cv ctv) ⟨[], []⟩ = pure [] := by intros; rfl)
    (hdb : (x == ("__debug__" : Str)) = false := by decide) (hd : (a == ("__debug__" : Str)) = false := by decide) (hcd : (a == ("__classdict__" : Str)) = false := by decide) (hx : ∀ S B μ σ H, xl.p S B μ σ H → HasT S P q := by intro S B μ σ H h; first | exact h (_, _) (List.Mem.head _) | exact h (_, _) (List.Mem.tail _ (List.Mem.head _)) | exact h (_, _) (List.Mem.tail _ (List.Mem.tail _ (List.Mem.head _)))) :
    VE X xl (.Call (.Name x p) [.Lambda params body scope lpos] [] pos) (wLamF er we) := by
  obtain ⟨g, pg, bg, sg, dV, kV, doc, pm, cdv, ct, oc, an, od, osl, Ng, hm, hk, lk, hcg, hb, Sg, hNg, hva, hG⟩ := D.ex
  refine pe_weak (pe_lam hg hm hk lk hcg hb Sg hNg hva (by rw [hq]; exact hG) TB code hr L hdef bind (fun A outer s H E f c' hr2 => lam_body fun xw => hbody xw A outer s H E f c' hr2) lam_mono hdb hd hcd) fun σ H Q ⟨S, B, ρ, μ, Q2, st, w, k⟩ => ?_
  rw [hq]
  obtain ⟨tP, tq⟩ := hx _ _ _ _ _ st.xl
  refine ⟨by rw [← tq]; exact (st.gd.tb P tP).2, fun H1 ext dm t1 => ?_⟩
  obtain ⟨e1, g1⟩ := tab_ok st.gd tP ext dm (by rw [tq]; exact t1)
  refine ⟨_, S, B, ρ, μ, _, ⟨g1, st.sl.mono (e1.off st.gd), fun H2 y dd flds e2 g2 xd ⟨d, h1, h2, h3⟩ => ⟨y, dd, flds, d, rfl, rfl, xd.fld, h1, h2, okRes_of g2 h2 (fun v H3 a e3 g3 r3 q3 => k v H3 a (e1.trans (e2.trans e3)) g3 r3 q3) h3⟩⟩, w, fun v H2 a e2 g2 _ q2 => k _ H2 _ (e1.trans e2) g2 (.dat .non) q2⟩
theorem ve_lamW {w0 : PyData} (f0 : flatD w0 = true) {q : Str} (D : GotD X x a (TTw X.mg (toV w0) er) q) (hg : Gl X x) (TB : TabB X.base X.mg c P) (code : X.env.code = .ref c) (hq : X.env.qual ++ "<lambda>" = q) (hr : Room (k + 2) X.A) (L : LamS X.env.scope scope)
    (hbody : ∀ (xw : XW) (A : Around) (outer : List Env) (s : Shared) (H : Hp) (E : XK) (f c' : Addr), Room k (A.deeper (lamEnv X scope s.heap.objs.size f c')) → VE (lamCx X A outer s H E scope f c') (xlOf (lamCx X A outer s H E scope f c') xw) body (we xw))
    (hdef : defaultsOf params X.env = ([], []) := by rfl) (bind : ∀ (q : Str) (cl : List (Str × Addr)) (pm cv ctv : Value), bindArgs (PySem.W.kla_fn "<lambda>" q params body scope cl pm cv ctv) ⟨[], []⟩ = pure [] := by intros; rfl)
    (hdb : (x == ("__debug__" : Str)) = false := by decide) (hd : (a == ("__debug__" : Str)) = false := by decide) (hcd : (a == ("__classdict__" : Str)) = false := by decide) (hx : ∀ S B μ σ H, xl.p S B μ σ H → HasT S P q := by intro S B μ σ H h; first | exact h (_, _) (List.Mem.head _) | exact h (_, _) (List.Mem.tail _ (List.Mem.head _)) | exact h (_, _) (List.Mem.tail _ (List.Mem.tail _ (List.Mem.head _)))) :
    VE X xl (.Call (.Name x p) [.Lambda params body scope lpos] [] pos) (wLamW w0 er we) := by
  obtain ⟨g, pg, bg, sg, dV, kV, doc, pm, cdv, ct, oc, an, od, osl, Ng, hm, hk, lk, hcg, hb, Sg, hNg, hva, hG⟩ := D.ex
  refine pe_weak (pe_lam hg hm hk lk hcg hb Sg hNg hva (by rw [hq]; exact hG) TB code hr L hdef bind (fun A outer s H E f c' hr2 => lam_body fun xw => hbody xw A outer s H E f c' hr2) lam_mono hdb hd hcd) fun σ H Q ⟨S, B, ρ, μ, Q2, st, w, k⟩ => ?_
  rw [hq]
  obtain ⟨tP, tq⟩ := hx _ _ _ _ _ st.xl
  refine ⟨by rw [← tq]; exact (st.gd.tb P tP).2, fun H1 ext dm t1 => ?_⟩
  obtain ⟨e1, g1⟩ := tab_ok st.gd tP ext dm (by rw [tq]; exact t1)
  refine ⟨_, S, B, ρ, μ, _, ⟨g1, st.sl.mono (e1.off st.gd), fun H2 y dd flds e2 g2 xd ⟨d, h1, h2, h3⟩ => ⟨y, dd, flds, d, rfl, rfl, xd.fld, h1, h2, fun p np => ?_⟩⟩, w, fun v H2 a e2 g2 ra q2 p np => ?_⟩
  · cases ra with
    | dat ra =>
      obtain ⟨b1, b2⟩ := g2.free np
      exact k _ _ _ (e1.trans (e2.trans (.new np))) (g2.new np) (.dat (.tup (.inl (.inl (off_upd b1 b2))) (.cons (ra.mono ((Ex.new np).off g2) _ _) (.cons (flat_rp f0) .nil)))) q2
    | _ => exact q2.elim
  · obtain ⟨b1, b2⟩ := g2.free np
    exact k _ _ _ (e1.trans (e2.trans (.new np))) (g2.new np) (.dat (.tup (.inl (.inl (off_upd b1 b2))) (.cons .non (.cons (flat_rp h2) .nil)))) h3
end
end Hv

set_option Elab.async false
set_option linter.all false
set_option maxRecDepth 100000
/-! what the texts of exception classes and of the defs that catch them ask -/
namespace Hv
open PySem PySem.Spec PyProof.Rows L2 Hod LamX NdefX
def clsInit : Stmt → Stmt
  | .ClassDef (body := b) .. => b.headD (.Pass ⟨0, 0, 0, 0⟩)
  | s => s
def Made (H : Hp) (a C dx : Addr) (fs : List (Str × V)) (H2 : Hp) : Prop := H2 a = some (exo a C (some dx)) ∧ H2 dx = some (exd dx fs) ∧ ∀ b, b ≠ a → b ≠ dx → H2 b = H b
theorem made_new {H : Hp} {a C dx : Addr} {fs : List (Str × V)} (n : dx ≠ a) : Made H a C dx fs (upd (upd H dx (exd dx fs)) a (exo a C (some dx))) := ⟨upd_same, by rw [upd_ne n, upd_same], fun b h1 h2 => by rw [upd_ne h1, upd_ne h2]⟩
theorem made_put {H H2 : Hp} {a C dx : Addr} {fs gs : List (Str × V)} (n : dx ≠ a) (m : Made H a C dx fs H2) : Made H a C dx gs (upd H2 dx (exd dx gs)) := ⟨by rw [upd_ne (Ne.symm n)]; exact m.1, upd_same, fun b h1 h2 => by rw [upd_ne h2]; exact m.2.2 b h1 h2⟩
theorem lk0 {x : V} : ∀ f v, List.lookup f [(("word" : Str), x)] = some v → List.lookup f [(("word" : Str), x)] = some v := fun _ _ h => h
theorem lk1 {x y : V} {n : Str} (h1 : n ≠ "word") : ∀ f v, List.lookup f [(("word" : Str), x), (n, y)] = some v → List.lookup f [(n, y), (("word" : Str), x)] = some v := fun f v h => by
  rw [lookup_put, lookup_put] at h ⊢
  by_cases e : f = "word"
  · rw [if_pos e] at h
    rw [if_neg (fun z => h1 (z.symm.trans e)), if_pos e]
    exact h
  · rw [if_neg e] at h
    by_cases e2 : f = n
    · rw [if_pos e2] at h ⊢; exact h
    · rw [if_neg e2] at h; cases h
theorem lk2 {x y z : V} {n m : Str} (h1 : n ≠ "word") (h2 : m ≠ "word") (h3 : m ≠ n) : ∀ f v, List.lookup f [(("word" : Str), x), (n, y), (m, z)] = some v → List.lookup f [(m, z), (n, y), (("word" : Str), x)] = some v := fun f v h => by
  rw [lookup_put, lookup_put, lookup_put] at h ⊢
  by_cases e : f = "word"
  · rw [if_pos e] at h
    rw [if_neg (fun q => h2 (q.symm.trans e)), if_neg (fun q => h1 (q.symm.trans e)), if_pos e]
    exact h
  · rw [if_neg e] at h
    by_cases e2 : f = n
    · rw [if_pos e2] at h
      rw [if_neg (fun q => h3 (q.symm.trans e2)), if_pos e2]
      exact h
    · rw [if_neg e2] at h
      by_cases e3 : f = m
      · rw [if_pos e3] at h ⊢; exact h
      · rw [if_neg e3] at h; cases h
/-! fields of what was caught, in a clause's suite -/
def tXv (K : PySem.W.Frag) (j : Nat) (a : Addr) (cls : Value) (d : Option Addr) (f : Str) : TE := fun σ H Q => σ[j]? = some (some (.ref a)) ∧ ∃ C dd fs v, cls = .ref C ∧ XfC K C ∧ PySem.W.findIn K (.ref C) f = some none ∧ d = some dd ∧ H dd = some (.xd fs) ∧ fs.lookup f = some v ∧ Q v H
theorem pe_xv {X : Cx} {a : Addr} {oe : Obj} {cls : Value} {d : Option Addr} {pn : List (Addr × Obj)} {x f : Str} {p pos : Pos} (j : Nat) (hz : Zc cls d oe) (hf : ∃ vs, oe.data = .fields vs) (hN : X.N[j]? = some x := by rfl)
    (hv : Vis X.env.scope x := by first | exact Or.inl rfl | exact Or.inr (Or.inl rfl) | exact Or.inr (Or.inr rfl)) (hd : (x == ("__debug__" : Str)) = false := by decide) (hcd : (x == ("__classdict__" : Str)) = false := by decide)
    (hb : attributeBase (.Name x p) f X.env (eval (.Name x p) X.env) = eval (.Name x p) X.env := by rfl) : PE (X.suite a ((a, oe) :: pn)) (.Attribute (.Name x p) f pos) (tXv X.K j a cls d f) := by
  refine ⟨fun pins s σ H Q I h => ?_⟩
  obtain ⟨hs, C, dd, fs, v, ec, T, hno, ed, hx, hl, q⟩ := h
  have V := pe_var (X := X.suite a ((a, oe) :: pn)) (i := j) (pos := p) hN hv hd hcd
  exact (pe_xf (pos := pos) T hno hz hf V hb).run pins s σ H Q I ⟨.ref a, hs, rfl, ec, dd, fs, v, ed, hx, hl, q⟩
/-- the classes that are raised, those that clauses name, which is under which -/
structure ExTab (K : PySem.W.Frag) (mg : Str → Option Value) (CL : List (Str × List Str)) (HL : List Str) (sub : Str → Str → Bool) : Prop where
  xf : ∀ x fs, (x, fs) ∈ CL → XfC K (ctOf mg x) ∧ ∀ f ∈ fs, PySem.W.findIn K (.ref (ctOf mg x)) f = some none
  em : ∀ x fs y, (x, fs) ∈ CL → y ∈ HL → PySem.W.exmOne K (.ref (ctOf mg x)) (.ref (ctOf mg y)) = some (sub x y)
section
variable {K : PySem.W.Frag} {Wo : WX} {D : Ends} {c cls : Value} {i : Nat} {ts : Addr → Value → Option Addr → TS} {l : List Clause} {d : Option Addr} {σ : L2.St} {H : Hp}
theorem cl_hit (hb : PySem.W.exmOne K cls c = some true) (h : ∀ a, H a = none → ts a cls d (endsAs i D) (σ.set i (some (.ref a))) H) : wClauses K Wo D ((c, i, ts) :: l) cls d σ H := ⟨true, hb, fun _ => h, fun z => nomatch z⟩
theorem cl_miss (hb : PySem.W.exmOne K cls c = some false) (h : wClauses K Wo D l cls d σ H) : wClauses K Wo D ((c, i, ts) :: l) cls d σ H := ⟨false, hb, (fun z => nomatch z), fun _ => h⟩
theorem xv_of {j : Nat} {a C dd : Addr} {fs : List (Str × V)} {f : Str} {v : V} {R : VK} (hs : σ[j]? = some (some (.ref a))) (X : XfC K C) (n1 : PySem.W.findIn K (.ref C) f = some none) (h : H dd = some (.xd fs)) (l1 : fs.lookup f = some v) (q : R v H) : tXv K j a (.ref C) (some dd) f σ H R := ⟨hs, C, dd, fs, v, rfl, X, n1, rfl, h, l1, q⟩
theorem xv2_of {j : Nat} {a C dd : Addr} {fs : List (Str × V)} {f1 f2 : Str} {v1 v2 : V} {R : VK} (hs : σ[j]? = some (some (.ref a))) (X : XfC K C) (n1 : PySem.W.findIn K (.ref C) f1 = some none) (n2 : PySem.W.findIn K (.ref C) f2 = some none) (h : H dd = some (.xd fs)) (l1 : fs.lookup f1 = some v1) (l2 : fs.lookup f2 = some v2) (q : ∀ p, H p = none → R (.ref p) (upd H p (.tup [v1, v2]))) :
    tTup (tCons (tXv K j a (.ref C) (some dd) f1) (tCons (tXv K j a (.ref C) (some dd) f2) tNil)) σ H R := by
  unfold tTup tCons tNil
  refine xv_of hs X n1 h l1 ?_
  refine xv_of hs X n2 h l2 ?_
  exact ⟨Nat.le_of_lt (small1000 (Nat.le_of_ble_eq_true rfl)), q⟩
end
/-- a field that is read -/
theorem fld_at {H : Hp} {dd : Addr} {flds : List (Str × PyData)} {f : Str} {e : PyData} (h : FldV H dd flds) (hl : flds.lookup f = some e) (hf : flatD e = true) : ∃ fs, H dd = some (.xd fs) ∧ fs.lookup f = some (toV e) := by
  obtain ⟨fs, h1, h2⟩ := h
  exact ⟨fs, h1, h2 f e hl hf⟩
theorem x_raise {ρ : Rho} {μ : Mem} {E : Ends2} {xw : XW} {x wd : Str} {ns : List Str} {u : WA} {as : List A} {ds : List PyData} (h : EvAs u ρ μ as) (q : xw x (("word", .str wd) :: ns.zip ds)) (hf : ∀ d ∈ ds, fmtD d) (hd : dats as = some ds := by rfl) (hl : ds.length = ns.length := by rfl) (hl2 : ns.length ≤ 1000 := by decide) : wRaise xw x wd ns u E ρ μ :=
  h _ (by show (match dats as with | some ds => _ | none => False); rw [hd]; exact ⟨hl, hl2, hf, q⟩)
theorem x_callX {ρ : Rho} {μ : Mem} {xw : XW} {F : FSX} {v : WA} {as : List A} {Q : A → Prop} (h : EvAs v ρ μ as) (hF : F as (fun d => Q (.dat d)) xw) (hn : noOwn as = true := by rfl) : wCallX xw F v ρ μ Q := h _ (by show wFX F μ as Q xw; unfold wFX; rw [if_pos hn]; exact hF)
theorem x_callKX {ρ : Rho} {μ : Mem} {xw : XW} {F : FSX} {gA : List A → List A → List A} {u v : WA} {as bs cs : List A} {Q : A → Prop} (h : EvAs u ρ μ as) (h2 : EvAs v ρ μ bs) (hF : F cs (fun d => Q (.dat d)) xw) (hc : gA as bs = cs := by rfl) (hn : noOwn cs = true := by rfl) : wCallKX xw F gA u v ρ μ Q := h _ (h2 _ (by show wFX F μ (gA as bs) Q xw; rw [hc]; unfold wFX; rw [if_pos hn]; exact hF))
section
variable {ρ : Rho} {μ : Mem} {E : Ends2} {W2 : WS} {xw : XW} {F : FSX} {v : WA} {as : List A} {n : Nat}
theorem s_dropX (h : EvAs v ρ μ as) (hF : F as (fun _ => W2 E ρ μ) xw) (hn : noOwn as = true := by rfl) : wSeq (wDrop (wCallX xw F v)) W2 E ρ μ := x_callX (Q := fun _ => W2 E ρ μ) h hF hn
theorem s_setX (h : EvAs v ρ μ as) (hF : F as (fun d => W2 E (ρ.set n (some (.dat d))) μ) xw) (hn : noOwn as = true := by rfl) : wSeq (wSet n (wCallX xw F v)) W2 E ρ μ := x_callX (Q := fun a => W2 E (ρ.set n (some a)) μ) h hF hn
theorem x_retX (h : EvAs v ρ μ as) (hF : F as (fun d => retA E μ (.dat d)) xw) (hn : noOwn as = true := by rfl) : wRet (wCallX xw F v) E ρ μ := x_callX (Q := fun a => retA E μ a) h hF hn
end
theorem fmt_lt {i : Int} (h : i.natAbs < 2 ^ 1000) : fmtD (.int i) := h
end Hv

set_option Elab.async false
set_option linter.all false
set_option maxRecDepth 100000
/-! the end of a law that makes lambdas -/
namespace Hv
open PySem PySem.Spec PyProof.Rows L2 Hod LamX NdefX
def spLawT (K : PySem.W.Frag) (P : Addr) : Sp := fun vs H Q _ => ∃ (a : Addr) (ns : List Int), vs = [.ref a] ∧ SqL K H a (ns.map V.int) ∧ ns.length ≤ 63 ∧ H P = some (.tbl #[]) ∧ ∀ H', Q (.bl true) H'
theorem walk_T {l : PySem.W.OpenLaw} {n k : Nat} {q : Program} {loose : List Str} {XP : (Str → Option Value) → Heap → Prop} {YP : World → Heap → Prop} {d : DefRec} {K : Params → PySem.W.Frag} {x : Str}
    (hn : l.most = some n) (hn2 : n ≤ sizeLine) (h63 : n ≤ 63) (hdf : d.params.defaults = []) (hr : Room k callerA) (hY : ∀ (w : World) (h : Heap), YP w h → (K w.params).In h) (hrec : (recsOf q).find? (fun e => e.name == d.name) = some d)
    (F : ∀ (w : World) (mg : Str → Option Value) (fa : Addr) (h : Heap), (K w.params).In h → h.Ns mainGlobals mg → mg d.name = some (.ref fa) →
      ∃ (c P : Addr) (fd : FuncData), PySem.W.tabIn (K w.params) d.name = some (c, P) ∧ (K w.params).lookup P = none ∧ (∀ (s : Shared) (u : Value), BindsTo s fd ⟨[u], []⟩ [(x, u)]) ∧
        ∀ base : Heap, (K w.params).In base → base.Ns mainGlobals mg → TabB base mg c P → FnOk l.prog w (K w.params) mg base CX0 k fa fd [x] (spLawT (K w.params) P)) :
    PySem.W.WalkO q loose XP YP l.row.toRowW d [] (fun f vs => PySem.call f vs) := by
  refine Att.attach_callB hn hdf fun w s₀ s₁ mg mb fa o pm cd doc a vs ns G Y ho hd hcd hmg hobj hints hlen hbits hg => ?_
  have KX := hY w _ Y
  obtain ⟨c, P, fd, ht, nP, hb, hF⟩ := F w mg fa _ KX G.T.g hmg
  obtain ⟨C, hP⟩ := PySem.W.tab_of G.T KX hrec ht
  exact law_callTs (CX := CX0) (cs := [(c, P)]) (sp := spLawT (K w.params) P) KX G.T.g G.T.b G.T.builtins G.T.nolimit hg (fun p hp => by rw [List.mem_singleton.mp hp]; exact hP) (fun p hp => by rw [List.mem_singleton.mp hp]; exact nP) (fun p hp => by rw [List.mem_singleton.mp hp]; exact C) G.T.bmain hobj hints (Nat.le_trans hlen hn2) hr
    (fun base h1 h2 h3 => hF base h1 h2 (h3 (c, P) (List.mem_singleton.mpr rfl))) hb (fun H hH hS => ⟨a, ns, rfl, hS, Nat.le_trans hlen h63, hH (c, P) (List.mem_singleton.mpr rfl), fun _ => rfl⟩) fun H e s' z => z
theorem law_startX {K : PySem.W.Frag} {xl : XLT K} {i n : Nat} {W : WS} {D : Ends} {H : Hp} {a : Addr} {ns : List Int} {E : XK} (tb : Addr → Bool) (tq : Addr → Str) (ht : ∀ b, tb b = true → LamX.TabS H b (tq b)) (hx : ∀ (S : Hs) B μ σ H, S.t = tb → S.q = tq → xl.p S B μ σ H) (hi : i < n) (hS : SqL K H a (ns.map V.int)) (hl : ns.length ≤ 63) (hrt : ∀ H', D.rt (.bl true) H')
    (hw : W lawE ((List.replicate (n + 1) none).set (i + 1) (some .drw)) emp) : tSeq (tAsg (tCall (spOpen K) [] E (tCons (tVar 0) tNil)) (gName (i + 1))) (LS K xl W) D (some (.ref a) :: List.replicate n none) H := by
  refine ⟨.ref a, rfl, a, ns, rfl, hS, hl, fun d c H2 sm nd nc dc => ?_⟩
  obtain ⟨j, big, seed, h1, h2, h3⟩ := dc
  have ncd : c ≠ d := cell_ne h1 h2
  have ht2 : ∀ b, tb b = true → LamX.TabS H2 b (tq b) := fun b hb => (ht b hb).ext sm
  have ntc : ∀ b xs, H2 b = some (.lst xs) → tb b = false := fun b xs hb => by
    cases q : tb b with
    | false => rfl
    | true =>
      obtain ⟨ps, e, _⟩ := ht2 b q
      rw [hb] at e
      cases e
  have vis : ∀ b, b ≠ d → tb b = false → off (fun x => decide (x = d) || tb x) emp H2 b = H2 b := fun b hb hc => off_of (by simp [hb, hc]) rfl
  refine ⟨⟨fun x => decide (x = d), tb, tq⟩, fun x => decide (x = d) || tb x, H2, off (fun x => decide (x = d) || tb x) emp H2, _, emp, lawE, .of ⟨fun b hb => ?_, fun b hb => ⟨by simp [show tb b = true from hb], ht2 b hb⟩, fun b hb => ?_, fun b xs q => nomatch q⟩ ?_ .refl (fun _ _ => rfl) (Same.refl _) (fun _ _ _ _ _ => hx _ _ _ _ _ rfl rfl), hw, ⟨?_, ?_, ?_, ?_, fun _ _ _ _ _ _ _ q => q.elim⟩⟩
  · have e : b = d := of_decide_eq_true hb
    subst e
    exact ⟨by simp, c, ns, j, big, seed, h1, by rw [vis c ncd (ntc c _ h2)]; exact h2, h3⟩
  · have hb : (decide (b = d) || tb b) = true := hb
    rcases Bool.or_eq_true_iff.mp hb with e | e
    · have e : b = d := of_decide_eq_true e
      rw [e, h1]
      exact fun z => nomatch z
    · obtain ⟨ps, e2, _⟩ := ht2 b e
      rw [e2]
      exact fun z => nomatch z
  · have base : Sls K ⟨fun x => decide (x = d), tb, tq⟩ emp (off (fun x => decide (x = d) || tb x) emp H2) (some (.ref a) :: List.replicate n none) (List.replicate (n + 1) none) := by
      rw [List.replicate_succ]
      refine .any ?_
      have q := Sls.start (K := K) (S := ⟨fun x => decide (x = d), tb, tq⟩) (μ := emp) (G := off (fun x => decide (x = d) || tb x) emp H2) (as := []) (vs := []) n .nil
      simpa using q
    exact base.set (i + 1) (.drw (decide_eq_true rfl))
  · exact fun _ _ _ _ _ q => q.elim
  · exact fun _ _ _ _ _ q => q.elim
  · exact fun _ _ _ _ _ q => q.elim
  · intro v H' dd _ _ r _ q
    have q : dd = .bool true := q
    subst q
    cases r
    exact hrt H'
theorem tabs_nil {H : Hp} {P : Addr} {q : Str} (h : H P = some (.tbl #[])) : TabS H P q := ⟨#[], h, trivial, fun pos cv hc => nomatch hc⟩
/-- the start of a law that makes lambdas -/
theorem law_lam {K : PySem.W.Frag} {P : Addr} {i n : Nat} {W : WS} {D : Ends} {H : Hp} {a : Addr} {ns : List Int} {E : XK} (hP : H P = some (.tbl #[])) (hi : i < n) (hS : SqL K H a (ns.map V.int)) (hl : ns.length ≤ 63) (hrt : ∀ H', D.rt (.bl true) H')
    (hw : W lawE ((List.replicate (n + 1) none).set (i + 1) (some .drw)) emp) : tSeq (tAsg (tCall (spOpen K) [] E (tCons (tVar 0) tNil)) (gName (i + 1))) (LS K (xlT P) W) D (some (.ref a) :: List.replicate n none) H :=
  law_startX (fun b => decide (b = P)) (fun _ => lamQ) (fun b hb => by rw [of_decide_eq_true hb]; exact tabs_nil hP) (fun S B μ σ H h h2 p hp => by rw [List.mem_singleton.mp hp]; exact ⟨by rw [h]; simp, by rw [h2]⟩) hi hS hl hrt hw
def qOf (L : List (Addr × Str)) (a : Addr) : Str := match L.find? (fun p => decide (p.1 = a)) with | some p => p.2 | none => lamQ
theorem qOf_mem : ∀ {L : List (Addr × Str)}, (L.map (·.1)).Nodup → ∀ p ∈ L, qOf L p.1 = p.2
  | [], _, _, h => nomatch h
  | r :: L, nd, p, h => by
    have nd2 := List.nodup_cons.mp (show (r.1 :: L.map (·.1)).Nodup from nd)
    unfold qOf
    rw [List.find?_cons]
    by_cases e : r.1 = p.1
    · rw [decide_eq_true e]
      rcases List.mem_cons.mp h with rfl | h2
      · rfl
      · exact absurd (List.mem_map.mpr ⟨p, h2, e.symm⟩) nd2.1
    · rw [decide_eq_false e]
      rcases List.mem_cons.mp h with rfl | h2
      · exact absurd rfl e
      · exact qOf_mem nd2.2 p h2
/-- .. with several tables -/
theorem law_lams {K : PySem.W.Frag} {L : List (Addr × Str)} {i n : Nat} {W : WS} {D : Ends} {H : Hp} {a : Addr} {ns : List Int} {E : XK} (nd : (L.map (·.1)).Nodup) (hP : ∀ p ∈ L, H p.1 = some (.tbl #[])) (hi : i < n) (hS : SqL K H a (ns.map V.int)) (hl : ns.length ≤ 63) (hrt : ∀ H', D.rt (.bl true) H')
    (hw : W lawE ((List.replicate (n + 1) none).set (i + 1) (some .drw)) emp) : tSeq (tAsg (tCall (spOpen K) [] E (tCons (tVar 0) tNil)) (gName (i + 1))) (LS K (xlTs L) W) D (some (.ref a) :: List.replicate n none) H :=
  law_startX (fun b => L.any fun p => decide (p.1 = b)) (qOf L) (fun b hb => by
    obtain ⟨p, hp, e⟩ := List.any_eq_true.mp hb
    rw [← of_decide_eq_true e]
    exact tabs_nil (hP p hp)) (fun S B μ σ H h h2 p hp => ⟨by rw [h]; exact List.any_eq_true.mpr ⟨p, hp, decide_eq_true rfl⟩, by rw [h2]; exact qOf_mem nd p hp⟩) hi hS hl hrt hw
def spLawTs (K : PySem.W.Frag) (Ps : List Addr) : Sp := fun vs H Q _ => ∃ (a : Addr) (ns : List Int), vs = [.ref a] ∧ SqL K H a (ns.map V.int) ∧ ns.length ≤ 63 ∧ (∀ P ∈ Ps, H P = some (.tbl #[])) ∧ ∀ H', Q (.bl true) H'
theorem walk_Ts {l : PySem.W.OpenLaw} {n k : Nat} {q : Program} {loose : List Str} {XP : (Str → Option Value) → Heap → Prop} {YP : World → Heap → Prop} {d : DefRec} {K : Params → PySem.W.Frag} {x : Str} (names : List Str)
    (hn : l.most = some n) (hn2 : n ≤ sizeLine) (h63 : n ≤ 63) (hdf : d.params.defaults = []) (hr : Room k callerA) (hY : ∀ (w : World) (h : Heap), YP w h → (K w.params).In h) (hrec : names.all (fun y => ((recsOf q).find? (fun e => e.name == y)).isSome) = true)
    (F : ∀ (w : World) (mg : Str → Option Value) (fa : Addr) (h : Heap), (K w.params).In h → h.Ns mainGlobals mg → mg d.name = some (.ref fa) →
      ∃ (cs : List (Addr × Addr)) (fd : FuncData), (∀ p ∈ cs, (∃ y ∈ names, PySem.W.tabIn (K w.params) y = some p) ∧ (K w.params).lookup p.2 = none) ∧ (∀ (s : Shared) (u : Value), BindsTo s fd ⟨[u], []⟩ [(x, u)]) ∧
        ∀ base : Heap, (K w.params).In base → base.Ns mainGlobals mg → (∀ p ∈ cs, TabB base mg p.1 p.2) → FnOk l.prog w (K w.params) mg base CX0 k fa fd [x] (spLawTs (K w.params) (cs.map (·.2)))) :
    PySem.W.WalkO q loose XP YP l.row.toRowW d [] (fun f vs => PySem.call f vs) := by
  refine Att.attach_callB hn hdf fun w s₀ s₁ mg mb fa o pm cd doc a vs ns G Y ho hd hcd hmg hobj hints hlen hbits hg => ?_
  have KX := hY w _ Y
  obtain ⟨cs, fd, hc, hb, hF⟩ := F w mg fa _ KX G.T.g hmg
  have tb : ∀ p ∈ cs, PySem.W.CodeHd s₁.heap p.1 p.2 ∧ s₁.heap.get? p.2 = some (PySem.W.tabObj #[]) := fun p hp => by
    obtain ⟨⟨y, hy, ht⟩, _⟩ := hc p hp
    have z := List.all_eq_true.mp hrec y hy
    obtain ⟨d2, hd2⟩ := Option.isSome_iff_exists.mp z
    exact PySem.W.tab_of G.T KX hd2 ht
  exact law_callTs (CX := CX0) (cs := cs) (sp := spLawTs (K w.params) (cs.map (·.2))) KX G.T.g G.T.b G.T.builtins G.T.nolimit hg (fun p hp => (tb p hp).2) (fun p hp => (hc p hp).2) (fun p hp => (tb p hp).1) G.T.bmain hobj hints (Nat.le_trans hlen hn2) hr
    hF hb (fun H hH hS => ⟨a, ns, rfl, hS, Nat.le_trans hlen h63, fun P hP => by obtain ⟨p, hp, e⟩ := List.mem_map.mp hP; rw [← e]; exact hH p hp, fun _ => rfl⟩) fun H e s' z => z
theorem ok_code {Pg : Program} {w : World} {K : PySem.W.Frag} {mg : Str → Option Value} {base : Heap} {k : Nat} {f c : Addr} {name qual : Str} {params : Arguments} {body : List Stmt} {scope : Scope} {dV kV doc pm ct oc : Value} {an od : Option Addr} {osl : Array (Option Value)} {N ps : List Str} {sp : Sp}
    (lk : K.lookup f = some ⟨oc, od, .func (PySem.W.fnOf name qual params body scope dV kV doc pm an (.ref c) ct), osl⟩) (hcd : PySem.W.codeIn K (.ref c) qual = true) (S : FnScope N ps scope) (len : ∀ vs H Q E, sp vs H Q E → vs.length = ps.length)
    (hbody : ∀ (A : Around) (outer : List Env) (s : Shared) (H : Hp) (vs : List V) (Q : VK) (E : XK), Room k (A.deeper (envOfC qual scope s.heap.objs.size f (.ref c))) → sp vs H Q E → ∃ t, PSs (cxOf CX0 Pg w K mg base N qual scope f (.ref c) A outer s H E).nox body t ∧ t { nx := fun _ H' => Q .non H', rt := Q } (L2.start N vs) H) :
    FnOk Pg w K mg base CX0 (k + 1) f (PySem.W.fnOf name qual params body scope dV kV doc pm an (.ref c) ct) ps sp :=
  fn_of lk hcd S len fun A outer s H vs Q E hr h => by
    obtain ⟨t, h1, h2⟩ := hbody A outer s H vs Q E hr h
    exact ⟨t, h1.nox, h2⟩
end Hv

set_option Elab.async false
set_option linter.all false
set_option maxRecDepth 100000
/-! dicts: of the module by values, of a def's own by the heap -/
namespace Hv
open PySem PySem.Spec PyProof.Rows L2 Hod LamX NdefX
/-- a dict of the module from texts to texts -/
structure KTx (K : PySem.W.Frag) (w : World) (d : Addr) (f : Str → Option Str) : Prop where
  vals : ∀ z z', f z = some z' → KDct K w d z (.str z')
def wItKd (f : Str → Option Str) (wa : WE) : WE := fun ρ μ Q => wa ρ μ fun a => match a with | .dat (.str z) => (match f z with | some z' => Q (.dat (.str z')) | none => False) | _ => False
theorem ve_itKd {X : Cx} {xl : XLT X.K} {a : Expr} {wa : WE} {x : Str} {d : Addr} {f : Str → Option Str} {p pos : Pos} (D : KTx X.K X.w d f) (ha : VE X xl a wa) (hg : Gl X x) (hm : X.mg x = some (.ref d)) (hs : PlainIx a := by exact fun _ _ => rfl) (hdb : (x == ("__debug__" : Str)) = false := by decide) : VE X xl (.Subscript (.Name x p) a pos) (wItKd f wa) := by
  refine pe_weak (pe_ix ix_kdict (pe_glob (v := .ref d) hg hm rfl hdb) ha hs) fun σ H Q ⟨S, B, ρ, μ, Q2, st, w, k⟩ => ⟨S, B, ρ, μ, _, st, w, fun v H1 a e1 g1 ra q1 => ?_⟩
  cases ra with
  | dat ra =>
    cases ra with
    | str z =>
      have q1 : (match f z with | some z' => Q2 (.dat (.str z')) | none => False) := q1
      cases hz : f z with
      | none => rw [hz] at q1; exact q1.elim
      | some z' =>
        rw [hz] at q1
        exact ⟨d, z, .str z', rfl, rfl, D.vals z z' hz, k _ H1 _ e1 g1 (.dat (.str z')) q1⟩
    | _ => exact q1.elim
  | _ => exact q1.elim
theorem ev_itKd {ρ : Rho} {μ : Mem} {f : Str → Option Str} {w : WE} {z z' : Str} (h : Evs w ρ μ (.dat (.str z))) (hz : f z = some z') : Evs (wItKd f w) ρ μ (.dat (.str z')) := fun Q q => h _ (by
  show (match f z with | some z' => Q (.dat (.str z')) | none => False)
  rw [hz]
  exact q)
/-! ### d.update(e) -/
section
variable {X : Cx} {pins : List (Addr × Obj)} {σ : L2.St} {H : Hp} {s : Shared} {a b : Addr} {A : Around} {E : Value → Shared → Prop}
theorem d_upd {kvs more : List (Key × V)} {Q : Value → Shared → Prop} (I : Inv X pins σ H s) (e1 : H a = some (.dK kvs)) (e2 : H b = some (.dK more)) (ne : a ≠ b) (hz : kvs.length + more.length ≤ sizeLine)
    (h : ∀ s', Inv X pins σ (upd H a (.dK (mergeK kvs more))) s' → Q .none s') : wpAny (model X.prog X.w) A (call (.builtin "dict.update") [.ref a, .ref b]) Q E s := by
  obtain ⟨z, hd, vs, rel, dd⟩ := dk_of I.hok e1
  obtain ⟨z2, hd2, ws, rel2, dd2⟩ := dk_of I.hok e2
  refine call_meetsIn PySem.F.slot_dict_update dd.typeIs PySem.F.entry_dict_update (PySem.F.args_dict_update_2 _ _) (meets_dict_update (mixKind X.prog X.w) a b ne hd2)
    ⟨vs, ws, dd, dd2, (by rw [← rel.length, ← rel2.length]; exact hz), fun h' hmm _ hs => ?_⟩
  have he : ∃ q, h'.get? a = some q := let ⟨q, _, _, hq, _⟩ := hmm; ⟨q, hq⟩
  exact h _ (d_write I (by rw [e1]; exact True.intro) hs he (dk_new (Nat.le_trans (length_mergeK more kvs) hz) hd (rel2.merge rel) hmm))
end
def tDUpd (td ty : TE) : TE := fun σ H Q => td σ H fun x H1 => ∃ a, x = .ref a ∧ IsD H1 a ∧ ty σ H1 fun y H2 => ∃ b kvs more, y = .ref b ∧ a ≠ b ∧ H2 a = some (.dK kvs) ∧ H2 b = some (.dK more) ∧ kvs.length + more.length ≤ sizeLine ∧ Q .non (upd H2 a (.dK (mergeK kvs more)))
theorem pe_dupd {X : Cx} {o e : Expr} {apos cpos : Pos} {td ty : TE} (ho : PE X o td) (he : PE X e ty) (m : M1 X o "update" apos e cpos) : PE X (.Call (.Attribute o "update" apos) [e] [] cpos) (tDUpd td ty) := by
  refine ⟨fun pins s σ H Q I h => ?_⟩
  refine wpAny_Call_method m.base m.few m.line PySem.F.plainAttrs_dict PySem.F.slot_dict_update PySem.F.type_dict_update (thn (ho.run pins s σ H _ I h) fun u s1 ⟨x, H1, I1, rx, a, ex, d, q1⟩ => ?_)
  subst ex
  obtain rfl : u = Value.ref a := rx
  obtain ⟨t1, t2, _⟩ := isD_at I1 d
  refine ⟨t1, t2, ?_⟩
  rw [m.trees]
  refine Calls.callWith_builtin rfl (Calls.evalArgs_plain (Calls.spliced_cons (thn (he.run pins s1 σ H1 _ I1 q1) fun iv s2 ⟨y, H2, I2, ry, b, kvs, more, ey, ne, e1, e2, hz, q2⟩ => Calls.spliced_nil ?_)))
  subst ey
  obtain rfl : iv = Value.ref b := ry
  exact d_upd I2 e1 e2 ne hz fun s3 I3 => ⟨.non, _, I3, rfl, q2⟩
/-! ### what is only grown -/
def Grow (H H' : Hp) : Prop := (∀ b o, H b = some o → H' b = some o) ∧ ∀ b, H' b = none → H b = none
theorem Grow.ex {S : Hs} {H H' : Hp} (g : Grow H H') : Ex S H H' := ⟨fun a o _ h => g.1 a o h, g.2, fun a c r _ h => ⟨r, g.1 _ _ h⟩⟩
theorem Grow.good {K : PySem.W.Frag} {S : Hs} {B : Hid} {μ : Mem} {H H' : Hp} (g : Grow H H') (gd : Good K S B μ H) : Good K S B μ H' := by
  have ex : Ex S H H' := g.ex
  refine ⟨fun a sa => ?_, fun a sa => ⟨(gd.tb a sa).1, (gd.tb a sa).2.ext fun b o h => g.1 b o h⟩, fun a ba z => gd.bd a ba (g.2 a z), fun a xs q => ?_⟩
  · obtain ⟨h1, c, ns, i, big, seed, h2, h3, h4⟩ := gd.dr a sa
    exact ⟨h1, c, ns, i, big, seed, g.1 _ _ h2, ex.off gd _ _ h3, h4⟩
  · obtain ⟨h1, o, vs, h2, hh, h3⟩ := gd.ce a xs q
    exact ⟨h1, o, vs, g.1 _ _ h2, hh, h3.mono (ex.off gd)⟩
theorem Grow.refl {H : Hp} : Grow H H := ⟨fun _ _ h => h, fun _ h => h⟩
theorem Grow.put {H H' : Hp} {p : Addr} {o : HO} (g : Grow H H') (h : H p = none) : Grow H (upd H' p o) := ⟨fun b q hb => by
  have ne : b ≠ p := fun z => by rw [z, h] at hb; cases hb
  rw [upd_ne ne]; exact g.1 b q hb, fun b hb => by
  by_cases e : b = p
  · rw [e]; exact h
  · rw [upd_ne e] at hb; exact g.2 b hb⟩
/-! ### sayings turned -/
def Wd.opp : Wd → Wd
  | .frm => .ahd
  | .ahd => .frm
  | .way => .nt
  | .nt => .way
  | .sty => .mov
  | .mov => .sty
def Say.opp (s : Say) : Say := ⟨s.word.opp, s.work, s.num⟩
theorem Say.opp_ok {y : Yard} {s : Say} (h : s.ok y) : s.opp.ok y := by
  obtain ⟨⟨⟩, k, n⟩ := s <;> exact h
theorem Say.opp_opp (s : Say) : s.opp.opp = s := by obtain ⟨⟨⟩, k, n⟩ := s <;> rfl
def oppF (z : Str) : Option Str := ([("from", "ahead"), ("ahead", "from"), ("way", "not"), ("not", "way"), ("stays", "moves"), ("moves", "stays")] : List (Str × Str)).lookup z
theorem oppF_of (w : Wd) : oppF w.s = some w.opp.s := by cases w <;> decide +kernel
def say0 : PyData := .tuple [.str "from", .int 0, .int 0]
def Fturned : FS := fun as Q => ∃ s : Say, as = [.dat s.e] ∧ Q s.opp.e
def Fopp : FS := fun as Q => ∃ (y : Yard) (s : Say), as = [.dat y.e, .dat s.e] ∧ y.ok ∧ s.ok y ∧ Q s.opp.e
def FisNo : FS := fun as Q => ∃ y : Yard, as = [.dat y.e, .dat say0] ∧ y.works = [] ∧ Q (.bool false)
def FcsX : FSX := fun as _ E => ∃ y : Yard, as = [.dat y.e, .dat (.list [say0])] ∧ y.works = [] ∧ E "BadSaying" [("word", .str "badsaying"), ("at", .int 0)]
def FoppX : FSX := fun as _ E => ∃ y : Yard, as = [.dat y.e, .dat say0] ∧ y.ok ∧ y.works = [] ∧ E "BadSaying" [("word", .str "badsaying"), ("at", .int 0)]
/-- what _law_about does in the heap -/
def spAb (K : PySem.W.Frag) : Sp := fun vs H Q _ => ∃ (a : Addr) (w : Wd) (i n : Int), vs = [.ref a] ∧ SqT K H a [.str w.s, .int i, .int n] ∧ ∀ H' p, Grow H H' → H p = none → H' p = some (.tup [.str w.opp.s, .int i, .int n]) → Q (.ref p) H'
theorem ab_imp {K : PySem.W.Frag} {vs : List V} {H : Hp} {Q : VK} {E : XK} (h : spD K false Fturned vs H Q E) : spAb K vs H Q E := by
  obtain ⟨S, B, as, Q2, gd, rs, ⟨s, rfl, q⟩, k⟩ := h
  cases rs with
  | cons r rs =>
    cases rs
    cases r with
    | dat r =>
      cases r with
      | @tup p xs ds h1 h2 =>
        cases h2 with
        | cons a1 h2 =>
          cases h2 with
          | cons a2 h2 =>
            cases h2 with
            | cons a3 h2 =>
              cases h2
              cases a1
              cases a2
              cases a3
              refine ⟨p, s.word, s.work, s.num, rfl, sqt_same off_same h1, fun H' q' gr nq at' => k _ _ _ gr.ex (gr.good gd) ?_ (fun z => nomatch z) q⟩
              obtain ⟨b1, b2⟩ := gd.free nq
              exact .tup (.inl (.inl (by rw [off_of b1 b2]; exact at'))) (.cons (.str _) (.cons (.int _) (.cons (.int _) .nil)))
def kS (x : Str) : Key := .inr x
def dAb1 : List (Key × V) := [(kS "from", .str "ahead"), (kS "ahead", .str "from"), (kS "way", .str "not"), (kS "not", .str "way")]
def dAb2 : List (Key × V) := [(kS "stays", .str "moves"), (kS "moves", .str "stays")]
theorem ab_val (w : Wd) : valV (mergeK (mergeK [] dAb1) (mergeK [] dAb2)) (kS w.s) = some (.str w.opp.s) := by cases w <;> rfl
end Hv

set_option Elab.async false
set_option linter.all false
set_option maxRecDepth 100000
/-! defs as values: D.get(word) of a dict of the module, a call by a variable -/
namespace Hv
open PySem PySem.Spec PyProof.Rows L2 Hod
def tGetKD (K : PySem.W.Frag) (d : Addr) (te : TE) : TE := fun σ H Q => te σ H fun y H1 => ∃ (z : Str) (r : Option Value) (v : V), y = .str z ∧ PySem.W.nsIn K d z = some r ∧ (match r with | some u => RelV v u | none => v = .non) ∧ Q v H1
theorem pe_getKD {X : Cx} {x : Str} {d : Addr} {es : Array DictEntry} {n : Nat} {e : Expr} {te : TE} {p apos cpos : Pos} (D : KDict X.K X.w d es n) (hg : Gl X x) (hm : X.mg x = some (.ref d)) (he : PE X e te) (m : M1 X (.Name x p) "get" apos e cpos) (hdb : (x == ("__debug__" : Str)) = false := by decide) : PE X (.Call (.Attribute (.Name x p) "get" apos) [e] [] cpos) (tGetKD X.K d te) := by
  refine ⟨fun pins s σ H Q I h => ?_⟩
  refine wpAny_Call_method m.base m.few m.line PySem.F.plainAttrs_dict PySem.F.slot_dict_get PySem.F.type_dict_get (thn ((pe_glob (v := .ref d) (pos := p) hg hm rfl hdb).run pins s σ H (fun v H1 => v = .ref d ∧ H1 = H) I ⟨rfl, rfl⟩) fun u s1 ⟨v, H1, I1, r1, q1⟩ => ?_)
  obtain ⟨rfl, rfl⟩ := q1
  obtain rfl : u = Value.ref d := r1
  refine ⟨kd_type D I1, fun b q => ?_, ?_⟩
  · cases q
    exact ⟨_, I1.kIn _ _ D.at_, rfl⟩
  rw [m.trees]
  refine Calls.callWith_builtin rfl (Calls.evalArgs_plain (Calls.spliced_cons (thn (he.run pins s1 σ _ _ I1 h) fun iv s2 ⟨y, H2, I2, ry, z, r, v, ey, hn, hr, q2⟩ => Calls.spliced_nil ?_)))
  subst ey
  obtain ⟨t, rfl⟩ := (show ∃ t, iv = Value.str z t from ry)
  refine call_meetsIn PySem.F.slot_dict_get (kd_type D I2) PySem.F.entry_dict_get (PySem.F.args_dict_get_2 _ _) (meets_dict_get (strKind X.prog X.w) d (strKind_is X.prog X.w z t) D.low) ⟨_, PySem.W.mapOf_K (prog := X.prog) I2.kIn D.at_ D.lit, ?_⟩
  rw [PySem.W.find_K D.at_ hn]
  cases r with
  | none => subst hr; exact ⟨.non, H2, I2.tok _, rfl, q2⟩
  | some u => exact ⟨v, H2, I2.tok _, hr, q2⟩
/-- defs by their words -/
structure KFn (K : PySem.W.Frag) (w : World) (d : Addr) (f : Str → Option (Option Addr)) : Prop where
  dict : ∃ es n, KDict K w d es n
  vals : ∀ z r, f z = some r → PySem.W.nsIn K d z = some (r.map Value.ref)
def fnA : Option Addr → A
  | some f => .fn f
  | none => .dat .none
def wGetFn (f : Str → Option (Option Addr)) (w : WE) : WE := fun ρ μ Q => w ρ μ fun a => match a with | .dat (.str z) => (match f z with | some r => Q (fnA r) | none => False) | _ => False
theorem ve_getFn {X : Cx} {xl : XLT X.K} {x : Str} {d : Addr} {f : Str → Option (Option Addr)} {e : Expr} {we : WE} {p apos cpos : Pos} (D : KFn X.K X.w d f) (hg : Gl X x) (hm : X.mg x = some (.ref d)) (he : VE X xl e we) (m : M1 X (.Name x p) "get" apos e cpos) (hdb : (x == ("__debug__" : Str)) = false := by decide) : VE X xl (.Call (.Attribute (.Name x p) "get" apos) [e] [] cpos) (wGetFn f we) := by
  obtain ⟨es, n, kd⟩ := D.dict
  refine pe_weak (pe_getKD kd hg hm he m hdb) fun σ H Q ⟨S, B, ρ, μ, Q2, st, w, k⟩ => ⟨S, B, ρ, μ, _, st, w, fun v H1 a e1 g1 ra q1 => ?_⟩
  cases ra with
  | dat ra =>
    cases ra with
    | str z =>
      have q1 : (match f z with | some r => Q2 (fnA r) | none => False) := q1
      cases hz : f z with
      | none => rw [hz] at q1; exact q1.elim
      | some r =>
        rw [hz] at q1
        have hv := D.vals z r hz
        cases r with
        | none => exact ⟨z, none, .non, rfl, hv, rfl, k _ H1 _ e1 g1 (.dat .non) q1⟩
        | some g => exact ⟨z, some (.ref g), .ref g, rfl, hv, rfl, k _ H1 _ e1 g1 .fn q1⟩
    | _ => exact q1.elim
  | _ => exact q1.elim
/-- a call by a variable that holds a def of the module -/
def wCallFn (i : Nat) (f : Addr) (F : FS) (u : WA) : WE := fun ρ μ Q => ρ[i]? = some (some (.fn f)) ∧ wCall F u ρ μ Q
theorem ve_callFn {X : Cx} {xl : XLT X.K} {k i : Nat} {f : Addr} {fd : FuncData} {ps : List Str} {fr : Bool} {F : FS} {x : Str} {p pos : Pos} {e : Expr} {es : List Expr} {u : WA} (G : FnOk X.prog X.w X.K X.mg X.base CX0 k f fd ps (spD X.K fr F)) (hr : Room k X.A) (hk : PySem.W.keepIn X.K (.ref f) = true) (hb : Binds X.K fd ps []) (ha : VA X xl (e :: es) u)
    (hN : X.N[i]? = some x := by rfl) (hv : Vis X.env.scope x := by first | exact Or.inl rfl | exact Or.inr (Or.inl rfl) | exact Or.inr (Or.inr rfl)) (hdb : (x == ("__debug__" : Str)) = false := by decide) (hcd : (x == ("__classdict__" : Str)) = false := by decide)
    (he : starEach (e :: es) X.env = (false, eval e X.env) :: starEach es X.env := by rfl) (hpl : (backTo pos (starEach es X.env)).any (·.1) = false := by rfl) : VE X xl (.Call (.Name x p) (e :: es) [] pos) (wCallFn i f F u) := by
  refine pe_weak (pe_callL G hr hN hv hk hb .nil (E := E0) pass0 ha hdb hcd he hpl) fun σ H Q ⟨S, B, ρ, μ, Q2, st, ⟨hi, w⟩, k⟩ => ?_
  obtain ⟨v, h1, h2⟩ := st.sl.get hi
  cases h2
  refine ⟨h1, S, B, ρ, μ, _, st, w, fun vs H1 as e1 g1 rs q1 => ?_⟩
  show spD X.K fr F (vs ++ []) H1 Q E0
  rw [List.append_nil]
  exact wF_ok g1 rs q1 fun v H2 a e2 g2 r2 _ q2 => k v H2 a (e1.trans e2) g2 r2 q2
end Hv

set_option Elab.async false
set_option linter.all false
set_option maxRecDepth 100000
/-! enumerate(zip(a, b)) over tuples: the zip's pair stays in the enumerate's, so the zip may find it alive or not -/
namespace Hod
open PySem PySem.Spec PyProof.Rows L2 RZ
abbrev ZipO (ti to : Addr) (f0 f1 : Value) : Obj := { cls := .type "zip", dict := none, data := .fields #[f0, f1, .bool false, .ref ti, .ref to], slots := #[] }
def ZipAny (h : Heap) (zp ti to : Addr) : Prop := ∃ f0 f1, h.get? zp = some (ZipO ti to f0 f1) ∧ (f0 = .none ∨ ∃ T : Addr, f0 = rawInt T)
section
variable {prog : Program} {w : World} {A : Around} {E : Value → Shared → Prop} {s : Shared} {zp ti to j1 j2 u1 u2 : Addr}
theorem alive_any {a : Addr} {Q : Option Obj → Shared → Prop} (h : Q (s.heap.get? a) s) : wpAny (model prog w) A (loadIfAlive a) Q E s := fun _ _ _ => h
theorem zip_free {Q : Bool → Shared → Prop} (hz : ZipAny s.heap zp ti to) (k : ∀ b h2, ZipAny h2 zp ti to → Heap.SameBut zp s.heap h2 → Q b { s with heap := h2 }) : wpAny (model prog w) A (Builtin.SmallTypes.ownedTupleIsFree (.ref zp)) Q E s := by
  obtain ⟨f0, f1, ho, hf⟩ := hz
  unfold Builtin.SmallTypes.ownedTupleIsFree
  refine wpAny_bind (wpAny_field ho rfl (x := f0) rfl ?_)
  rcases hf with rfl | ⟨T, rfl⟩
  · exact wpAny_pure (k true s.heap ⟨_, _, ho, .inl rfl⟩ (Heap.SameBut.refl _ _))
  · show wpAny _ _ (loadIfAlive ((T : Int).toNat) >>= _) _ _ s
    rw [Int.toNat_natCast]
    refine wpAny_bind (alive_any ?_)
    cases hT : s.heap.get? T with
    | none => exact wpAny_pure (k true s.heap ⟨_, _, ho, .inr ⟨T, rfl⟩⟩ (Heap.SameBut.refl _ _))
    | some oT =>
      show wpAny _ _ (if (some oT).isNone = true then _ else _) _ _ s
      rw [if_neg (by simp)]
      refine wpAny_bind (wpAny_field ho rfl (x := f1) rfl ?_)
      by_cases hb : (f1 != Value.bool true) = true
      · rw [if_pos hb]
        exact wpAny_bind (wpAny_setField_rec ho (by simp) fun h2 hz2 hs2 => wpAny_pure (k false h2 ⟨_, _, hz2, .inr ⟨T, rfl⟩⟩ hs2))
      · rw [if_neg hb]
        exact wpAny_pure (k false s.heap ⟨_, _, ho, .inr ⟨T, rfl⟩⟩ (Heap.SameBut.refl _ _))
theorem zip_item {k1 k2 : Nat} {xs ys : Array Value} {x y : Value} {Q : Value → Shared → Prop} (D : ZipApart zp ti to j1 j2 u1 u2) (hz : ZipAny s.heap zp ti to) (hI : IsPair s.heap ti (.ref j1) (.ref j2)) (hO : ∃ a b, IsPair s.heap to a b)
    (i1 : s.heap.IsTupleIter j1 u1 k1) (i2 : s.heap.IsTupleIter j2 u2 k2) (t1 : s.heap.IsTuple u1 xs) (t2 : s.heap.IsTuple u2 ys) (hx : xs[k1]? = some x) (hy : ys[k2]? = some y)
    (k : ∀ h2, ZipAny h2 zp ti to → (∃ a b, IsPair h2 to a b) → h2.IsTupleIter j1 u1 (k1 + 1) → h2.IsTupleIter j2 u2 (k2 + 1) → IsPair h2 s.heap.objs.size x y → h2.objs.size = s.heap.objs.size + 1 →
      (∀ c o, c ≠ zp → c ≠ to → c ≠ j1 → c ≠ j2 → s.heap.get? c = some o → h2.get? c = some o) → Q (.ref s.heap.objs.size) { s with heap := h2 }) :
    wpAny (model prog w) A (Builtin.«zip.__next__» ⟨[.ref zp], []⟩) (fun fin z => ∃ v, fin = .done (.ret v) ∧ Q v z) E s := by
  obtain ⟨a, b, hO⟩ := hO
  obtain ⟨f0, f1, ho, hf⟩ := id hz
  show wpAny _ _ (field (.ref zp) 2 >>= _) _ _ s
  refine wpAny_bind (wpAny_field ho rfl (x := .bool false) rfl ?_)
  show wpAny _ _ (field (.ref zp) 3 >>= _) _ _ s
  refine wpAny_bind (wpAny_field ho rfl (x := .ref ti) rfl (wpAny_bind (wpAny_seqItems hI rfl ?_)))
  show wpAny _ _ (Builtin.SmallTypes.ownedTupleIsFree (.ref zp) >>= _) _ _ s
  refine wpAny_bind (zip_free hz fun bb g0 hz0 hs0 => ?_)
  obtain ⟨e0, e1, ho0, hf0⟩ := id hz0
  have i1' := i1.extBut hs0.extBut D.i1z
  have i2' := i2.extBut hs0.extBut D.i2z
  have t1' := t1.extBut hs0.extBut D.l1z
  have t2' := t2.extBut hs0.extBut D.l2z
  have hO0 : IsPair g0 to a b := hs0.extBut _ _ D.TOz hO
  cases bb with
  | true =>
    simp only [if_true]
    refine wpAny_bind (wpAny_rule (wpAny_bind (wpAny_field (s := { s with heap := g0 }) ho0 rfl (x := .ref to) rfl ?_)))
    refine wpAny_bind (wpAny_setField_rec (s := { s with heap := g0 }) ho0 (by simp) fun g1 hz1 hs1 => ?_)
    have hz1 : g1.get? zp = some (ZipO ti to .ellipsis e1) := hz1
    refine wpAny_bind ?_
    simp only [List.zipIdx_cons, List.zipIdx_nil, List.forIn_cons, List.forIn_nil]
    refine wpAny_bind (wpAny_bind (wpAny_onRaise ?_))
    show wpAny _ _ (Builtin.SmallTypes.nextOf (.ref j1) >>= _) _ _ { s with heap := g1 }
    refine wpAny_bind (nextOf_tuple_item (i1'.extBut hs1.extBut D.i1z) (t1'.extBut hs1.extBut D.l1z) hx fun g2 i12 hs2 => wpAny_pure ?_)
    have hO2 : IsPair g2 to a b := hs2.extBut _ _ D.TOi1 (hs1.extBut _ _ D.TOz hO0)
    refine wpAny_bind (wpAny_seqItems hO2 rfl (wpAny_bind (wpAny_updateSeq_pair hO2 fun g3 hO3 hs3 => ?_)))
    have hO3 : IsPair g3 to x b := hO3
    refine wpAny_bind (wpAny_letGo (wpAny_pure (wpAny_bind (wpAny_bind (wpAny_onRaise ?_)))))
    show wpAny _ _ (Builtin.SmallTypes.nextOf (.ref j2) >>= _) _ _ { s with heap := g3 }
    refine wpAny_bind (nextOf_tuple_item (((i2'.extBut hs1.extBut D.i2z).extBut hs2.extBut D.i12.symm).extBut hs3.extBut D.TOi2.symm) (((t2'.extBut hs1.extBut D.l2z).extBut hs2.extBut D.l2i1).extBut hs3.extBut D.l2TO) hy fun g4 i24 hs4 => wpAny_pure ?_)
    have hO4 : IsPair g4 to x b := hs4.extBut _ _ D.TOi2 hO3
    refine wpAny_bind (wpAny_seqItems hO4 rfl (wpAny_bind (wpAny_updateSeq_pair hO4 fun g5 hO5 hs5 => ?_)))
    have hO5 : IsPair g5 to x y := hO5
    refine wpAny_bind (wpAny_letGo (wpAny_pure (wpAny_pure (wpAny_bind (wpAny_seqItems hO5 rfl (wpAny_bind (wpAny_newTuple ?_)))))))
    have hsz : g5.objs.size = s.heap.objs.size := by rw [hs5.1, hs4.1, hs3.1, hs2.1, hs1.1, hs0.1]
    have hz5 : g5.get? zp = some (ZipO ti to .ellipsis e1) := hs5.extBut _ _ D.TOz.symm (hs4.extBut _ _ D.i2z.symm (hs3.extBut _ _ D.TOz.symm (hs2.extBut _ _ D.i1z.symm hz1)))
    have hk5 : ∀ c o, c ≠ zp → c ≠ to → c ≠ j1 → c ≠ j2 → s.heap.get? c = some o → g5.get? c = some o := fun c o c1 c2 c3 c4 e => hs5.extBut _ _ c2 (hs4.extBut _ _ c4 (hs3.extBut _ _ c2 (hs2.extBut _ _ c3 (hs1.extBut _ _ c1 (hs0.extBut _ _ c1 e)))))
    have i15 : g5.IsTupleIter j1 u1 (k1 + 1) := ((i12.extBut hs3.extBut D.TOi1.symm).extBut hs4.extBut D.i12).extBut hs5.extBut D.TOi1.symm
    have i25 : g5.IsTupleIter j2 u2 (k2 + 1) := i24.extBut hs5.extBut D.TOi2.symm
    have hzl : zp < g5.objs.size := Heap.lt_size hz5
    show wpAny _ _ (Builtin.SmallTypes.ownedTupleHandOut (.ref zp) (.ref g5.objs.size) >>= _) _ _ _
    refine wpAny_bind ?_
    unfold Builtin.SmallTypes.ownedTupleHandOut
    have hz6 : (g5.push { cls := .type "tuple", data := .seq #[x, y] }).get? zp = some (ZipO ti to .ellipsis e1) := Heap.get?_push_of_some _ hz5
    refine wpAny_bind (wpAny_setField_rec hz6 (by simp) fun g7 hz7 hs7 => ?_)
    have hz7 : g7.get? zp = some (ZipO ti to (rawInt g5.objs.size) e1) := hz7
    refine wpAny_setField_rec hz7 (by simp) fun g8 hz8 hs8 => ?_
    have hz8 : g8.get? zp = some (ZipO ti to (rawInt g5.objs.size) (.bool false)) := hz8
    have up : ∀ c o, c ≠ zp → g5.get? c = some o → g8.get? c = some o := fun c o c1 e => hs8.extBut _ _ c1 (hs7.extBut _ _ c1 (Heap.get?_push_of_some _ e))
    have hT8 : IsPair g8 g5.objs.size x y := hs8.extBut _ _ (Nat.ne_of_gt hzl) (hs7.extBut _ _ (Nat.ne_of_gt hzl) (Heap.get?_push_size _ rfl))
    have hn8 : g8.objs.size = g5.objs.size + 1 := by rw [hs8.1, hs7.1, Heap.size_push]
    refine wpAny_pure ⟨_, rfl, ?_⟩
    show Q (.ref g5.objs.size) _
    rw [hsz] at hz8 hT8 hn8 ⊢
    exact k g8 ⟨_, _, hz8, .inr ⟨_, rfl⟩⟩ ⟨_, _, up _ _ D.TOz hO5⟩ (i15.at fun o e => up _ o D.i1z e) (i25.at fun o e => up _ o D.i2z e) hT8 hn8 fun c o c1 c2 c3 c4 e => up c o c1 (hk5 c o c1 c2 c3 c4 e)
  | false =>
    simp only [Bool.false_eq_true, if_false]
    refine wpAny_bind ?_
    rw [← Array.forIn_toList]
    simp only [List.forIn_cons, List.forIn_nil]
    refine wpAny_bind (wpAny_bind (wpAny_holding ?_))
    show wpAny _ _ (Builtin.SmallTypes.nextOf (.ref j1) >>= _) _ _ { s with heap := g0 }
    refine wpAny_bind (nextOf_tuple_item (s := { s with heap := g0 }) i1' t1' hx fun g2 i12 hs2 => wpAny_pure (wpAny_pure (wpAny_bind (wpAny_bind (wpAny_holding ?_)))))
    show wpAny _ _ (Builtin.SmallTypes.nextOf (.ref j2) >>= _) _ _ { s with heap := g2 }
    refine wpAny_bind (nextOf_tuple_item (s := { s with heap := g2 }) (i2'.extBut hs2.extBut D.i12.symm) (t2'.extBut hs2.extBut D.l2i1) hy fun g3 i23 hs3 => wpAny_pure (wpAny_pure (wpAny_pure ?_)))
    show wpAny _ _ (newTuple [x, y] >>= _) _ _ { s with heap := g3 }
    refine wpAny_bind (wpAny_newTuple ?_)
    have hsz : g3.objs.size = s.heap.objs.size := by rw [hs3.1, hs2.1, hs0.1]
    have hz3 : g3.get? zp = some (ZipO ti to e0 e1) := hs3.extBut _ _ D.i2z.symm (hs2.extBut _ _ D.i1z.symm ho0)
    have hO3 : IsPair g3 to a b := hs3.extBut _ _ D.TOi2 (hs2.extBut _ _ D.TOi1 hO0)
    have hk : ∀ c o, c ≠ zp → c ≠ j1 → c ≠ j2 → s.heap.get? c = some o → g3.get? c = some o := fun c o c1 c2 c3 e => hs3.extBut _ _ c3 (hs2.extBut _ _ c2 (hs0.extBut _ _ c1 e))
    have i13 : g3.IsTupleIter j1 u1 (k1 + 1) := i12.extBut hs3.extBut D.i12
    refine wpAny_pure ⟨_, rfl, ?_⟩
    show Q (.ref g3.objs.size) _
    have hp : IsPair (g3.push { cls := .type "tuple", data := .seq #[x, y] }) g3.objs.size x y := Heap.get?_push_size _ rfl
    have hn4 : (g3.push { cls := .type "tuple", data := .seq #[x, y] }).objs.size = g3.objs.size + 1 := Heap.size_push ..
    rw [hsz] at hp hn4 ⊢
    exact k _ ⟨_, _, Heap.get?_push_of_some _ hz3, hf0⟩ ⟨_, _, Heap.get?_push_of_some _ hO3⟩ (i13.at fun o e => Heap.get?_push_of_some _ e) (i23.at fun o e => Heap.get?_push_of_some _ e) hp hn4 fun c o c1 _ c3 c4 e => Heap.get?_push_of_some _ (hk c o c1 c3 c4 e)
end
end Hod

set_option Elab.async false
set_option linter.all false
set_option maxRecDepth 100000
namespace Hod
open PySem PySem.Spec PyProof.Rows L2 RZ
section
variable {prog : Program} {w : World} {A : Around} {E : Value → Shared → Prop} {s : Shared} {zp ti to j1 j2 u1 u2 : Addr}
theorem zip_end {k1 k2 : Nat} {xs ys : Array Value} {Q : Fin → Shared → Prop} (hh : A.handled = none) (D : ZipApart zp ti to j1 j2 u1 u2) (hz : ZipAny s.heap zp ti to) (hI : IsPair s.heap ti (.ref j1) (.ref j2)) (hO : ∃ a b, IsPair s.heap to a b)
    (i1 : s.heap.IsTupleIter j1 u1 k1) (i2 : s.heap.IsTupleIter j2 u2 k2) (t1 : s.heap.IsTuple u1 xs) (t2 : s.heap.IsTuple u2 ys) (he : xs[k1]? = none ∨ ys[k2]? = none)
    (k : ∀ h2 x, (∀ c o, c ≠ zp → c ≠ to → c ≠ j1 → c ≠ j2 → s.heap.get? c = some o → h2.get? c = some o) → (∃ o, h2.get? x = some o ∧ o.cls = .type "StopIteration") → E (.ref x) { s with heap := h2 }) :
    wpAny (model prog w) A (Builtin.«zip.__next__» ⟨[.ref zp], []⟩) Q E s := by
  obtain ⟨a, b, hO⟩ := hO
  obtain ⟨f0, f1, ho, hf⟩ := id hz
  show wpAny _ _ (field (.ref zp) 2 >>= _) _ _ s
  refine wpAny_bind (wpAny_field ho rfl (x := .bool false) rfl ?_)
  show wpAny _ _ (field (.ref zp) 3 >>= _) _ _ s
  refine wpAny_bind (wpAny_field ho rfl (x := .ref ti) rfl (wpAny_bind (wpAny_seqItems hI rfl ?_)))
  show wpAny _ _ (Builtin.SmallTypes.ownedTupleIsFree (.ref zp) >>= _) _ _ s
  refine wpAny_bind (zip_free hz fun bb g0 hz0 hs0 => ?_)
  obtain ⟨e0, e1, ho0, hf0⟩ := id hz0
  have i1' := i1.extBut hs0.extBut D.i1z
  have i2' := i2.extBut hs0.extBut D.i2z
  have t1' := t1.extBut hs0.extBut D.l1z
  have t2' := t2.extBut hs0.extBut D.l2z
  have hO0 : IsPair g0 to a b := hs0.extBut _ _ D.TOz hO
  cases bb with
  | true =>
    simp only [if_true]
    refine wpAny_bind (wpAny_rule (wpAny_bind (wpAny_field (s := { s with heap := g0 }) ho0 rfl (x := .ref to) rfl ?_)))
    refine wpAny_bind (wpAny_setField_rec (s := { s with heap := g0 }) ho0 (by simp) fun g1 hz1 hs1 => ?_)
    have hz1 : g1.get? zp = some (ZipO ti to .ellipsis e1) := hz1
    refine wpAny_bind ?_
    simp only [List.zipIdx_cons, List.zipIdx_nil, List.forIn_cons, List.forIn_nil]
    refine wpAny_bind (wpAny_bind (wpAny_onRaise ?_))
    show wpAny _ _ (Builtin.SmallTypes.nextOf (.ref j1) >>= _) _ _ { s with heap := g1 }
    cases hx : xs[k1]? with
    | none =>
      refine wpAny_bind (nextOf_tuple_end hh (i1'.extBut hs1.extBut D.i1z) (t1'.extBut hs1.extBut D.l1z) hx fun g2 x hs2 hx2 => ?_)
      obtain ⟨oe, hoe, hce⟩ := hx2
      have hz2 : g2.get? zp = some (ZipO ti to .ellipsis e1) := hs2 _ _ D.i1z.symm hz1
      have nx : x ≠ zp := fun q => by subst q; rw [hz2] at hoe; cases hoe; simp at hce
      exact wpAny_setField_rec hz2 (by simp) fun g3 _ hs3 => k g3 x (fun c o c1 _ c3 _ q => hs3.extBut _ _ c1 (hs2 _ _ c3 (hs1.extBut _ _ c1 (hs0.extBut _ _ c1 q)))) ⟨oe, hs3.extBut _ _ nx hoe, hce⟩
    | some x1 =>
      have hy : ys[k2]? = none := by
        rcases he with q | q
        · rw [hx] at q; cases q
        · exact q
      refine wpAny_bind (nextOf_tuple_item (i1'.extBut hs1.extBut D.i1z) (t1'.extBut hs1.extBut D.l1z) hx fun g2 i12 hs2 => wpAny_pure ?_)
      have hO2 : IsPair g2 to a b := hs2.extBut _ _ D.TOi1 (hs1.extBut _ _ D.TOz hO0)
      refine wpAny_bind (wpAny_seqItems hO2 rfl (wpAny_bind (wpAny_updateSeq_pair hO2 fun g3 hO3 hs3 => ?_)))
      refine wpAny_bind (wpAny_letGo (wpAny_pure (wpAny_bind (wpAny_bind (wpAny_onRaise ?_)))))
      show wpAny _ _ (Builtin.SmallTypes.nextOf (.ref j2) >>= _) _ _ { s with heap := g3 }
      refine wpAny_bind (nextOf_tuple_end hh (((i2'.extBut hs1.extBut D.i2z).extBut hs2.extBut D.i12.symm).extBut hs3.extBut D.TOi2.symm) (((t2'.extBut hs1.extBut D.l2z).extBut hs2.extBut D.l2i1).extBut hs3.extBut D.l2TO) hy fun g4 x hs4 hx4 => ?_)
      obtain ⟨oe, hoe, hce⟩ := hx4
      have hz4 : g4.get? zp = some (ZipO ti to .ellipsis e1) := hs4 _ _ D.i2z.symm (hs3.extBut _ _ D.TOz.symm (hs2.extBut _ _ D.i1z.symm hz1))
      have nx : x ≠ zp := fun q => by subst q; rw [hz4] at hoe; cases hoe; simp at hce
      exact wpAny_setField_rec hz4 (by simp) fun g5 _ hs5 => k g5 x (fun c o c1 c2 c3 c4 q => hs5.extBut _ _ c1 (hs4 _ _ c4 (hs3.extBut _ _ c2 (hs2.extBut _ _ c3 (hs1.extBut _ _ c1 (hs0.extBut _ _ c1 q)))))) ⟨oe, hs5.extBut _ _ nx hoe, hce⟩
  | false =>
    simp only [Bool.false_eq_true, if_false]
    refine wpAny_bind ?_
    rw [← Array.forIn_toList]
    simp only [List.forIn_cons, List.forIn_nil]
    refine wpAny_bind (wpAny_bind (wpAny_holding ?_))
    show wpAny _ _ (Builtin.SmallTypes.nextOf (.ref j1) >>= _) _ _ { s with heap := g0 }
    cases hx : xs[k1]? with
    | none => exact wpAny_bind (nextOf_tuple_end (s := { s with heap := g0 }) hh i1' t1' hx fun g2 x hs2 hx2 => k g2 x (fun c o c1 _ c3 _ q => hs2 _ _ c3 (hs0.extBut _ _ c1 q)) hx2)
    | some x1 =>
      have hy : ys[k2]? = none := by
        rcases he with q | q
        · rw [hx] at q; cases q
        · exact q
      refine wpAny_bind (nextOf_tuple_item (s := { s with heap := g0 }) i1' t1' hx fun g2 i12 hs2 => wpAny_pure (wpAny_pure (wpAny_bind (wpAny_bind (wpAny_holding ?_)))))
      show wpAny _ _ (Builtin.SmallTypes.nextOf (.ref j2) >>= _) _ _ { s with heap := g2 }
      exact wpAny_bind (nextOf_tuple_end (s := { s with heap := g2 }) hh (i2'.extBut hs2.extBut D.i12.symm) (t2'.extBut hs2.extBut D.l2i1) hy fun g3 x hs3 hx3 => k g3 x (fun c o c1 _ c3 c4 q => hs3 _ _ c4 (hs2.extBut _ _ c3 (hs0.extBut _ _ c1 q))) hx3)
theorem enumZ_item {e : Addr} {c : Int} {old : Value} {k1 k2 : Nat} {xs ys : Array Value} {x y : Value} {Q : Option Value → Shared → Prop} (D : ZipApart zp ti to j1 j2 u1 u2) (he : IsEnum s.heap e zp c old) (hz : ZipAny s.heap zp ti to) (hI : IsPair s.heap ti (.ref j1) (.ref j2)) (hO : ∃ a b, IsPair s.heap to a b)
    (i1 : s.heap.IsTupleIter j1 u1 k1) (i2 : s.heap.IsTupleIter j2 u2 k2) (t1 : s.heap.IsTuple u1 xs) (t2 : s.heap.IsTuple u2 ys) (hx : xs[k1]? = some x) (hy : ys[k2]? = some y) (n1 : e ≠ zp) (n2 : e ≠ to) (n3 : e ≠ j1) (n4 : e ≠ j2)
    (k : ∀ h1 h2, ZipAny h1 zp ti to → (∃ a b, IsPair h1 to a b) → h1.IsTupleIter j1 u1 (k1 + 1) → h1.IsTupleIter j2 u2 (k2 + 1) → IsPair h1 s.heap.objs.size x y → h1.objs.size = s.heap.objs.size + 1 →
      (∀ c o, c ≠ zp → c ≠ to → c ≠ j1 → c ≠ j2 → s.heap.get? c = some o → h1.get? c = some o) → IsEnumOut h2 e zp (c + 1) (.ref s.heap.objs.size) (s.heap.objs.size + 1) →
      IsPair h2 (s.heap.objs.size + 1) (.int c s.toks) (.ref s.heap.objs.size) → (∀ b o, b ≠ e → h1.get? b = some o → h2.get? b = some o) → Q (some (.ref (s.heap.objs.size + 1))) { s with heap := h2, toks := s.toks + 1 }) :
    wpAny (model prog w) A (pyNext (.ref e)) Q E s := by
  have hT : s.TypeIs (.ref e) "enumerate" := ⟨_, he, rfl⟩
  unfold pyNext
  refine wpAny_bind (wpAny_attempt (wpAny_callSpecial?_slot (name := Str.ofString "__next__") hT F.slot_enumerate_next (wpAny_call_entry F.slot_enumerate_next hT F.entry_enumerate_next ?_ (F.args_enumerate_next_1 _))))
  show wpAny _ _ (field (.ref e) 2 >>= _) _ _ s
  refine wpAny_bind (wpAny_field he rfl (x := .ref zp) rfl ?_)
  have hTz : s.TypeIs (.ref zp) "zip" := by obtain ⟨_, _, q, _⟩ := hz; exact ⟨_, q, rfl⟩
  refine wpAny_bind ?_
  unfold Builtin.SmallTypes.nextOf
  refine wpAny_bind (wpAny_callSpecial?_slot (name := Str.ofString "__next__") hTz F.slot_zip_next (wpAny_call_entry F.slot_zip_next hTz F.entry_zip_next (zip_item D hz hI hO i1 i2 t1 t2 hx hy fun h1 a1 a2 a3 a4 a5 a6 a7 => ?_) (F.args_zip_next_1 _)))
  refine wpAny_pure ?_
  have he1 : IsEnum h1 e zp c old := a7 _ _ n1 n2 n3 n4 he
  show wpAny _ _ (field (.ref e) 3 >>= _) _ _ { s with heap := h1 }
  refine wpAny_bind (wpAny_field he1 rfl (x := rawInt c) rfl ?_)
  show wpAny _ _ (field (.ref e) 4 >>= _) _ _ { s with heap := h1 }
  refine wpAny_bind (wpAny_field he1 rfl (x := .none) rfl ?_)
  show wpAny _ _ (mkInt c >>= _) _ _ { s with heap := h1 }
  refine wpAny_bind (wpAny_mkInt ?_)
  show wpAny _ _ (setField (.ref e) 3 (rawInt (c + 1)) >>= _) _ _ { s with heap := h1, toks := s.toks + 1 }
  refine wpAny_bind (wpAny_setField_rec he1 (by simp) fun g2 he2 hs2 => ?_)
  have he2 : IsEnum g2 e zp (c + 1) old := he2
  have hs2 : Heap.SameBut e h1 g2 := hs2
  show wpAny _ _ (setField (.ref e) 4 .none >>= _) _ _ { s with heap := g2, toks := s.toks + 1 }
  refine wpAny_bind (wpAny_setField_rec he2 (by simp) fun g3 he3 hs3 => ?_)
  have he3 : IsEnum g3 e zp (c + 1) old := he3
  have hs3 : Heap.SameBut e g2 g3 := hs3
  show wpAny _ _ (newTuple [.int c s.toks, .ref s.heap.objs.size] >>= _) _ _ { s with heap := g3, toks := s.toks + 1 }
  refine wpAny_bind (wpAny_newTuple ?_)
  have hsz : g3.objs.size = s.heap.objs.size + 1 := by rw [hs3.1, hs2.1, a6]
  have he4 : IsEnum (g3.push { cls := .type "tuple", data := .seq #[.int c s.toks, .ref s.heap.objs.size] }) e zp (c + 1) old := Heap.get?_push_of_some _ he3
  have ht4 : IsPair (g3.push { cls := .type "tuple", data := .seq #[.int c s.toks, .ref s.heap.objs.size] }) (s.heap.objs.size + 1) (.int c s.toks) (.ref s.heap.objs.size) := by rw [← hsz]; exact Heap.get?_push_size _ rfl
  have hk4 : ∀ b o, b ≠ e → h1.get? b = some o → (g3.push { cls := .type "tuple", data := .seq #[.int c s.toks, .ref s.heap.objs.size] }).get? b = some o := fun b o hb q => Heap.get?_push_of_some _ (hs3.extBut b o hb (hs2.extBut b o hb q))
  have hel : e < s.heap.objs.size := Heap.lt_size he
  generalize hg4 : g3.push { cls := .type "tuple", data := .seq #[.int c s.toks, .ref s.heap.objs.size] } = g4 at he4 ht4 hk4
  show wpAny _ _ (Builtin.SmallTypes.ownedTupleIsFree (.ref e) >>= _) _ _ { s with heap := g4, toks := s.toks + 1 }
  rw [hsz]
  refine wpAny_bind ?_
  unfold Builtin.SmallTypes.ownedTupleIsFree
  refine wpAny_bind (wpAny_field he4 rfl (x := .none) rfl (wpAny_pure ?_))
  simp only [if_true]
  refine wpAny_bind (wpAny_rule (wpAny_bind (wpAny_field he4 rfl (x := old) rfl (wpAny_bind (wpAny_setField_rec he4 (by simp) fun g5 he5 hs5 => ?_)))))
  have he5 : IsEnum g5 e zp (c + 1) (.ref s.heap.objs.size) := he5
  have hs5 : Heap.SameBut e g4 g5 := hs5
  show wpAny _ _ (Builtin.SmallTypes.ownedTupleHandOut (.ref e) (.ref (s.heap.objs.size + 1)) >>= _) _ _ { s with heap := g5, toks := s.toks + 1 }
  refine wpAny_bind ?_
  unfold Builtin.SmallTypes.ownedTupleHandOut
  refine wpAny_bind (wpAny_setField_rec he5 (by simp) fun g6 he6 hs6 => ?_)
  have he6 : IsEnumOut g6 e zp (c + 1) (.ref s.heap.objs.size) (s.heap.objs.size + 1) := he6
  have hs6 : Heap.SameBut e g5 g6 := hs6
  refine wpAny_setField_rec he6 (by simp) fun g7 he7 hs7 => ?_
  have he7 : IsEnumOut g7 e zp (c + 1) (.ref s.heap.objs.size) (s.heap.objs.size + 1) := he7
  have hs7 : Heap.SameBut e g6 g7 := hs7
  have up : ∀ b o, b ≠ e → g4.get? b = some o → g7.get? b = some o := fun b o hb q => hs7.extBut b o hb (hs6.extBut b o hb (hs5.extBut b o hb q))
  refine wpAny_bind (wpAny_letGo (wpAny_pure ⟨_, rfl, wpAny_pure ?_⟩))
  exact k h1 g7 a1 a2 a3 a4 a5 a6 a7 he7 (up _ _ (Nat.ne_of_gt (Nat.lt_succ_of_lt hel)) ht4) fun b o hb q => up b o hb (hk4 b o hb q)
theorem enumZ_end {e : Addr} {c : Int} {old : Value} {k1 k2 : Nat} {xs ys : Array Value} {Q : Option Value → Shared → Prop} (hh : A.in1.handled = none) (D : ZipApart zp ti to j1 j2 u1 u2) (he : IsEnum s.heap e zp c old) (hz : ZipAny s.heap zp ti to) (hI : IsPair s.heap ti (.ref j1) (.ref j2)) (hO : ∃ a b, IsPair s.heap to a b)
    (i1 : s.heap.IsTupleIter j1 u1 k1) (i2 : s.heap.IsTupleIter j2 u2 k2) (t1 : s.heap.IsTuple u1 xs) (t2 : s.heap.IsTuple u2 ys) (hn : xs[k1]? = none ∨ ys[k2]? = none)
    (k : ∀ h2, (∀ c o, c ≠ zp → c ≠ to → c ≠ j1 → c ≠ j2 → s.heap.get? c = some o → h2.get? c = some o) → Q none { s with heap := h2 }) :
    wpAny (model prog w) A (pyNext (.ref e)) Q E s := by
  have hT : s.TypeIs (.ref e) "enumerate" := ⟨_, he, rfl⟩
  unfold pyNext
  refine wpAny_bind (wpAny_attempt (wpAny_callSpecial?_slot (name := Str.ofString "__next__") hT F.slot_enumerate_next (wpAny_call_entry F.slot_enumerate_next hT F.entry_enumerate_next ?_ (F.args_enumerate_next_1 _))))
  show wpAny _ _ (field (.ref e) 2 >>= _) _ _ s
  refine wpAny_bind (wpAny_field he rfl (x := .ref zp) rfl ?_)
  have hTz : s.TypeIs (.ref zp) "zip" := by obtain ⟨_, _, q, _⟩ := hz; exact ⟨_, q, rfl⟩
  refine wpAny_bind ?_
  unfold Builtin.SmallTypes.nextOf
  refine wpAny_bind (wpAny_callSpecial?_slot (name := Str.ofString "__next__") hTz F.slot_zip_next (wpAny_call_entry F.slot_zip_next hTz F.entry_zip_next (zip_end hh D hz hI hO i1 i2 t1 t2 hn fun h2 x a1 a2 => ?_) (F.args_zip_next_1 _)))
  obtain ⟨o, ho, hc⟩ := a2
  exact wpAny_bind (wpAny_isInstance (T := "StopIteration") (b := true) ⟨o, ho, hc⟩ isSubtype_stop (wpAny_pure (k _ a1)))
end
end Hod

set_option Elab.async false
set_option linter.all false
set_option maxRecDepth 100000
namespace Hod
open PySem PySem.Spec PyProof.Rows L2 RZ
/-- two tuples side by side, counted: the pair at T, the counted one at U -/
def Iez (K : PySem.W.Frag) (a b : Addr) : It :=
  ⟨fun i H => ∃ (xs ys : List V) (x y : V), SqT K H a xs ∧ SqT K H b ys ∧ xs[i]? = some x ∧ ys[i]? = some y,
   fun i H v H2 => ∃ T U x y, v = .ref U ∧ H T = none ∧ H U = none ∧ U ≠ T ∧ H2 = upd (upd H T (.tup [x, y])) U (.tup [.int (i : Nat), .ref T]) ∧ (∀ xs, SqT K H a xs → xs[i]? = some x) ∧ ∀ ys, SqT K H b ys → ys[i]? = some y,
   fun i H => ∃ xs ys : List V, SqT K H a xs ∧ SqT K H b ys ∧ (xs.length ≤ i ∨ ys.length ≤ i)⟩
theorem turn_enumZ {P : Program} {w : World} {K : PySem.W.Frag} {elts : List Expr} {kk : Nat} {tpos : Pos} {a b e zp ti to j1 j2 : Addr} (D : ZipApart zp ti to j1 j2 a b) (n0 : e ≠ ti) (n1 : e ≠ zp) (n2 : e ≠ to) (n3 : e ≠ j1) (n4 : e ≠ j2) :
    Turn P w K (.Tuple elts kk tpos) (Iez K a b) [e, zp, ti, to, j1, j2] e (fun i h => (∃ old, IsEnum h e zp ((i : Nat) : Int) old) ∧ ZipAny h zp ti to ∧ IsPair h ti (.ref j1) (.ref j2) ∧ (∃ x y, IsPair h to x y) ∧ h.IsTupleIter j1 a i ∧ h.IsTupleIter j2 b i) where
  mem := by simp
  obj := fun i h st c hc => by
    obtain ⟨⟨old, he⟩, ⟨f0, f1, hz, _⟩, hI, ⟨x, y, hO⟩, ⟨o1, e1, _, d1⟩, ⟨o2, e2, _, d2⟩⟩ := st
    have q : c = e ∨ c = zp ∨ c = ti ∨ c = to ∨ c = j1 ∨ c = j2 := by simpa using hc
    rcases q with q | q | q | q | q | q
    · rw [q]; exact ⟨_, he, fun v z => nomatch z⟩
    · rw [q]; exact ⟨_, hz, fun v z => nomatch z⟩
    · rw [q]; exact ⟨_, hI, fun v z => nomatch z⟩
    · rw [q]; exact ⟨_, hO, fun v z => nomatch z⟩
    · rw [q]; exact ⟨o1, e1, fun v z => by rw [d1] at z; cases z⟩
    · rw [q]; exact ⟨o2, e2, fun v z => by rw [d2] at z; cases z⟩
  keep := fun i h h2 st k => by
    obtain ⟨⟨old, he⟩, ⟨f0, f1, hz, hf⟩, hI, ⟨x, y, hO⟩, i1, i2⟩ := st
    exact ⟨⟨old, k e (by simp) _ he⟩, ⟨f0, f1, k zp (by simp) _ hz, hf⟩, k ti (by simp) _ hI, ⟨x, y, k to (by simp) _ hO⟩, i1.at fun o q => k j1 (by simp) o q, i2.at fun o q => k j2 (by simp) o q⟩
  item := by
    intro X hP hw hK hc i pins s σ H E I hf st hg
    subst hP hw hK
    obtain ⟨⟨old, he⟩, hz, hI, hO, i1, i2⟩ := st
    obtain ⟨xs, ys, x, y, qa, qb, hx, hy⟩ := hg
    obtain ⟨its, rv, p, _⟩ := I.tuple qa
    obtain ⟨its2, rv2, p2, _⟩ := I.tuple qb
    obtain ⟨u, hu, ru⟩ := rv.get hx
    obtain ⟨u2, hu2, ru2⟩ := rv2.get hy
    have hel : e < s.heap.objs.size := Heap.lt_size he
    have lt6 : ∀ c ∈ [e, zp, ti, to, j1, j2], c < s.heap.objs.size := fun c hcm => by
      have q : c = e ∨ c = zp ∨ c = ti ∨ c = to ∨ c = j1 ∨ c = j2 := by simpa using hcm
      rcases q with q | q | q | q | q | q
      · rw [q]; exact hel
      · rw [q]; obtain ⟨_, _, z, _⟩ := hz; exact Heap.lt_size z
      · rw [q]; exact Heap.lt_size hI
      · rw [q]; obtain ⟨_, _, z⟩ := hO; exact Heap.lt_size z
      · rw [q]; obtain ⟨_, z, _⟩ := i1; exact Heap.lt_size z
      · rw [q]; obtain ⟨_, z, _⟩ := i2; exact Heap.lt_size z
    refine enumZ_item D he hz hI hO i1 i2 p p2 (x := u) (y := u2) (by simpa using hu) (by simpa using hu2) n1 n2 n3 n4 fun h1 h2 a1 a2 a3 a4 a5 a6 a7 b1 b2 b3 => ?_
    refine ⟨_, rfl, wpAny_letOwnedTupleGo_enum (s := { s with heap := h2, toks := s.toks + 1 }) b1 fun h3 he3 sb => ?_⟩
    have sb : Heap.SameBut e h2 h3 := sb
    have new1 : ObjOk X.prog X.w (upd H s.heap.objs.size (.tup [x, y])) h1 s.heap.objs.size (.tup [x, y]) := ⟨by show 2 ≤ sizeLine; decide, [u, u2], .cons ru (.cons ru2 .nil), ⟨_, a5, rfl, _, rfl⟩⟩
    have I1 : Inv X pins σ (upd H s.heap.objs.size (.tup [x, y])) { s with heap := h1, toks := s.toks } := I.turnedNew (ch := [e, zp, ti, to, j1, j2]) (fun c o hb q => a7 c o (fun z => hb (by simp [z])) (fun z => hb (by simp [z])) (fun z => hb (by simp [z])) (fun z => hb (by simp [z])) q) hf (Nat.le_refl _) new1
    have hf1 : ∀ c ∈ [e, zp, ti, to, j1, j2], FpOk X pins (upd H s.heap.objs.size (.tup [x, y])) c := fun c hcm => by
      obtain ⟨f0, fr⟩ := hf c hcm
      exact ⟨by rw [upd_ne (Nat.ne_of_lt (lt6 c hcm))]; exact f0, fr⟩
    have hT2 : h3.get? (s.heap.objs.size + 1) = some { cls := .type "tuple", data := .seq #[.int ((i : Nat) : Int) s.toks, .ref s.heap.objs.size] } := (sb.2 _ (Nat.ne_of_gt (Nat.lt_succ_of_lt hel))).trans b2
    have new2 : ObjOk X.prog X.w (upd (upd H s.heap.objs.size (.tup [x, y])) (s.heap.objs.size + 1) (.tup [.int (i : Nat), .ref s.heap.objs.size])) h3 (s.heap.objs.size + 1) (.tup [.int (i : Nat), .ref s.heap.objs.size]) := ⟨by show 2 ≤ sizeLine; decide, [.int ((i : Nat) : Int) s.toks, .ref s.heap.objs.size], .cons ⟨_, rfl⟩ (.cons rfl .nil), ⟨_, hT2, rfl, _, rfl⟩⟩
    have I2 : Inv X pins σ (upd (upd H s.heap.objs.size (.tup [x, y])) (s.heap.objs.size + 1) (.tup [.int (i : Nat), .ref s.heap.objs.size])) { s with heap := h3, toks := s.toks + 1 } := I1.turnedNew (t' := s.toks + 1) (ch := [e, zp, ti, to, j1, j2]) (fun c o hb q => (sb.2 c (fun z => hb (by simp [z]))).trans (b3 c o (fun z => hb (by simp [z])) q)) hf1 (Nat.le_of_eq a6) new2
    have up : ∀ c o, c ≠ e → h1.get? c = some o → h3.get? c = some o := fun c o hb q => (sb.2 c hb).trans (b3 c o hb q)
    refine ⟨.ref (s.heap.objs.size + 1), _, I2, rfl, ⟨s.heap.objs.size, s.heap.objs.size + 1, x, y, rfl, I.hok.fresh (Nat.le_refl _), I.hok.fresh (Nat.le_succ _), Nat.succ_ne_self _, rfl, fun l hl => by rw [I.tuple_inj hl qa]; exact hx, fun l hl => by rw [I.tuple_inj hl qb]; exact hy⟩, ⟨⟨.ref s.heap.objs.size, ?_⟩, ?_, ?_, ?_, ?_, ?_⟩, fun c hcm => ?_⟩
    · have e1 : ((i + 1 : Nat) : Int) = (i : Int) + 1 := by omega
      rw [e1]; exact he3
    · obtain ⟨f0, f1, z, zf⟩ := a1; exact ⟨f0, f1, up _ _ (Ne.symm n1) z, zf⟩
    · exact up _ _ (Ne.symm n0) (a7 _ _ D.TIz D.TITO D.TIi1 D.TIi2 hI)
    · obtain ⟨x0, y0, z⟩ := a2; exact ⟨x0, y0, up _ _ (Ne.symm n2) z⟩
    · exact a3.at fun o q => up _ o (Ne.symm n3) q
    · exact a4.at fun o q => up _ o (Ne.symm n4) q
    · rw [upd_ne (Nat.ne_of_lt (Nat.lt_succ_of_lt (lt6 c hcm))), upd_ne (Nat.ne_of_lt (lt6 c hcm))]
      exact (hf c hcm).1
  done := by
    intro X hP hw hK hc i pins s σ H E I hf st hg
    subst hP hw hK
    obtain ⟨⟨old, he⟩, hz, hI, hO, i1, i2⟩ := st
    obtain ⟨xs, ys, qa, qb, hend⟩ := hg
    obtain ⟨its, rv, p, _⟩ := I.tuple qa
    obtain ⟨its2, rv2, p2, _⟩ := I.tuple qb
    have l1 := rv.length
    have l2 := rv2.length
    have hn : its.toArray[i]? = none ∨ its2.toArray[i]? = none := by
      rcases hend with q | q
      · exact .inl (by simp; omega)
      · exact .inr (by simp; omega)
    exact enumZ_end (show X.A.in1.handled = none from I.ok.hd hc) D he hz hI hO i1 i2 p p2 hn fun h2 hk => ⟨rfl, I.turnedL (t' := s.toks) (ch := [e, zp, ti, to, j1, j2]) (fun c o hb q => hk c o (fun z => hb (by simp [z])) (fun z => hb (by simp [z])) (fun z => hb (by simp [z])) (fun z => hb (by simp [z])) q) hf⟩
  self := fun A i s Q E st h => let ⟨⟨_, he⟩, _⟩ := st; wpAny_pyIter_enum he h
/-- enumerate of what is its own iterator -/
theorem enumNew2 (zp ti to : Addr) (f0 : Value) :
    Meets (Builtin.«enumerate.__new__» ⟨[.type "enumerate", .ref zp], []⟩) (fun _ R z => IsZip z.heap zp ti to f0 ∧ R (.ok (.ret (.ref z.heap.objs.size))) { z with heap := z.heap.push (enumObj zp) }) :=
  .of_wp fun prog w A R z hyp => by
    obtain ⟨hp, gg, dd, tk, oo⟩ := z
    obtain ⟨st, hyp⟩ := hyp
    have isub := sub_enumerate
    have go1 : ∀ {A2 : Around} {E2 : Value → Shared → Prop} {Q2 : Value → Shared → Prop}, Q2 (.ref zp) ⟨hp, gg, dd, tk, oo⟩ → wpAny (model prog w) A2 (pyIter (.ref zp)) Q2 E2 ⟨hp, gg, dd, tk, oo⟩ := fun q => wpAny_pyIter_zip st q
    wp_walk using go1
    refine wpAny_stack_any fun _ => wpAny_pure ?_
    split
    · rename_i cc _ _ _ _ _
      cases (cc == Value.type "enumerate") <;> (wp_walk using go1; exact ⟨_, rfl, hyp⟩)
    · wp_walk using go1
      exact ⟨_, rfl, hyp⟩
theorem enumCall2 {prog : Program} {w : World} {A : Around} {E : Value → Shared → Prop} {z : Shared} {zp ti to : Addr} {f0 : Value} {Q : Value → Shared → Prop} (hz : IsZip z.heap zp ti to f0)
    (k : ∀ h2, IsEnum h2 z.heap.objs.size zp 0 .none → (∀ b u, z.heap.get? b = some u → h2.get? b = some u) → Q (.ref z.heap.objs.size) { z with heap := h2 }) : wpAny (model prog w) A (call (.type "enumerate") [.ref zp]) Q E z := by
  refine callType_new F.called_enumerate (by decide) (F.typeCall_enumerate_1 _) (F.newCall_enumerate_1 _) (fun ob2 => F.args_object_init_2 ob2 _) F.entry_enumerate_new (enumNew2 zp ti to f0) ⟨hz, ?_⟩
  have he : IsEnum (z.heap.push (enumObj zp)) z.heap.objs.size zp 0 .none := Heap.get?_push_size z.heap (o := enumObj zp) rfl
  exact ⟨⟨_, he, rfl⟩, k _ he fun b u y => Heap.get?_push_of_some _ y⟩
def iEnZ (K : PySem.W.Frag) (ta : TA) : TI := fun σ H R => ta σ H fun vs H1 => ∃ a b xs ys, vs = [.ref a, .ref b] ∧ SqT K H1 a xs ∧ SqT K H1 b ys ∧ R (Iez K a b) H1
theorem pi_enumZ {X : Cx} {e e2 : Expr} {ta : TA} {p p2 pos pos2 tpos : Pos} {elts : List Expr} {kk : Nat} (hg : Gl X "enumerate") (hm : X.mg "enumerate" = none) (hgz : Gl X "zip") (hmz : X.mg "zip" = none) (ha : PA X [e, e2] ta)
    (hs : starEach [e, e2] X.env = (false, eval e X.env) :: starEach [e2] X.env := by rfl) (hpl : (backTo pos2 (starEach [e2] X.env)).any (·.1) = false := by rfl) (hs1 : starEach [.Call (.Name "zip" p2) [e, e2] [] pos2] X.env = [(false, eval (.Call (.Name "zip" p2) [e, e2] [] pos2) X.env)] := by rfl) :
    PI X (.Tuple elts kk tpos) (.Call (.Name "enumerate" p) [.Call (.Name "zip" p2) [e, e2] [] pos2] [] pos) (iEnZ X.K ta) := by
  refine ⟨fun pins s σ H R I hyp => ?_⟩
  refine Call_ (ld_blt I hg hm boot_enumerate (PyProof.Rows.callWith_type1 ?_ hs1 rfl))
  rw [hs1]
  show wpAny _ _ (spliced ((false, eval (.Call (.Name "zip" p2) [e, e2] [] pos2) X.env) :: [])) _ _ s
  refine Calls.spliced_cons (Call_ (ld_blt I hgz hmz PyProof.Rows.boot_zip (PyProof.Rows.callWith_type1 (thn (ha.run pos2 pins s σ H _ I hyp) fun us s1 ⟨vs, H1, I1, r1, q1⟩ => ?_) hs hpl)))
  obtain ⟨a, b, xs, ys, ex, qx, qy, q⟩ := q1
  subst ex
  cases r1 with
  | cons r rr =>
    cases rr with
    | cons r2 rr =>
      cases rr
      cases r
      cases r2
      obtain ⟨its, rv, pa, _⟩ := I1.tuple qx
      obtain ⟨its2, rv2, pb, _⟩ := I1.tuple qy
      obtain ⟨o1, ho1, _⟩ := id pa
      obtain ⟨o2, ho2, _⟩ := id pb
      refine call_zipT (show s1.heap.IsTuple a its.toArray from pa) (show s1.heap.IsTuple b its2.toArray from pb) fun g1 hz hI hO i1 i2 hsz hk => Calls.spliced_nil ?_
      refine enumCall2 (z := { s1 with heap := g1 }) hz fun g2 he hk2 => wpAny_pyIter_enum he ?_
      have I2 : Inv X pins σ H1 { s1 with heap := g2 } := I1.kept (t' := s1.toks) fun c o z => hk2 c o (hk c o z)
      have hsz : ({ s1 with heap := g1 } : Shared).heap.objs.size = s1.heap.objs.size + 5 := hsz
      rw [hsz] at he ⊢
      refine ⟨s1.heap.objs.size + 5, [s1.heap.objs.size + 5, s1.heap.objs.size + 4, s1.heap.objs.size + 2, s1.heap.objs.size + 3, s1.heap.objs.size, s1.heap.objs.size + 1], _, _, H1, rfl, I2, turn_enumZ (PySem.W.ktu_apart s1.heap.objs.size a b (Heap.lt_size ho1) (Heap.lt_size ho2)) ?_ ?_ ?_ ?_ ?_, ⟨⟨.none, he⟩, ⟨_, _, hk2 _ _ hz, .inl rfl⟩, hk2 _ _ hI, ⟨_, _, hk2 _ _ hO⟩, i1.at fun o z => hk2 _ o z, i2.at fun o z => hk2 _ o z⟩, fun c hc => ?_, q⟩
      · exact Nat.ne_of_gt (Nat.add_lt_add_left (by decide : 2 < 5) _)
      · exact Nat.ne_of_gt (Nat.add_lt_add_left (by decide : 4 < 5) _)
      · exact Nat.ne_of_gt (Nat.add_lt_add_left (by decide : 3 < 5) _)
      · exact Nat.ne_of_gt (Nat.lt_add_of_pos_right (by decide))
      · exact Nat.ne_of_gt (Nat.add_lt_add_left (by decide : 1 < 5) _)
      · have z : c = s1.heap.objs.size + 5 ∨ c = s1.heap.objs.size + 4 ∨ c = s1.heap.objs.size + 2 ∨ c = s1.heap.objs.size + 3 ∨ c = s1.heap.objs.size ∨ c = s1.heap.objs.size + 1 := by simpa using hc
        have hle : s1.heap.objs.size ≤ c := by
          rcases z with z | z | z | z | z | z
          · rw [z]; exact Nat.le_add_right _ _
          · rw [z]; exact Nat.le_add_right _ _
          · rw [z]; exact Nat.le_add_right _ _
          · rw [z]; exact Nat.le_add_right _ _
          · rw [z]; exact Nat.le_refl _
          · rw [z]; exact Nat.le_add_right _ _
        exact I1.fpOk hle (I1.hok.fresh hle)
end Hod

set_option Elab.async false
set_option linter.all false
set_option maxRecDepth 100000
set_option maxHeartbeats 4000000
namespace Hod
open PySem PySem.Spec PyProof.Rows L2
theorem tmul0 (l : Addr) (items : Array Value) (n : Nat) (dd : Option Addr) (sl : Array (Option Value)) (u : Tok) (c1 : items.isEmpty = false) :
    Meets (Builtin.«tuple.__mul__» ⟨[.ref l, .int 0 u], []⟩) (fun _ R s => s.heap.get? l = some { cls := .type "tuple", dict := dd, data := .seq items n, slots := sl } ∧ R (.ok (.ret (Value.ref s.heap.objs.size))) { s with heap := s.heap.push { cls := Value.type "tuple", data := Data.seq #[] }, toks := s.toks }) :=
  .of_wp fun prog w A R s h => by
    obtain ⟨hp, g, d, tk, os⟩ := s
    obtain ⟨hl, h⟩ := h
    have f1 := AutoSeq1.idx_int
    wp_walk using wpAny_loadPart' hl
    repeat (first
      | (refine wpAny_ite_false (decide_eq_false (by rw [c1]; exact Bool.false_ne_true)) ?_; wp_walk using wpAny_loadPart' hl)
      | (refine wpAny_ite_true (decide_eq_true (by simp)) ?_; wp_walk using wpAny_loadPart' hl))
    exact ⟨_, rfl, h⟩
theorem tmul1 (l : Addr) (items : Array Value) (n : Nat) (dd : Option Addr) (sl : Array (Option Value)) (u : Tok) (c1 : items.isEmpty = false) :
    Meets (Builtin.«tuple.__mul__» ⟨[.ref l, .int 1 u], []⟩) (fun _ R s => s.heap.get? l = some { cls := .type "tuple", dict := dd, data := .seq items n, slots := sl } ∧ R (.ok (.ret (Value.ref l))) s) :=
  .of_wp fun prog w A R s h => by
    obtain ⟨hp, g, d, tk, os⟩ := s
    obtain ⟨hl, h⟩ := h
    have f1 := AutoSeq1.idx_int
    wp_walk using wpAny_loadPart' hl
    repeat (first
      | (refine wpAny_ite_true (decide_eq_true (by simp)) ?_; wp_walk using wpAny_loadPart' hl))
    exact ⟨_, rfl, h⟩
def rRepT2 (K : PySem.W.Frag) : R2 := fun x y H Q => ∃ l k xs, x = .ref l ∧ y = .int k ∧ SqT K H l xs ∧ xs ≠ [] ∧ 0 ≤ k ∧ k ≤ 1000 ∧ xs.length ≤ 1000 ∧ (k = 1 → Q (.ref l) H) ∧ (k ≠ 1 → ∀ p, H p = none → Q (.ref p) (upd H p (.tup (List.replicate k.toNat xs).flatten)))
theorem op_repT2 {X : Cx} : OpR X (binaryOp .Mult) (rRepT2 X.K) := by
  intro pins s σ H x y v u Q I rx ry h
  obtain ⟨l, k, xs, rfl, rfl, hT, hne, k0, k1, hz, qa, qb⟩ := h
  by_cases h2 : 2 ≤ k
  · exact op_repT pins s σ H _ _ v u Q I rx ry ⟨l, k, xs, rfl, rfl, hT, hne, h2, k1, hz, qb (by omega)⟩
  cases rx
  obtain ⟨t, rfl⟩ := ry
  obtain ⟨its, r, ⟨⟨cls, dd, data, sl⟩, ho, hc, n, hd⟩, hs⟩ := I.tuple hT
  simp only at hc hd
  subst hc hd
  have hi : its.toArray.isEmpty = false := by
    cases its with
    | nil => exact absurd (List.eq_nil_of_length_eq_zero r.length) hne
    | cons a b => rfl
  rcases (show k = 0 ∨ k = 1 by omega) with rfl | rfl
  · refine wpAny_binaryOp_repeat_ref (T := "tuple") (U := "int") (by decide) ⟨_, ho, rfl⟩ (fun z => typeIs_int z 0 t) noFill_tuple_mul F.fills_int_mul F.slot_int_rmul repeat_tuple F.slot_int_index.lookup
      (call_meets F.slot_int_rmul (typeIs_int s 0 t) F.entry_int_rmul (F.args_int_rmul_2 _ _) (int_rmul_tuple 0 t l its.toArray n dd sl) ⟨ho, rfl, ⟨_, ho, rfl⟩, call_meets F.slot_tuple_mul ⟨_, ho, rfl⟩ F.entry_tuple_mul (F.args_tuple_mul_2 _ _) (tmul0 l its.toArray n dd sl t hi) ⟨ho, ?_⟩⟩)
    refine ⟨.ref s.heap.objs.size, _, I.laid (t' := s.toks) (o := .tup []) (fun b ob q => Heap.get?_push_of_some _ q) (Nat.le_refl _) ?_, rfl, qb (by omega) _ (I.hok.fresh (Nat.le_refl _))⟩
    exact ⟨Nat.zero_le _, [], .nil, IsTup.new _ _⟩
  · refine wpAny_binaryOp_repeat_ref (T := "tuple") (U := "int") (by decide) ⟨_, ho, rfl⟩ (fun z => typeIs_int z 1 t) noFill_tuple_mul F.fills_int_mul F.slot_int_rmul repeat_tuple F.slot_int_index.lookup
      (call_meets F.slot_int_rmul (typeIs_int s 1 t) F.entry_int_rmul (F.args_int_rmul_2 _ _) (int_rmul_tuple 1 t l its.toArray n dd sl) ⟨ho, rfl, ⟨_, ho, rfl⟩, call_meets F.slot_tuple_mul ⟨_, ho, rfl⟩ F.entry_tuple_mul (F.args_tuple_mul_2 _ _) (tmul1 l its.toArray n dd sl t hi) ⟨ho, ?_⟩⟩)
    exact ⟨.ref l, H, I, rfl, qa rfl⟩
theorem walk_zipT {K : PySem.W.Frag} {a b : Addr} {xs ys : List V} {n : Nat} (hn : n = min xs.length ys.length) : Walk (RZ.ItzT K a b) n (fun H => SqT K H a xs ∧ SqT K H b ys) (YPair (fun i => xs[i]?) (fun i => ys[i]?)) := by
  subst hn
  refine ⟨fun i _ hi q => ⟨xs, ys, xs[i]'(by omega), ys[i]'(by omega), q.1, q.2, by simp, by simp⟩, fun _ q => ⟨xs, ys, q.1, q.2, by omega⟩, fun i H v H2 _ q y => ?_⟩
  obtain ⟨T, x, z, h1, h2, h3, h4, h5⟩ := y
  exact ⟨T, x, z, h1, h2, h3, h4 xs q.1, h5 ys q.2⟩
def YEz (xs ys : List V) : Nat → Hp → V → Hp → Prop := fun i H v H2 => ∃ T U x y, v = .ref U ∧ H T = none ∧ H U = none ∧ U ≠ T ∧ H2 = upd (upd H T (.tup [x, y])) U (.tup [.int (i : Nat), .ref T]) ∧ xs[i]? = some x ∧ ys[i]? = some y
theorem walk_enumZ {K : PySem.W.Frag} {a b : Addr} {xs ys : List V} {n : Nat} (hn : n = min xs.length ys.length) : Walk (Iez K a b) n (fun H => SqT K H a xs ∧ SqT K H b ys) (YEz xs ys) := by
  subst hn
  refine ⟨fun i _ hi q => ⟨xs, ys, xs[i]'(by omega), ys[i]'(by omega), q.1, q.2, by simp, by simp⟩, fun _ q => ⟨xs, ys, q.1, q.2, by omega⟩, fun i H v H2 _ q y => ?_⟩
  obtain ⟨T, U, x, z, h1, h2, h3, h4, h5, h6, h7⟩ := y
  exact ⟨T, U, x, z, h1, h2, h3, h4, h5, h6 xs q.1, h7 ys q.2⟩
end Hod
namespace Hv
open PySem PySem.Spec PyProof.Rows L2 Hod
def gRepT : G2 := fun _ a b Q => match a, b with | .dat (.tuple ds), .dat (.int k) => ds ≠ [] ∧ (0 ≤ k ∧ k ≤ 1000) ∧ ds.length ≤ 1000 ∧ Q (.dat (.tuple (List.replicate k.toNat ds).flatten)) | _, _ => False
theorem r_repT {K : PySem.W.Frag} : RV K (rRepT2 K) gRepT := fun S B x y H μ a b Q Q2 gd ra rb q k => by
  cases ra with
  | dat ra =>
    cases ra with
    | @tup p xs ds h1 h2 =>
      cases rb with
      | dat rb =>
        cases rb with
        | int i =>
          obtain ⟨q0, q1, q2, q⟩ := q
          refine ⟨p, i, xs, rfl, rfl, sqt_same off_same h1, fun e => ?_, q1.1, q1.2, by rw [h2.len]; exact q2, fun e => ?_, fun e l nl => ?_⟩
          · subst e
            cases h2
            exact q0 rfl
          · subst e
            refine k _ _ _ .refl gd (.dat (.tup h1 h2)) ?_
            have e : (List.replicate (1 : Int).toNat ds).flatten = ds := by simp
            rw [e] at q
            exact q
          · obtain ⟨b1, b2⟩ := gd.free nl
            exact k _ _ _ (.new nl) (gd.new nl) (.dat (.tup (.inl (.inl (off_upd b1 b2))) ((rps_flat h2 _).mono ((Ex.new nl).off gd) _ _))) q
        | _ => exact q.elim
      | _ => exact q.elim
    | _ => exact q.elim
  | _ => exact q.elim
theorem ev_repT {ρ : Rho} {μ : Mem} {wa wb : WE} {ds : List PyData} {k : Int} (h1 : Evs wa ρ μ (.dat (.tuple ds))) (h2 : Evs wb ρ μ (.dat (.int k))) (hn : ds ≠ []) (hk : 0 ≤ k ∧ k ≤ 1000) (hl : ds.length ≤ 1000) : Evs (wOp gRepT wa wb) ρ μ (.dat (.tuple (List.replicate k.toNat ds).flatten)) := fun Q q => h1 _ (h2 _ ⟨hn, hk, hl, q⟩)
/-! zip of two tuples, counted or not -/
def wiZ (u : WA) : WI := fun ρ μ Q => u ρ μ fun as => match as with | [.dat (.tuple ds), .dat (.tuple es)] => Q (zipD ds es) | _ => False
def wiEZ (u : WA) : WI := fun ρ μ Q => u ρ μ fun as => match as with | [.dat (.tuple ds), .dat (.tuple es)] => Q (enumD (zipD ds es)) | _ => False
theorem zipD_len (ds es : List PyData) : (zipD ds es).length = min ds.length es.length := by simp [zipD]
section
variable {X : Cx} {xl : XLT X.K} {e e2 : Expr} {u : WA} {p p2 pos pos2 tpos : Pos} {elts : List Expr} {kk : Nat}
theorem vi_zipT (hg : Gl X "zip") (hm : X.mg "zip" = none) (ha : VA X xl [e, e2] u) (hs : starEach [e, e2] X.env = (false, eval e X.env) :: starEach [e2] X.env := by rfl) (hpl : (backTo pos (starEach [e2] X.env)).any (·.1) = false := by rfl) : VI X xl (.Tuple elts kk tpos) (.Call (.Name "zip" p) [e, e2] [] pos) (wiZ u) := by
  refine pi_weak (RZ.pi_zipA hg hm ha hs hpl) fun σ H R ⟨S, B, ρ, μ, Q2, st, w, k⟩ => ⟨S, B, ρ, μ, _, st, w, fun vs H1 as e1 g1 rs q1 => ?_⟩
  split at q1
  · rename_i ds es
    cases rs with
    | cons r rs =>
      cases rs with
      | cons r' rs =>
        cases rs
        cases r with
        | dat r =>
          cases r' with
          | dat r' =>
            cases r with
            | @tup a xs _ h1 h2 =>
              cases r' with
              | @tup b ys _ h3 h4 =>
                refine ⟨a, b, xs, ys, rfl, .inr ⟨sqt_same off_same h1, sqt_same off_same h3, k _ H1 _ e1 g1 (wk_pair (n := min xs.length ys.length) (by rw [zipD_len, h2.len, h4.len]) (walk_zipT rfl) (fun H2 sm => ⟨sqt_same sm h1, sqt_same sm h3⟩) fun i x y hi f1 f2 => ?_) q1⟩⟩
                obtain ⟨d, a1, a2⟩ := h2.getV f1
                obtain ⟨d2, b1, b2⟩ := h4.getV f2
                exact ⟨_, _, zipD_at a1 b1, a2, b2⟩
  · exact q1.elim
theorem vi_enumZ (hg : Gl X "enumerate") (hm : X.mg "enumerate" = none) (hgz : Gl X "zip") (hmz : X.mg "zip" = none) (ha : VA X xl [e, e2] u) (hs : starEach [e, e2] X.env = (false, eval e X.env) :: starEach [e2] X.env := by rfl) (hpl : (backTo pos2 (starEach [e2] X.env)).any (·.1) = false := by rfl)
    (hs1 : starEach [.Call (.Name "zip" p2) [e, e2] [] pos2] X.env = [(false, eval (.Call (.Name "zip" p2) [e, e2] [] pos2) X.env)] := by rfl) : VI X xl (.Tuple elts kk tpos) (.Call (.Name "enumerate" p) [.Call (.Name "zip" p2) [e, e2] [] pos2] [] pos) (wiEZ u) := by
  refine pi_weak (pi_enumZ hg hm hgz hmz ha hs hpl hs1) fun σ H R ⟨S, B, ρ, μ, Q2, st, w, k⟩ => ⟨S, B, ρ, μ, _, st, w, fun vs H1 as e1 g1 rs q1 => ?_⟩
  split at q1
  · rename_i ds es
    cases rs with
    | cons r rs =>
      cases rs with
      | cons r' rs =>
        cases rs
        cases r with
        | dat r =>
          cases r' with
          | dat r' =>
            cases r with
            | @tup a xs _ h1 h2 =>
              cases r' with
              | @tup b ys _ h3 h4 =>
                refine ⟨a, b, xs, ys, rfl, sqt_same off_same h1, sqt_same off_same h3, k _ H1 _ e1 g1 ?_ q1⟩
                have hn : (enumD (zipD ds es)).length = min xs.length ys.length := by simp [enumD, zipD, h2.len, h4.len]
                refine ⟨fun H => SqT X.K H a xs ∧ SqT X.K H b ys, YEz xs ys, by rw [hn]; exact walk_enumZ rfl, fun H2 sm => ⟨sqt_same sm h1, sqt_same sm h3⟩, fun i H2 x H3 B' μ' hi sm g y => ?_⟩
                obtain ⟨T, U, x1, y1, rfl, nT, nU, ne, rfl, f1, f2⟩ := y
                obtain ⟨d, a1, a2⟩ := h2.getV f1
                obtain ⟨d2, b1, b2⟩ := h4.getV f2
                have gT := g.new (o := .tup [x1, y1]) nT
                have nU2 : upd H2 T (.tup [x1, y1]) U = none := by rw [upd_ne ne]; exact nU
                have gU := gT.new (o := .tup [.int (i : Nat), .ref T]) nU2
                obtain ⟨c1, c2⟩ := g.free nT
                obtain ⟨c3, c4⟩ := gT.free nU2
                have s1 := (Ex.new (S := S) (o := .tup [x1, y1]) nT).off g
                have s2 := (Ex.new (S := S) (o := .tup [.int (i : Nat), .ref T]) nU2).off gT
                exact ⟨(Ex.new nT).trans (.new nU2), gU, _, enumD_at (zipD_at a1 b1), .tup (.inl (.inl (off_upd c3 c4))) (.cons (.int _) (.cons (.tup (.inl (.inl (s2 _ _ (off_upd c1 c2)))) (.cons (((a2.mono sm _ _).mono s1 _ _).mono s2 _ _) (.cons (((b2.mono sm _ _).mono s1 _ _).mono s2 _ _) .nil))) .nil))⟩
  · exact q1.elim
end
theorem ei_Z {ρ : Rho} {μ : Mem} {wa wb : WE} {ds es : List PyData} (h1 : Evs wa ρ μ (.dat (.tuple ds))) (h2 : Evs wb ρ μ (.dat (.tuple es))) : EvIs (wiZ (waCons wa (waCons wb waNil))) ρ μ (zipD ds es) := fun Q q => h1 _ (h2 _ q)
theorem ei_EZ {ρ : Rho} {μ : Mem} {wa wb : WE} {ds es : List PyData} (h1 : Evs wa ρ μ (.dat (.tuple ds))) (h2 : Evs wb ρ μ (.dat (.tuple es))) : EvIs (wiEZ (waCons wa (waCons wb waNil))) ρ μ (enumD (zipD ds es)) := fun Q q => h1 _ (h2 _ q)
end Hv

set_option Elab.async false
set_option linter.all false
set_option maxRecDepth 100000
/-! comprehensions with two generators, by values -/
namespace Hv
open PySem PySem.Spec PyProof.Rows L2 Hod
def lcWL (f : PyData → (List PyData → Prop) → Prop) : List PyData → (List PyData → Prop) → Prop
  | [], Q => Q []
  | d :: ds, Q => f d fun l => lcWL f ds fun es => Q (l ++ es)
def lcF2 (p : Pat) (wt : WT) (wi : WI) (p1 : Pat) (wt1 : WT) (we : WE) (vs1 : List Nat) (ρ : Rho) (μ : Mem) : PyData → (List PyData → Prop) → Prop := fun d Q => match bindP p d ρ with
  | some ρ' => wt ρ' μ fun b => if b = true then wi ρ' μ fun ds => ds.length ≤ 1000 ∧ lcW (lcF p1 wt1 we (wipeA ρ' vs1) μ) ds Q else Q []
  | none => False
def wLc2 (wi : WI) (p : Pat) (wt : WT) (wi1 : WI) (p1 : Pat) (wt1 : WT) (we : WE) (vs vs1 : List Nat) : WE := fun ρ μ Q => wi ρ μ fun ds => ds.length ≤ 1000 ∧ lcWL (lcF2 p wt wi1 p1 wt1 we vs1 (wipeA ρ vs) μ) ds fun es => Q (.dat (.list es))
section
variable {K : PySem.W.Frag} {xl : XLT K} {S : Hs} {B : Hid} {μ : Mem} {H : Hp}
theorem drop_at {ds : List PyData} {i : Nat} {d : PyData} (hd : ds[i]? = some d) : ds.drop i = d :: ds.drop (i + 1) := by
  obtain ⟨h1, h2⟩ := List.getElem?_eq_some_iff.mp hd
  rw [List.drop_eq_getElem_cons h1, h2]
theorem ex_put {H1 H5 : Hp} {D : Addr} {o : HO} (ex : Ex S H1 H5) (nD : H1 D = none) : Ex S H1 (upd H5 D o) :=
  ⟨fun a u s h => by rw [upd_ne (ne_of_none h nD)]; exact ex.keep a u s h, fun a h => by
    by_cases z : a = D
    · rw [z]; exact nD
    · rw [upd_ne z] at h; exact ex.dom a h, fun a c r s h => by rw [upd_ne (ne_of_none h nD)]; exact ex.dr a c r s h⟩
theorem lf_lc2 {wi wi1 : WI} {p p1 : Pat} {wt wt1 : WT} {we : WE} {vs vs1 : List Nat} (hv : p.sub vs = true) (hv1 : p1.sub vs1 = true) (σ : L2.St) (H : Hp) (Q : VK) (h : LF K xl (wLc2 wi p wt wi1 p1 wt1 we vs vs1) σ H Q) :
    tLc2 (LI K xl wi) (gOf K p) (LT K xl0 wt) (LI K xl0 wi1) (gOf K p1) (LT K xl0 wt1) (LE K xl0 we) vs vs1 σ H Q := by
  obtain ⟨S, B, ρ, μ, Q2, st, w, k⟩ := h
  refine ⟨S, B, ρ, μ, _, st, w, fun J H1 ds e1 g1 ⟨G, Y, wk, hG, hY⟩ ⟨hz, q1⟩ D nD => ?_⟩
  obtain ⟨bD, mD⟩ := g1.free nD
  have sD : S D = false := g1.sb bD
  have so : ∀ {H2 : Hp}, Ex S H1 H2 → Same (off B μ H1) (off (plus B D) μ H2) := fun {H2} ex a o h => by
    obtain ⟨h1, h2, h3⟩ := off_some h
    have ne : a ≠ D := ne_of_none h3 nD
    rw [off_of (by simp [plus, h1, ne]) h2]
    exact ex.keep a o (g1.sb h1) h3
  have sl0 := (st.ex e1 g1).sl.wipe vs
  let F := lcF2 p wt wi1 p1 wt1 we vs1 (wipeA ρ vs) μ
  let Pv : Nat → Hp → Prop := fun i H2 => Ex S H1 H2 ∧ Good K S (plus B D) μ H2 ∧ ∃ acc accD, H2 D = some (.lst acc) ∧ Rps K (off (plus B D) μ H2) acc accD ∧ accD.length ≤ 1000 * i ∧ lcWL F (ds.drop i) fun es => Q2 (.dat (.list (accD ++ es)))
  refine ⟨fun i m H2 => m = ds.length - i ∧ i ≤ ds.length ∧ Pv i H2, ⟨ds.length, rfl, Nat.zero_le _, .new nD, g1.plus_new nD, [], [], upd_same, .nil, Nat.zero_le _, q1⟩, ?_⟩
  rintro i m H2 ⟨rfl, hi, ex, g2, acc, accD, hD, hacc, hlen, q⟩
  have hG2 : G H2 := hG H2 fun a o h => off_same _ _ (so ex a o h)
  by_cases hlt : i < ds.length
  · refine .inr ⟨wk.goes i H2 hlt hG2, Pv (i + 1), fun H' p' => ⟨ds.length - (i + 1), by omega, rfl, hlt, p'⟩, fun x H3 y => ?_⟩
    obtain ⟨ex3, g3, d, hd, rd⟩ := hY i H2 x H3 (plus B D) μ hlt (so ex) g2 (wk.yields i H2 x H3 hlt hG2 y)
    rw [drop_at hd] at q
    have q : lcF2 p wt wi1 p1 wt1 we vs1 (wipeA ρ vs) μ d fun l => lcWL F (ds.drop (i + 1)) fun es => Q2 (.dat (.list (accD ++ (l ++ es)))) := q
    unfold lcF2 at q
    split at q
    · rename_i ρ' hb
      have exT := ex.trans ex3
      refine gOf_ok (S := S) (μ := μ) (G := off (plus B D) μ H3) off_same p d (wipeA ρ vs) ρ' x (wipe σ vs) _ hb rd (sl0.mono (so exT)) fun σ2 s2 w2 => ⟨by rw [w2 vs hv, wipe_wipe], ?_⟩
      refine ⟨S, plus B D, ρ', μ, _, ⟨g3, s2, trivial⟩, q, fun b H4 e4 g4 q4 => ?_⟩
      have hD4 : H4 D = some (.lst acc) := e4.keep _ _ sD (ex3.keep _ _ sD hD)
      have hacc4 := (hacc.mono (ex3.off g2) _ _).mono (e4.off g3) _ _
      cases b with
      | false =>
        refine ⟨exT.trans e4, g4, acc, accD, hD4, hacc4, by omega, ?_⟩
        exact q4
      | true =>
        refine ⟨S, plus B D, ρ', μ, _, ⟨g4, s2.mono (e4.off g3), trivial⟩, q4, fun J1 H5 ds1 e5 g5 ⟨G1, Y1, wk1, hG1, hY1⟩ ⟨hz1, q5⟩ => ?_⟩
        have s5 := (s2.mono (e4.off g3)).mono (e5.off g4)
        have hD5 : H5 D = some (.lst acc) := e5.keep _ _ sD hD4
        have hacc5 := hacc4.mono (e5.off g4) _ _
        let P1 : Nat → Hp → Prop := fun j H6 => Ex S H1 H6 ∧ Good K S (plus B D) μ H6 ∧ Same (off (plus B D) μ H5) (off (plus B D) μ H6) ∧ ∃ acc2 accD2, H6 D = some (.lst acc2) ∧ Rps K (off (plus B D) μ H6) acc2 (accD ++ accD2) ∧ accD2.length ≤ j ∧ lcW (lcF p1 wt1 we (wipeA ρ' vs1) μ) (ds1.drop j) fun l => lcWL F (ds.drop (i + 1)) fun es => Q2 (.dat (.list (accD ++ (accD2 ++ l ++ es))))
        refine ⟨fun j m H6 => m = ds1.length - j ∧ j ≤ ds1.length ∧ P1 j H6, ⟨ds1.length, rfl, Nat.zero_le _, (exT.trans e4).trans e5, g5, Same.refl _, acc, [], hD5, by rw [List.append_nil]; exact hacc5, Nat.zero_le _, q5⟩, ?_⟩
        rintro j m H6 ⟨rfl, hj, ex6, g6, sm6, acc2, accD2, hD6, hacc6, hlen6, q6⟩
        have hG6 : G1 H6 := hG1 H6 fun a o h => off_same _ _ (sm6 a o h)
        by_cases hjl : j < ds1.length
        · refine .inr ⟨wk1.goes j H6 hjl hG6, P1 (j + 1), fun H' p' => ⟨ds1.length - (j + 1), by omega, rfl, hjl, p'⟩, fun x1 H7 y1 => ?_⟩
          obtain ⟨ex7, g7, d1, hd1, rd1⟩ := hY1 j H6 x1 H7 (plus B D) μ hjl sm6 g6 (wk1.yields j H6 x1 H7 hjl hG6 y1)
          rw [drop_at hd1] at q6
          have q6 : lcF p1 wt1 we (wipeA ρ' vs1) μ d1 fun o => lcW (lcF p1 wt1 we (wipeA ρ' vs1) μ) (ds1.drop (j + 1)) fun l => lcWL F (ds.drop (i + 1)) fun es => Q2 (.dat (.list (accD ++ (accD2 ++ (o.toList ++ l) ++ es)))) := q6
          unfold lcF at q6
          split at q6
          · rename_i ρ1 hb1
            have sm7 : Same (off (plus B D) μ H5) (off (plus B D) μ H7) := fun a o h => ex7.off g6 a o (sm6 a o h)
            refine gOf_ok (S := S) (μ := μ) (G := off (plus B D) μ H7) off_same p1 d1 (wipeA ρ' vs1) ρ1 x1 (wipe σ2 vs1) _ hb1 rd1 ((s5.mono sm7).wipe vs1) fun σ3 s3 w3 => ⟨by rw [w3 vs1 hv1, wipe_wipe], ?_⟩
            refine ⟨S, plus B D, ρ1, μ, _, ⟨g7, s3, trivial⟩, q6, fun b H8 e8 g8 q8 => ?_⟩
            have hD8 : H8 D = some (.lst acc2) := e8.keep _ _ sD (ex7.keep _ _ sD hD6)
            have hacc8 := (hacc6.mono (ex7.off g6) _ _).mono (e8.off g7) _ _
            have sm8 : Same (off (plus B D) μ H5) (off (plus B D) μ H8) := fun a o h => e8.off g7 a o (sm7 a o h)
            cases b with
            | false => exact ⟨(ex6.trans ex7).trans e8, g8, sm8, acc2, accD2, hD8, hacc8, by omega, q8⟩
            | true =>
              refine ⟨S, plus B D, ρ1, μ, _, ⟨g8, s3.mono (e8.off g7), trivial⟩, q8, fun v9 H9 a9 e9 g9 r9 q9 => ?_⟩
              cases r9 with
              | @dat _ d9 r9 =>
                have hacc9 := hacc8.mono (e9.off g8) _ _
                refine ⟨acc2, e9.keep _ _ sD hD8, million (by rw [hacc6.len, List.length_append]; omega), ex_put (((ex6.trans ex7).trans e8).trans e9) nD, g9.upd_hid sD (e9.keep _ _ sD hD8), fun a o h => by rw [plus_off]; exact e9.off g8 a o (sm8 a o h), acc2 ++ [v9], accD2 ++ [d9], upd_same, ?_, by simp; omega, ?_⟩
                · rw [plus_off, ← List.append_assoc]
                  exact hacc9.app (.cons r9 .nil)
                · have e : ∀ l es, accD ++ (accD2 ++ [d9] ++ l ++ es) = accD ++ (accD2 ++ ((some d9).toList ++ l) ++ es) := fun l es => by simp
                  simp only [e]
                  exact q9
              | _ => exact q9.elim
          · exact q6.elim
        · have ej : j = ds1.length := by omega
          subst ej
          rw [List.drop_length] at q6
          have q6 : lcWL F (ds.drop (i + 1)) fun es => Q2 (.dat (.list (accD ++ (accD2 ++ [] ++ es)))) := q6
          refine .inl ⟨wk1.stops H6 hG6, ex6, g6, acc2, accD ++ accD2, hD6, hacc6, by rw [List.length_append]; omega, ?_⟩
          have e : ∀ es, accD ++ accD2 ++ es = accD ++ (accD2 ++ [] ++ es) := fun es => by simp
          simp only [e]
          exact q6
    · exact q.elim
  · have ei : i = ds.length := by omega
    subst ei
    rw [List.drop_length] at q
    have q : Q2 (.dat (.list (accD ++ []))) := q
    rw [List.append_nil] at q
    exact .inl ⟨wk.stops H2 hG2, k _ _ _ (e1.trans ex) (g1.step ex g2) (.dat (.lst (by rw [off_of bD mD]; exact hD) (hacc.mono plus_sub _ _))) (fun z _ e _ => by cases e; exact e1.dom _ nD) q⟩
end
section
variable {X : Cx} {xl : XLT X.K}
theorem vf_lc2 {elt tg iter tg1 iter1 : Expr} {ifs ifs1 : List Expr} {scope : Scope} {own : List (Str × Nat)} {vs1 : List Nat} {pos : Pos} {wi wi1 : WI} {wt wt1 : WT} {we : WE} (p p1 : Pat) (hc : X.calm = true) (hN : X.N.Nodup) (hi : VI X xl tg iter wi) (ok : BlkOk X.N X.env.scope scope own) (hvs : ∀ i ∈ vs1, i ∈ own.map (·.2))
    (hg : ∀ (s : Shared) (H : Hp) (C : Addr) (cl : List (Str × Addr)) (fp : List Addr), PG (X.blk s H scope (compEnvC scope cl C X.env) fp) tg (gOf X.K p)) (ht : ∀ (s : Shared) (H : Hp) (C : Addr) (cl : List (Str × Addr)) (fp : List Addr), VTs (X.blk s H scope (compEnvC scope cl C X.env) fp) xl0 ifs wt)
    (hi1 : ∀ (s : Shared) (H : Hp) (C : Addr) (cl : List (Str × Addr)) (fp : List Addr), VI (X.blk s H scope (compEnvC scope cl C X.env) fp) xl0 tg1 iter1 wi1) (hg1 : ∀ (s : Shared) (H : Hp) (C : Addr) (cl : List (Str × Addr)) (fp : List Addr), PG (X.blk s H scope (compEnvC scope cl C X.env) fp) tg1 (gOf X.K p1)) (ht1 : ∀ (s : Shared) (H : Hp) (C : Addr) (cl : List (Str × Addr)) (fp : List Addr), VTs (X.blk s H scope (compEnvC scope cl C X.env) fp) xl0 ifs1 wt1)
    (he : ∀ (s : Shared) (H : Hp) (C : Addr) (cl : List (Str × Addr)) (fp : List Addr), VE (X.blk s H scope (compEnvC scope cl C X.env) fp) xl0 elt we) (hv : p.sub (own.map (·.2)) = true := by rfl) (hv1 : p1.sub vs1 = true := by rfl) (hs : ∀ x, foldedSetIterable iter X.env x = pure x := by intro _; rfl) (hs1 : ∀ env x, foldedSetIterable iter1 env x = pure x := by intro _ _; rfl) :
    VF X xl (.ListComp elt [⟨tg, iter, ifs, 0⟩, ⟨tg1, iter1, ifs1, 0⟩] scope pos) (wLc2 wi p wt wi1 p1 wt1 we (own.map (·.2)) vs1) := pe_weak (pe_lc2 hc hN hi ok hvs hg ht hi1 hg1 ht1 he hs hs1) (lf_lc2 hv hv1)
end
/-- of plain functions -/
theorem lcWL_of {f : PyData → (List PyData → Prop) → Prop} {g : PyData → List PyData} : ∀ {ds : List PyData} {Q : List PyData → Prop}, (∀ d ∈ ds, ∀ R : List PyData → Prop, R (g d) → f d R) → Q (ds.flatMap g) → lcWL f ds Q
  | [], _, _, q => q
  | d :: ds, Q, h, q => h d (by simp) _ (lcWL_of (fun d' hd => h d' (by simp [hd])) (by rw [List.flatMap_cons] at q; exact q))
theorem ev_lc2 {ρ : Rho} {μ : Mem} {wi wi1 : WI} {p p1 : Pat} {we : WE} {vs vs1 : List Nat} {ds : List PyData} {h : PyData → List PyData} {g : PyData → PyData → PyData} (hi : EvIs wi ρ μ ds) (hl : ds.length ≤ 1000) (hd : ∀ d ∈ ds, ∃ ρ', bindP p d (wipeA ρ vs) = some ρ' ∧ EvIs wi1 ρ' μ (h d) ∧ (h d).length ≤ 1000 ∧ ∀ e ∈ h d, ∃ ρ1, bindP p1 e (wipeA ρ' vs1) = some ρ1 ∧ Evs we ρ1 μ (.dat (g d e))) :
    Evs (wLc2 wi p wYes wi1 p1 wYes we vs vs1) ρ μ (.dat (.list (ds.flatMap fun d => (h d).map (g d)))) := fun Q q => hi _ ⟨hl, lcWL_of (g := fun d => (h d).map (g d)) (fun d hdd R r => by
    obtain ⟨ρ', h1, h2, h3, h4⟩ := hd d hdd
    unfold lcF2
    rw [h1]
    show wi1 ρ' μ fun ds => ds.length ≤ 1000 ∧ _
    exact h2 _ ⟨h3, lcW_map (g := g d) (fun e he R r => by obtain ⟨ρ1, k1, k2⟩ := h4 e he; exact lcF_yes k1 (k2 _ r)) r⟩) q⟩
end Hv

set_option Elab.async false
set_option linter.all false
set_option maxRecDepth 100000
/-! asks, and the lines that reasons bear -/
namespace Hv
open PySem PySem.Spec PyProof.Rows L2 Hod
def KeptOk (y : Yard) (old : List (Option (Int × Int))) : Prop := old = [] ∨ (old.length = y.works.length ∧ ∀ (k : Nat) (q : Int × Int) (v : Wrk), old[k]? = some (some q) → y.works[k]? = some v → (0 ≤ q.1 ∧ q.1 < y.days) ∧ 0 ≤ q.2 ∧ q.2 < (v.ways.length : Int))
structure Ask where
  y : Yard
  bd : Int
  prs : List (Option (Int × Int))
  most : Option Int
def Ask.e (a : Ask) : PyData := .tuple [a.y.e, .int a.bd, eOld a.prs, eO a.most]
structure Ask.ok (a : Ask) : Prop where
  y : a.y.ok
  b0 : 0 ≤ a.bd
  b1 : a.bd ≤ a.y.days
  pl : a.prs.length = a.y.works.length
  pk : ∀ (k : Nat) (q : Int × Int) (v : Wrk), a.prs[k]? = some (some q) → a.y.works[k]? = some v → (0 ≤ q.1 ∧ q.1 < a.y.days) ∧ 0 ≤ q.2 ∧ q.2 < (v.ways.length : Int)
  m : ∀ m, a.most = some m → 0 ≤ m ∧ m ≤ (a.y.works.length : Int)
def askOf (y : Yard) (bound : Option Int) (old : List (Option (Int × Int))) (most : Option Int) : Ask := ⟨y, bound.getD y.days, if old.length = 0 then List.replicate y.works.length none else old, most⟩
structure AskIn (y : Yard) (bound : Option Int) (old : List (Option (Int × Int))) (most : Option Int) : Prop where
  yo : y.ok
  b : ∀ b, bound = some b → 0 ≤ b ∧ b ≤ y.days
  k : KeptOk y old
  m : ∀ m, most = some m → 0 ≤ m ∧ m ≤ (y.works.length : Int)
theorem AskIn.ok {y : Yard} {bound : Option Int} {old : List (Option (Int × Int))} {most : Option Int} (h : AskIn y bound old most) : (askOf y bound old most).ok := by
  have d1 := h.yo.d1
  refine ⟨h.yo, ?_, ?_, ?_, ?_, h.m⟩
  · show 0 ≤ bound.getD y.days
    cases e : bound with
    | none => show 0 ≤ y.days; omega
    | some b => exact (h.b b e).1
  · show bound.getD y.days ≤ y.days
    cases e : bound with
    | none => exact Int.le_refl _
    | some b => exact (h.b b e).2
  · show (if old.length = 0 then List.replicate y.works.length none else old).length = y.works.length
    by_cases h0 : old.length = 0
    · rw [if_pos h0, List.length_replicate]
    · rw [if_neg h0]
      rcases h.k with e | e
      · rw [e] at h0; exact absurd rfl h0
      · exact e.1
  · intro k q v hk hv
    have hk : (if old.length = 0 then List.replicate y.works.length none else old)[k]? = some (some q) := hk
    by_cases h0 : old.length = 0
    · rw [if_pos h0, List.getElem?_replicate] at hk
      split at hk <;> cases hk
    · rw [if_neg h0] at hk
      rcases h.k with e | e
      · rw [e] at h0; exact absurd rfl h0
      · exact e.2 k q v hk hv
def FcanK : FS := fun as Q => ∃ (q : Int × Int) (d w : Int), as = [.dat (prP q), .dat (.int d), .dat (.int w)] ∧ (0 ≤ q.1 ∧ q.1 < d) ∧ (0 ≤ q.2 ∧ q.2 < w) ∧ Q (.bool true)
def FcKept : FS := fun as Q => ∃ (y : Yard) (old : List (Option (Int × Int))), as = [.dat y.e, .dat (eOld old)] ∧ y.ok ∧ KeptOk y old ∧ Q .none
def Fask : FS := fun as Q => ∃ (y : Yard) (bound : Option Int) (old : List (Option (Int × Int))) (most : Option Int), as = [.dat y.e, .dat (eO bound), .dat (eOld old), .dat (eO most)] ∧ AskIn y bound old most ∧ Q (askOf y bound old most).e
/-- a bearer: of an ask and things, sayings in their order -/
def Fbear (In : Ask → List PyData → List Say → Prop) : FS := fun as Q => ∃ (a : Ask) (ds : List PyData) (ss : List Say), as = [.dat a.e, .dat (.tuple ds)] ∧ a.ok ∧ In a ds ss ∧ Q (.list (ss.map Say.e))
def FlineOf (word : Str) (In : Ask → List PyData → List Say → Prop) : FS := fun as Q => ∃ (a : Ask) (ds : List PyData) (ss : List Say), as = [.dat a.e, .dat (.tuple (.str word :: ds))] ∧ a.ok ∧ In a ds ss ∧ ss.length ≤ 63 ∧ Q (lineE ss)
def Fbears (word : Str) (In : Ask → List PyData → List Say → Prop) : FS := fun as Q => ∃ (y : Yard) (ds : List PyData) (bound : Option Int) (old : List (Option (Int × Int))) (most : Option Int) (ss : List Say), as = [.dat y.e, .dat (.tuple (.str word :: ds)), .dat (eO bound), .dat (eOld old), .dat (eO most)] ∧ AskIn y bound old most ∧ In (askOf y bound old most) ds ss ∧ ss.length ≤ 63 ∧ Q (lineE ss)
def FoldK : FS := fun as Q => ∃ y : Yard, as = [.drw, .dat y.e] ∧ y.ok ∧ ∀ old : List (Option (Int × Int)), KeptOk y old → Q (eOld old)
def FlawAsk : FS := fun as Q => ∃ y : Yard, as = [.drw, .dat y.e] ∧ y.ok ∧ ∀ (c : Int) (old : List (Option (Int × Int))) (most : Option Int), AskIn y (some c) old most → Q (.tuple [.int c, eOld old, eO most])
/-! ### ties -/
def sinceT (y : Yard) (t : Tie) (u : Way) (d : Int) : Option Int := if t.kind = 1 then y.endFrom u d else some d
def shortT (y : Yard) (t : Tie) (u : Way) (d till : Int) : Bool := match sinceT y t u d with
  | some s => decide (s + t.gap < till)
  | none => false
def tieSays (y : Yard) (t : Tie) (d till : Int) (one other : Nat) (v : Wrk) : List Say := [⟨.ahd, one, d⟩, ⟨.frm, other, till⟩] ++ ((List.range v.ways.length).filter fun m => match v.ways[m]? with | some u => shortT y t u d till | none => false).map fun m => ⟨.way, one, (m : Nat)⟩
def TieIn : Ask → List PyData → List Say → Prop := fun a ds ss => ∃ (k : Nat) (t : Tie) (d till : Int) (v : Wrk), ds = [.int k, .int d, .int till] ∧ a.y.ties[k]? = some t ∧ (0 ≤ d ∧ d < a.y.days) ∧ (0 ≤ till ∧ till ≤ a.y.days) ∧ a.y.works[t.one.toNat]? = some v ∧ ss = tieSays a.y t d till t.one.toNat t.other.toNat v
def Fshort : FS := fun as Q => ∃ (y : Yard) (k m : Nat) (t : Tie) (u : Way) (d till : Int), as = [.dat y.e, .dat (.int k), .dat (.int m), .dat (.int d), .dat (.int till)] ∧ y.ok ∧ y.ties[k]? = some t ∧ y.way? t.one.toNat m = some u ∧ (0 ≤ d ∧ d < y.days) ∧ Q (.bool (shortT y t u d till))
end Hv
namespace Hv
open PySem PySem.Spec PyProof.Rows L2 Hod
theorem ez_get {old : List (Option (Int × Int))} {ws : List Wrk} {n : Nat} {d : PyData} (h : (enumD (zipD (old.map eOp) (ws.map Wrk.e)))[n]? = some d) : ∃ o v, old[n]? = some o ∧ ws[n]? = some v ∧ d = .tuple [.int (n : Nat), .tuple [eOp o, v.e]] := by
  have hn : n < (enumD (zipD (old.map eOp) (ws.map Wrk.e))).length := (List.getElem?_eq_some_iff.mp h).1
  have hn : n < min old.length ws.length := by simpa [enumD, zipD] using hn
  have h1 : old[n]? = some (old[n]'(by omega)) := List.getElem?_eq_getElem (by omega)
  have h2 : ws[n]? = some (ws[n]'(by omega)) := List.getElem?_eq_getElem (by omega)
  refine ⟨_, _, h1, h2, ?_⟩
  have := enumD_at (zipD_at (ds := old.map eOp) (es := ws.map Wrk.e) (i := n) (d := eOp (old[n]'(by omega))) (e := (ws[n]'(by omega)).e) (by rw [List.getElem?_map, h1]; rfl) (by rw [List.getElem?_map, h2]; rfl))
  rw [h] at this
  exact Option.some.inj this
theorem kept_at {y : Yard} {old : List (Option (Int × Int))} {n : Nat} {p : Int × Int} {v : Wrk} (h : KeptOk y old) (h1 : old[n]? = some (some p)) (h2 : y.works[n]? = some v) : (0 ≤ p.1 ∧ p.1 < y.days) ∧ 0 ≤ p.2 ∧ p.2 < (v.ways.length : Int) := by
  rcases h with h | h
  · rw [h] at h1; cases h1
  · exact h.2 n p v h1 h2
theorem kept_len {y : Yard} {old : List (Option (Int × Int))} (h : KeptOk y old) : (if true then !([PyData.int 0, PyData.int (y.works.length : Int)].any fun z => PyData.eqv z (.int (old.length : Int))) else [PyData.int 0, PyData.int (y.works.length : Int)].any fun z => PyData.eqv z (.int (old.length : Int))) = false := by
  rw [if_pos rfl]
  have e : ∀ a b : Int, PyData.eqv (.int a) (.int b) = decide (a = b) := fun a b => by
    have := any_contains [a] b
    simp only [List.map_cons, List.map_nil, List.any_cons, List.any_nil, Bool.or_false, List.contains_cons, List.contains_nil] at this
    rw [this]
    by_cases q : a = b
    · subst q; simp
    · rw [decide_eq_false q]; simp; exact fun z => q z.symm
  simp only [List.any_cons, List.any_nil, Bool.or_false, e]
  rcases h with h | h
  · rw [h]; rfl
  · rw [h.1, decide_eq_true rfl]; simp
end Hv
namespace Hv
/-- whatever it is, it is such a one -/
theorem x_gen {ρ : Rho} {μ : Mem} {w : WE} {Q : A → Prop} (C : A → Prop) (h : ∀ R : A → Prop, (∀ a, C a → R a) → w ρ μ R) (k : ∀ a, C a → Q a) : w ρ μ Q := h Q k
end Hv

set_option Elab.async false
set_option linter.all false
set_option maxRecDepth 100000
namespace Hv
open PySem PySem.Spec PyProof.Rows L2 Hod
theorem ev_getFn {ρ : Rho} {μ : Mem} {f : Str → Option (Option Addr)} {w : WE} {z : Str} {r : Option Addr} (h : Evs w ρ μ (.dat (.str z))) (hf : f z = some r) : Evs (wGetFn f w) ρ μ (fnA r) := fun Q q => h _ (by
  show (match f z with | some r => Q (fnA r) | none => False)
  rw [hf]
  exact q)
theorem ev_callFn {ρ : Rho} {μ : Mem} {i : Nat} {f : Addr} {F : FS} {u : WA} {a : A} (h : Evs (wCall F u) ρ μ a) (hi : ρ[i]? = some (some (.fn f)) := by rfl) : Evs (wCallFn i f F u) ρ μ a := fun Q q => ⟨hi, h _ q⟩
/-- one word's bearer -/
def fB (word : Str) (fb : Addr) : Str → Option (Option Addr) := fun z => if z = word then some (some fb) else none
theorem fB_at {word : Str} {fb : Addr} : fB word fb word = some (some fb) := if_pos rfl
theorem kfn_one {K : PySem.W.Frag} {w : World} {d fb : Addr} {word : Str} (h : ∃ es n, KDict K w d es n) (hy : PySem.W.nsIn K d word = some (some (.ref fb))) : KFn K w d (fB word fb) := ⟨h, fun z r e => by
  unfold fB at e
  split at e
  · rename_i hz
    cases e
    rw [hz]
    exact hy
  · cases e⟩
section
variable {X : Cx} {xl : XLT X.K} {k : Nat} {f : Addr} {fd : FuncData} {ps ks : List Str} {fr : Bool} {F : FS} {x : Str} {p pos : Pos} {uk : WA}
variable {kws : List Keyword} {g : List Value → List Value → List Value} {gV : List V → List V → List V} {gA : List A → List A → List A}
theorem ve_callKk0 (G : FnOk X.prog X.w X.K X.mg X.base CX0 k f fd ps (spD X.K fr F)) (hr : Room k X.A) (hg : Gl X x) (hm : X.mg x = some (.ref f)) (hk : PySem.W.keepIn X.K (.ref f) = true) (hb : KBinds X.K fd ps ks g gV) (hG : GAK X.K gV gA) (hkw : VK2 X xl kws uk)
    (hall : (backToKw pos (keywordEach kws X.env)).all (·.1.isSome) = true := by rfl) (hks : (backToKw pos (keywordEach kws X.env)).filterMap (·.1) = ks := by rfl) (hdb : (x == ("__debug__" : Str)) = false := by decide)
    (hpl : ((backTo pos (starEach [] X.env)).any (·.1) || (backToKw pos (keywordEach kws X.env)).any (·.1.isNone)) = false := by rfl) : VE X xl (.Call (.Name x p) [] kws pos) (wCallK F gA waNil uk) := by
  refine pe_weak (pe_callK0 G hr hg hm hk hb (E := E0) pass0 hkw hall hks hdb hpl) fun σ H Q ⟨S, B, ρ, μ, Q2, st, w, k⟩ => ⟨S, B, ρ, μ, _, st, w, fun zs H2 bs e2 g2 rz q2 => ?_⟩
  exact wF_ok g2 (hG _ _ _ _ _ _ _ .nil rz) q2 fun v H3 a e3 g3 r3 n q3 => k v H3 a (e2.trans e3) g3 r3 q3
end
end Hv

set_option Elab.async false
set_option linter.all false
set_option maxRecDepth 100000
/-! what days, ends and holdings refuse -/
namespace Hv
open PySem PySem.Spec PyProof.Rows L2 Hod LamX NdefX
/-- a refusal with one number -/
structure Rf where
  x : Str
  wd : Str
  n : Str
  i : Int
def Rf.f (r : Rf) : List (Str × PyData) := [("word", .str r.wd), (r.n, .int r.i)]
def told (r : Option Rf) (q : Prop) (E : XW) : Prop := match r with | some r => E r.x r.f | none => q
def fmtI (i : Int) : Prop := i.natAbs < 2 ^ 1000
def Yard.nways (y : Yard) (w : Int) : Nat := if 0 ≤ w ∧ w < y.works.length then ((y.works[w.toNat]?).map fun v => v.ways.length).getD 1 else 1
def refWay (y : Yard) (w m : Int) : Option Rf := if 0 ≤ w ∧ w < y.works.length then (if 0 ≤ m ∧ m < y.nways w then none else some ⟨"BadWay", "badway", "way", m⟩) else some ⟨"BadWork", "badwork", "work", w⟩
def refDay (y : Yard) (b : Int) : Option Rf := if 0 ≤ b ∧ b < y.days then none else some ⟨"BadDay", "badday", "day", b⟩
def refStuff (y : Yard) (s : Int) : Option Rf := if 0 ≤ s ∧ s < y.stuffs.length then none else some ⟨"BadStuff", "badstuff", "stuff", s⟩
def FcwayX : FSX := fun as Q E => ∃ (y : Yard) (w m : Int), as = [.dat y.e, .dat (.int w), .dat (.int m)] ∧ y.ok ∧ fmtI w ∧ fmtI m ∧ told (refWay y w m) (Q .none) E
def FcdayX : FSX := fun as Q E => ∃ (y : Yard) (b : Int), as = [.dat y.e, .dat (.int b)] ∧ y.ok ∧ fmtI b ∧ told (refDay y b) (Q .none) E
def FcstuffX : FSX := fun as Q E => ∃ (y : Yard) (s : Int), as = [.dat y.e, .dat (.int s)] ∧ y.ok ∧ fmtI s ∧ told (refStuff y s) (Q .none) E
def FworkingX : FSX := fun as Q E => ∃ (y : Yard) (w m b : Int), as = [.dat y.e, .dat (.int w), .dat (.int m), .dat (.int b)] ∧ y.ok ∧ fmtI w ∧ fmtI m ∧ fmtI b ∧ told ((refWay y w m).or (refDay y b)) (∀ d, Q d) E
def FholdingX : FSX := fun as Q E => ∃ (y : Yard) (w m b s fi pa : Int), as = [.dat y.e, .dat (.int w), .dat (.int m), .dat (.int b), .dat (.int s), .dat (.int fi), .dat (.int pa)] ∧ y.ok ∧ fmtI w ∧ fmtI m ∧ fmtI b ∧ fmtI s ∧ told (((refWay y w m).or (refDay y b)).or (refStuff y s)) (∀ d, Q d) E
def Ffar2 : FS := fun as Q => as = [.drw] ∧ ∀ x : Int, fmtI x → Q (.int x)
def FsomeN : FS := fun as Q => ∃ n : Nat, as = [.drw, .dat (.int n)] ∧ n ≤ 1000 ∧ ∀ x : Int, fmtI x → Q (.int x)
theorem ref_none {y : Yard} {w m : Int} (h : refWay y w m = none) : ∃ (k j : Nat) (wy : Way), w = k ∧ m = j ∧ y.way? k j = some wy := by
  unfold refWay at h
  split at h
  · rename_i hw
    split at h
    · rename_i hm
      obtain ⟨v, hv⟩ : ∃ v, y.works[w.toNat]? = some v := ⟨_, List.getElem?_eq_getElem (by omega)⟩
      have e : y.nways w = v.ways.length := by unfold Yard.nways; rw [if_pos hw, hv]; rfl
      rw [e] at hm
      refine ⟨w.toNat, m.toNat, v.ways[m.toNat]'(by omega), by omega, by omega, ?_⟩
      unfold Yard.way?
      rw [hv]
      exact List.getElem?_eq_getElem _
    · cases h
  · cases h
theorem day_none {y : Yard} {b : Int} (h : refDay y b = none) : 0 ≤ b ∧ b < y.days := by
  unfold refDay at h
  split at h
  · assumption
  · cases h
theorem stuff_none {y : Yard} {s : Int} (h : refStuff y s = none) : 0 ≤ s ∧ s < y.stuffs.length := by
  unfold refStuff at h
  split at h
  · assumption
  · cases h
theorem fmt1 {i : Int} (h : fmtI i) : ∀ d ∈ [PyData.int i], fmtD d := fun d hd => by rw [List.mem_singleton.mp hd]; exact h
/-! the four classes -/
def cs7 : List (Str × Str) := [("BadWork", "work"), ("BadWay", "way"), ("BadDay", "day"), ("BadStuff", "stuff")]
def CL7 : List (Str × List Str) := [("BadWork", ["word", "work"]), ("BadWay", ["word", "way"]), ("BadDay", ["word", "day"]), ("BadStuff", ["word", "stuff"])]
def HL7 : List Str := ["BadWork", "BadWay", "BadDay", "BadStuff"]
def sub7 : Str → Str → Bool := fun x y => x == y
def er7 : ErF := fun x flds => match cs7.lookup x with | some f => (match flds.lookup ("word" : Str), flds.lookup f with | some a, some b => some (.tuple [a, b]) | _, _ => none) | none => none
def Rf.d (r : Rf) : PyData := .tuple [.str r.wd, .int r.i]
def Rf.of7 (r : Rf) : Prop := (r.x, r.n) ∈ cs7
theorem look1 {α : Type} {a : α} {l : List (Str × α)} : List.lookup ("word" : Str) (("word", a) :: l) = some a := by simp [List.lookup]
theorem look2 {α : Type} {n : Str} {a b : α} (h : (n == ("word" : Str)) = false) : List.lookup n [(("word" : Str), a), (n, b)] = some b := by simp [List.lookup, h]
theorem er7_of {r : Rf} (h : r.of7) : er7 r.x r.f = some r.d := by
  obtain ⟨x, wd, n, i⟩ := r
  have h : (x, n) ∈ cs7 := h
  have e1 : cs7.lookup x = some n ∧ (n == ("word" : Str)) = false := by
    simp only [cs7, List.mem_cons, Prod.mk.injEq, List.not_mem_nil, or_false] at h
    rcases h with ⟨rfl, rfl⟩ | ⟨rfl, rfl⟩ | ⟨rfl, rfl⟩ | ⟨rfl, rfl⟩ <;> decide +kernel
  show er7 x [("word", .str wd), (n, .int i)] = some (.tuple [.str wd, .int i])
  unfold er7
  rw [e1.1]
  dsimp only
  rw [look1, look2 e1.2]
theorem er7_inv {x : Str} {flds : List (Str × PyData)} {d : PyData} (h : er7 x flds = some d) : ∃ (f : Str) (a b : PyData), ((x = ("BadWork" : Str) ∧ f = ("work" : Str)) ∨ (x = ("BadWay" : Str) ∧ f = ("way" : Str)) ∨ (x = ("BadDay" : Str) ∧ f = ("day" : Str)) ∨ (x = ("BadStuff" : Str) ∧ f = ("stuff" : Str))) ∧ flds.lookup ("word" : Str) = some a ∧ flds.lookup f = some b ∧ d = .tuple [a, b] := by
  unfold er7 at h
  split at h
  · rename_i f hf
    have m : (x, f) ∈ cs7 := PySem.mem_of_lookup hf
    simp only [cs7, List.mem_cons, Prod.mk.injEq, List.not_mem_nil, or_false] at m
    split at h
    · rename_i a b ha hb
      exact ⟨f, a, b, m, ha, hb, (Option.some.inj h).symm⟩
    · cases h
  · cases h
theorem way7 {y : Yard} {w m : Int} {r : Rf} (h : refWay y w m = some r) : r.of7 := by
  unfold refWay at h
  split at h
  · split at h
    · cases h
    · cases h; show (("BadWay" : Str), ("way" : Str)) ∈ cs7; decide +kernel
  · cases h; show (("BadWork" : Str), ("work" : Str)) ∈ cs7; decide +kernel
theorem day7 {y : Yard} {b : Int} {r : Rf} (h : refDay y b = some r) : r.of7 := by
  unfold refDay at h
  split at h
  · cases h
  · cases h; show (("BadDay" : Str), ("day" : Str)) ∈ cs7; decide +kernel
theorem stuff7 {y : Yard} {b : Int} {r : Rf} (h : refStuff y b = some r) : r.of7 := by
  unfold refStuff at h
  split at h
  · cases h
  · cases h; show (("BadStuff" : Str), ("stuff" : Str)) ∈ cs7; decide +kernel
theorem or7 {a b : Option Rf} (ha : ∀ r, a = some r → r.of7) (hb : ∀ r, b = some r → r.of7) : ∀ r, a.or b = some r → r.of7 := fun r h => by
  cases a with
  | none => exact hb r h
  | some c => exact ha r h
def rfD : Option Rf → PyData
  | some r => r.d
  | none => .none
theorem okD_rf (r : Rf) : okD r.d = true := by
  show ([PyData.str r.wd, .int r.i].all flatD && decide ([PyData.str r.wd, .int r.i].length ≤ 1000)) = true
  simp [flatD]
theorem told7 {r : Option Rf} {Q : A → Prop} (h7 : ∀ x, r = some x → x.of7) (q : Q (.dat (rfD r))) : told r (∀ d : PyData, Q (.dat .none)) (fun x flds => ∃ d, er7 x flds = some d ∧ okD d = true ∧ Q (.dat d)) := by
  cases r with
  | none => exact fun _ => q
  | some r => exact ⟨r.d, er7_of (h7 r rfl), okD_rf r, q⟩
theorem ev_lamC {ρ : Rho} {μ : Mem} {F : FSX} {u : WA} {as : List A} {r : Option Rf} (h : EvAs u ρ μ as) (h7 : ∀ x, r = some x → x.of7) (hF : ∀ (Q : PyData → Prop) (E : XW), told r (∀ d, Q d) E → F as Q E) (hn : noOwn as = true := by rfl) : Evs (wLamF er7 (fun xw => wCallX xw F u)) ρ μ (.dat (rfD r)) := fun Q q => x_callX h (hF _ _ (told7 h7 q)) hn
theorem ev_lamK {ρ : Rho} {μ : Mem} {F : FSX} {gA : List A → List A → List A} {u v : WA} {as bs cs : List A} {r : Option Rf} (h : EvAs u ρ μ as) (h2 : EvAs v ρ μ bs) (h7 : ∀ x, r = some x → x.of7) (hF : ∀ (Q : PyData → Prop) (E : XW), told r (∀ d, Q d) E → F cs Q E) (hc : gA as bs = cs := by rfl) (hn : noOwn cs = true := by rfl) : Evs (wLamF er7 (fun xw => wCallKX xw F gA u v)) ρ μ (.dat (rfD r)) := fun Q q => x_callKX h h2 (hF _ _ (told7 h7 q)) hc hn
theorem nols_rf (r : Option Rf) : nols [rfD r] = true := by cases r <;> rfl
theorem dep_rf (r : Option Rf) : dep (rfD r) < 2 := by
  cases r with
  | none => exact Nat.zero_lt_two
  | some r => exact dep_tup_of (by simp) (deps_lt (fun d hd => by rcases List.mem_cons.mp hd with rfl | hd; exact Nat.zero_lt_one; rcases List.mem_cons.mp hd with rfl | hd; exact Nat.zero_lt_one; cases hd) (by decide))
theorem tru_rf {μ : Mem} (r : Option Rf) : truA μ (.dat (rfD r)) = some r.isSome := by cases r <;> rfl
theorem s_ifSet {ρ : Rho} {μ : Mem} {E : Ends2} {t : WT} {w : WE} {n : Nat} {W2 : WS} {k : Bool} {a a0 : A} (ht : EvTs t ρ μ k) (h : Evs w ρ μ a) (h0 : ρ[n]? = some (some a0)) (q : W2 E (ρ.set n (some (if k = true then a else a0))) μ) : wSeq (wIfS t (wSet n w) wNext) W2 E ρ μ := s_if (k := k) ht (fun z => h _ (by rw [if_pos z] at q; exact q)) fun z => by
  rw [if_neg (by rw [z]; decide)] at q
  have e : ρ.set n (some a0) = ρ := List.ext_getElem? fun i => by
    by_cases hi : n = i
    · rw [← hi, List.getElem?_set_self (by have := (List.getElem?_eq_some_iff.mp h0).1; exact this), h0]
    · rw [List.getElem?_set_ne hi]
  rw [e] at q
  exact q
def out (i : Int) (n : Nat) : Bool := !(decide (0 ≤ i) && decide (i < n))
theorem out_t {i : Int} {n : Nat} (h : ¬ (0 ≤ i ∧ i < n)) : out i n = true := by unfold out; rw [← Bool.decide_and, decide_eq_false h]; rfl
theorem out_f {i : Int} {n : Nat} (h : 0 ≤ i ∧ i < n) : out i n = false := by unfold out; rw [← Bool.decide_and, decide_eq_true h]; rfl
theorem due7 {y : Yard} {s : Int} : (if out s y.stuffs.length = true then A.dat (.tuple [.str "badstuff", .int s]) else .dat .none) = .dat (rfD (refStuff y s)) := by
  unfold refStuff
  by_cases h : 0 ≤ s ∧ s < y.stuffs.length
  · rw [out_f h, if_pos h]; rfl
  · rw [out_t h, if_neg h]; rfl
theorem ahead7 {y : Yard} {w m b : Int} (hd : 1 ≤ y.days) : (if out w y.works.length = true then A.dat (.tuple [.str "badwork", .int w]) else if out m (y.nways w) = true then A.dat (.tuple [.str "badway", .int m]) else if out b y.days.toNat = true then A.dat (.tuple [.str "badday", .int b]) else .dat .none) = .dat (rfD ((refWay y w m).or (refDay y b))) := by
  unfold refWay refDay
  have ed : ((y.days.toNat : Nat) : Int) = y.days := by omega
  by_cases h : 0 ≤ w ∧ w < y.works.length
  · rw [out_f h, if_pos h]
    by_cases h2 : 0 ≤ m ∧ m < y.nways w
    · rw [out_f h2, if_pos h2]
      by_cases h3 : 0 ≤ b ∧ b < y.days
      · rw [out_f (by rw [ed]; exact h3), if_pos h3]; rfl
      · rw [out_t (by rw [ed]; exact h3), if_neg h3]; rfl
    · rw [out_t h2, if_neg h2]; rfl
  · rw [out_t h, if_neg h]; rfl
theorem or_rf (a b : Option Rf) : (if a.isSome = true then A.dat (rfD a) else A.dat (rfD b)) = .dat (rfD (a.or b)) := by cases a <;> rfl
end Hv

set_option Elab.async false
set_option linter.all false
set_option maxRecDepth 100000
namespace Hv
open PySem PySem.Spec PyProof.Rows L2 Hod
def wayS (k : Nat) (m : Nat) : Say := ⟨.way, k, (m : Nat)⟩
theorem k_inj {s t : Say} (h : s.k = t.k) : s.word.s = t.word.s ∧ s.work = t.work ∧ s.num = t.num := by
  unfold Say.k at h
  obtain ⟨h1, h⟩ := List.cons.inj h
  obtain ⟨h2, h⟩ := List.cons.inj h
  obtain ⟨h3, _⟩ := List.cons.inj h
  exact ⟨Sum.inr.inj h1, by have := Sum.inl.inj h2; omega, Sum.inl.inj h3⟩
/-- two of other words, then ways -/
theorem nodup_two {a b : Say} {k : Nat} {ms : List Nat} (hab : a.word.s ≠ b.word.s) (ha : a.word.s ≠ Wd.way.s) (hb : b.word.s ≠ Wd.way.s) (h : ms.Nodup) : (([a, b] ++ ms.map (wayS k)).map Say.k).Nodup := by
  have hw : ∀ c : Say, c.word.s ≠ Wd.way.s → c.k ∉ (ms.map (wayS k)).map Say.k := fun c hc hm => by
    obtain ⟨s, hs, e⟩ := List.mem_map.mp hm
    obtain ⟨m, _, rfl⟩ := List.mem_map.mp hs
    exact hc (k_inj e).1.symm
  show (a.k :: b.k :: (ms.map (wayS k)).map Say.k).Nodup
  refine List.nodup_cons.mpr ⟨fun hm => ?_, List.nodup_cons.mpr ⟨hw b hb, ?_⟩⟩
  · rcases List.mem_cons.mp hm with e | hm
    · exact hab (k_inj e).1
    · exact hw a ha hm
  · rw [List.map_map]
    refine List.pairwise_map.mpr (List.Pairwise.imp (fun {x y} hne e => hne ?_) h)
    have := (k_inj (s := wayS k x) (t := wayS k y) e).2.2
    have : ((x : Nat) : Int) = (y : Nat) := this
    omega
theorem sorted_line {ss : List Say} (h : (ss.map Say.k).Nodup) : ((ss.map Say.k).mergeSort leK).map keyT = (lineK ss).map keyT := by rw [sort_ord h]; rfl
theorem dep_says' (ss : List Say) : ∀ d ∈ ss.map Say.e, dep d < 2 := fun d hd => by
  obtain ⟨s, _, rfl⟩ := List.mem_map.mp hd
  exact dep_tup_of (by simp) (deps_lt (fun d hd => by
    rcases List.mem_cons.mp hd with rfl | hd
    · exact Nat.zero_lt_one
    rcases List.mem_cons.mp hd with rfl | hd
    · exact Nat.zero_lt_one
    rcases List.mem_cons.mp hd with rfl | hd
    · exact Nat.zero_lt_one
    cases hd) (by decide))
theorem dep_line {ss : List Say} (h : ss.length ≤ 63) : dep (lineE ss) < 3 := by
  obtain ⟨ts, e1, e2, e3, e4⟩ := line_says ss
  have eL : lineE ss = .tuple (ts.map Say.e) := by unfold lineE; rw [e1, map_kT]
  rw [eL]
  exact dep_tup_of (by rw [List.length_map]; omega) (deps_lt (dep_says' ts) (by decide))
theorem shp_tieE (t : Tie) : (t.e).canLay0 = true ∧ (t.e).depth ≤ 1 := shp_tup (n := 0) fun d hd => by
  rcases List.mem_cons.mp hd with rfl | hd
  · exact shp_int _
  rcases List.mem_cons.mp hd with rfl | hd
  · exact shp_int _
  rcases List.mem_cons.mp hd with rfl | hd
  · exact shp_int _
  rcases List.mem_cons.mp hd with rfl | hd
  · exact shp_int _
  cases hd
theorem shp_ties' (y : Yard) : SeqAt.shaped (.tuple (y.ties.map Tie.e)) = true := shaped_of (n := 2) (shp_tup fun d hd => by obtain ⟨v, _, rfl⟩ := List.mem_map.mp hd; exact shp_tieE v) (by decide)
theorem x_parN {ρ : Rho} {μ : Mem} {i j : Nat} {u : WA} {E : Ends2} (h : u ρ μ fun as => match as with | [a, b] => E.nx ((ρ.set i (some a)).set j (some b)) μ | _ => False) : wPar i j u E ρ μ := h
/-- range(n * int(t != ())) -/
theorem ei_times {ρ : Rho} {μ : Mem} {w : WE} {n : Int} {b : Bool} (h : Evs w ρ μ (.dat (.bool b))) (h0 : 0 ≤ n) (h1 : n ≤ 1000) : EvIs (wiR1 (waCons (wOp gMul (wC (.int n)) (wCB gIntB (waCons w waNil))) waNil)) ρ μ (rng 0 (if b = true then n.toNat else 0)) := fun Q q => by
  refine x_r1 (x_ac (x_opN (ev_k _ (x_ev (a := .dat (.int (if b then 1 else 0))) (ev_intB h) ⟨.inl ⟨by omega, by omega⟩, x_an ?_⟩))))
  cases b with
  | true =>
    have q : Q (rng 0 n.toNat) := q
    refine ⟨⟨by show -(2 ^ 62) ≤ n * 1; omega, by show n * 1 < 2 ^ 62; omega⟩, ?_⟩
    show Q (rng 0 (n * 1).toNat)
    rw [Int.mul_one]
    exact q
  | false =>
    have q : Q (rng 0 0) := q
    refine ⟨⟨by show -(2 ^ 62) ≤ n * 0; omega, by show n * 0 < 2 ^ 62; omega⟩, ?_⟩
    show Q (rng 0 (n * 0).toNat)
    rw [Int.mul_zero]
    exact q
def FlinkLine : FS := fun as Q => ∃ (y : Yard) (k : Nat) (t : Tie) (d till : Int) (v : Wrk), as = [.dat y.e, .dat (.int k), .dat (.int d), .dat (.int till)] ∧ y.ok ∧ y.ties[k]? = some t ∧ (0 ≤ d ∧ d < y.days) ∧ (0 ≤ till ∧ till ≤ y.days) ∧ y.works[t.one.toNat]? = some v ∧ Q (lineE (tieSays y t d till t.one.toNat t.other.toNat v))
end Hv

set_option Elab.async false
set_option linter.all false
set_option maxRecDepth 100000
namespace Hv
open PySem PySem.Spec PyProof.Rows L2 Hod
theorem lcWL_g {α : Type} {f : α → PyData} {F : PyData → (List PyData → Prop) → Prop} {G : α → List PyData} : ∀ {l : List α} {Q : List PyData → Prop}, (∀ x ∈ l, ∀ R : List PyData → Prop, R (G x) → F (f x) R) → Q (l.flatMap G) → lcWL F (l.map f) Q
  | [], _, _, q => q
  | x :: l, Q, h, q => h x (by simp) _ (lcWL_g (fun x' hx => h x' (by simp [hx])) (by rw [List.flatMap_cons] at q; exact q))
theorem lcW_g {β : Type} {f : β → PyData} {F : PyData → (Option PyData → Prop) → Prop} {g : β → PyData} : ∀ {l : List β} {Q : List PyData → Prop}, (∀ x ∈ l, ∀ R : Option PyData → Prop, R (some (g x)) → F (f x) R) → Q (l.map g) → lcW F (l.map f) Q
  | [], _, _, q => q
  | x :: l, Q, h, q => h x (by simp) _ (lcW_g (fun x' hx => h x' (by simp [hx])) (by rw [List.map_cons] at q; exact q))
/-- two generators over things of a kind -/
theorem ev_lc2g {α β : Type} {ρ : Rho} {μ : Mem} {wi wi1 : WI} {p p1 : Pat} {we : WE} {vs vs1 : List Nat} {l : List α} {f : α → PyData} {h : α → List β} {f1 : β → PyData} {g : α → β → PyData} (hi : EvIs wi ρ μ (l.map f)) (hl : l.length ≤ 1000)
    (hd : ∀ x ∈ l, ∃ ρ', bindP p (f x) (wipeA ρ vs) = some ρ' ∧ EvIs wi1 ρ' μ ((h x).map f1) ∧ (h x).length ≤ 1000 ∧ ∀ e ∈ h x, ∃ ρ1, bindP p1 (f1 e) (wipeA ρ' vs1) = some ρ1 ∧ Evs we ρ1 μ (.dat (g x e))) :
    Evs (wLc2 wi p wYes wi1 p1 wYes we vs vs1) ρ μ (.dat (.list (l.flatMap fun x => (h x).map (g x)))) := fun Q q => hi _ ⟨by rw [List.length_map]; exact hl, lcWL_g (G := fun x => (h x).map (g x)) (fun x hx R r => by
    obtain ⟨ρ', h1, h2, h3, h4⟩ := hd x hx
    unfold lcF2
    rw [h1]
    show wi1 ρ' μ fun ds => ds.length ≤ 1000 ∧ _
    exact h2 _ ⟨by rw [List.length_map]; exact h3, lcW_g (g := g x) (fun e he R r => by obtain ⟨ρ1, k1, k2⟩ := h4 e he; exact lcF_yes k1 (k2 _ r)) r⟩) q⟩
theorem zipD_map {α β : Type} {f : α → PyData} {g : β → PyData} : ∀ (l : List α) (m : List β), zipD (l.map f) (m.map g) = (l.zip m).map fun p => .tuple [f p.1, g p.2]
  | [], _ => rfl
  | _ :: _, [] => rfl
  | x :: l, y :: m => by
    show PyData.tuple [f x, g y] :: zipD (l.map f) (m.map g) = _
    rw [zipD_map l m]
    rfl
/-! ### works alone -/
def aloneM (y : Yard) (v : Wrk) (d cap : Int) (m : Nat) : Bool := alone y (wayAt v m) d cap
def aloneSays (y : Yard) (k : Nat) (d cap : Int) (v : Wrk) : List Say := [⟨.ahd, k, d⟩, ⟨.frm, k, d + 1⟩] ++ ((List.range v.ways.length).filter (aloneM y v d cap)).map (wayS k)
theorem aloneSays_len {y : Yard} {k : Nat} {d cap : Int} {v : Wrk} (h : v.ways.length ≤ 3) : (aloneSays y k d cap v).length ≤ 5 := by
  unfold aloneSays
  have h1 := List.length_filter_le (aloneM y v d cap) (List.range v.ways.length)
  rw [List.length_range] at h1
  rw [List.length_append, List.length_map]
  show 2 + _ ≤ 5
  omega
def AloneIn : Ask → List PyData → List Say → Prop := fun a ds ss => ∃ (k : Nat) (d : Int) (v : Wrk), ds = [.int k, .int d] ∧ a.y.works[k]? = some v ∧ (0 ≤ d ∧ d < a.y.days) ∧ ss = aloneSays a.y k d a.bd v
def FfitsA : FS := fun as Q => ∃ (y : Yard) (k m : Nat) (u : Way) (d cap : Int), as = [.dat y.e, .dat (.int cap), .dat (.int k), .dat (.int m), .dat (.int d)] ∧ y.ok ∧ y.way? k m = some u ∧ (0 ≤ d ∧ d < y.days) ∧ Q (.bool (alone y u d cap))
def FlawAlone : FS := fun as Q => ∃ (y : Yard) (k : Nat) (d cap : Int) (v : Wrk), as = [.dat y.e, .dat (.int k), .dat (.int d), .dat (.int cap)] ∧ y.ok ∧ y.works[k]? = some v ∧ (0 ≤ d ∧ d < y.days) ∧ Q (lineE (aloneSays y k d cap v))
theorem way_at {y : Yard} {k m : Nat} {v : Wrk} (hv : y.works[k]? = some v) (hm : m < v.ways.length) : y.way? k m = some (wayAt v m) := by
  unfold Yard.way? wayAt
  rw [hv]
  show v.ways[m]? = some (v.ways.getD m _)
  rw [List.getD, List.getElem?_eq_getElem hm]
  rfl
/-- needs and stuffs side by side, or by their numbers -/
theorem fits_zip {y : Yard} {w : Way} {l : List Int} (h : w.needs.length = y.stuffs.length) : ((w.needs.zip y.stuffs).flatMap fun p => l.map fun d => decide (p.1 ≤ p.2.getD d.toNat 0)).all id = ((List.range w.needs.length).map (fits y w l)).all id := by
  rw [Bool.eq_iff_iff, List.all_eq_true, List.all_eq_true]
  constructor
  · intro H b hb
    obtain ⟨s, hs, rfl⟩ := List.mem_map.mp hb
    have hs := List.mem_range.mp hs
    show fits y w l s = true
    unfold fits
    rw [List.all_eq_true]
    intro d hd
    have e1 : w.needs[s]? = some (w.needs[s]'hs) := List.getElem?_eq_getElem hs
    have e2 : y.stuffs[s]? = some (y.stuffs[s]'(by omega)) := List.getElem?_eq_getElem (by omega)
    have m1 : (w.needs[s]'hs, y.stuffs[s]'(by omega)) ∈ w.needs.zip y.stuffs := List.mem_of_getElem? (i := s) (by rw [List.getElem?_zip_eq_some]; exact ⟨e1, e2⟩)
    have := H (decide (w.needs[s]'hs ≤ (y.stuffs[s]'(by omega)).getD d.toNat 0)) (List.mem_flatMap.mpr ⟨_, m1, List.mem_map.mpr ⟨d, hd, rfl⟩⟩)
    have f1 : w.needs.getD s 0 = w.needs[s]'hs := by rw [List.getD, e1]; rfl
    have f2 : y.stuffs.getD s [] = y.stuffs[s]'(by omega) := by rw [List.getD, e2]; rfl
    rw [f1, f2]
    exact this
  · intro H b hb
    obtain ⟨p, hp, hb⟩ := List.mem_flatMap.mp hb
    obtain ⟨d, hd, rfl⟩ := List.mem_map.mp hb
    obtain ⟨s, hs⟩ := List.getElem?_of_mem hp
    rw [List.getElem?_zip_eq_some] at hs
    have hl := (List.getElem?_eq_some_iff.mp hs.1).1
    have := H (fits y w l s) (List.mem_map.mpr ⟨s, List.mem_range.mpr hl, rfl⟩)
    have this : fits y w l s = true := this
    unfold fits at this
    have := List.all_eq_true.mp this d hd
    have f1 : w.needs.getD s 0 = p.1 := by rw [List.getD, hs.1]; rfl
    have f2 : y.stuffs.getD s [] = p.2 := by rw [List.getD, hs.2]; rfl
    rw [f1, f2] at this
    exact this
end Hv
namespace Hv
open PySem
theorem rng0' (n : Nat) : rng 0 n = (List.range n).map fun i : Nat => PyData.int (i : Nat) := by
  unfold rng
  refine List.map_congr_left fun i _ => ?_
  show PyData.int (0 + (i : Nat)) = _
  rw [show (0 : Int) + (i : Nat) = (i : Nat) by omega]
end Hv

set_option Elab.async false
set_option linter.all false
set_option maxRecDepth 100000
/-! raise C() of a class that takes nothing -/
namespace L2
open PySem PySem.Spec PyProof.Rows
theorem pmk_none {X : Cx} {CX : CXT} {x : Str} {C fI : Addr} {k : Nat} {fd : FuncData} {sp : Sp} {p pos : Pos} (T : OexC X.K C) (iC : PySem.W.findIn X.K (.ref C) "__init__" = some (some (.ref fI))) (tI : PySem.W.typeIn X.K (.ref fI) = some (.type "function")) (F1 : FnOk X.prog X.w X.K X.mg X.base CX k fI fd ["self"] sp) (hr : Room (k + 1) X.A) (hb : Binds X.K fd ["self"] [])
    (hx : Passes CX X (fun _ _ _ => False)) (hg : Gl X x) (hm : X.mg x = some (.ref C)) (hdb : (x == ("__debug__" : Str)) = false := by decide) : PMk X (.Call (.Name x p) [] [] pos) (tMkO C sp [] tNil) := by
  intro pins s σ H Q I h
  obtain ⟨nm, q, N, bs, bm, sn, sub, ab, col, dd, k0, k1, k2, k3, k5, hC, hbm⟩ := T.cls
  refine wpAny_Call_Name_kw (ld_glob I hg hm (PySem.W.callWith_K0 I.kIn T.kC ?_) hdb)
  obtain ⟨_, q1⟩ := h
  obtain ⟨hp, gn, dr, tk, os⟩ := s
  have hle : hp.objs.size ≤ hp.objs.size + 1 := Nat.le_succ _
  have hq := q1 (hp.objs.size + 1) (I.hok.fresh hle)
  have up : ∀ b o, hp.get? b = some o → ((hp.push (PySem.W.kdv_tup [])).push (PySem.HandSPX.excO C hp.objs.size)).get? b = some o := fun b o e => Heap.get?_push_of_some _ (Heap.get?_push_of_some _ e)
  have at1 : ((hp.push (PySem.W.kdv_tup [])).push (PySem.HandSPX.excO C hp.objs.size)).get? (hp.objs.size + 1) = some (PySem.HandSPX.excO C hp.objs.size) := by heap_get
  have I2 : Inv X pins σ (upd H (hp.objs.size + 1) (exo (hp.objs.size + 1) C none)) ⟨(hp.push (PySem.W.kdv_tup [])).push (PySem.HandSPX.excO C hp.objs.size), gn, dr, tk, os⟩ := I.laid (t' := tk) (a := hp.objs.size + 1) (o := exo (hp.objs.size + 1) C none) (h' := (hp.push (PySem.W.kdv_tup [])).push (PySem.HandSPX.excO C hp.objs.size)) up hle (exo_ok at1)
  have r2 : Vals [V.ref (hp.objs.size + 1)] [Value.ref (hp.objs.size + 1)] := .cons rfl .nil
  show wpAny _ _ (call (.ref C) []) _ _ _
  refine wpAny_call (PySem.HandSPX.call_own F.excBase_ValueError (fun Y => PySem.HandSPX.refsVE_contains Y bm hbm) (I.kIn _ _ hC) (PySem.W.looks_findIn I.kIn iC) (fun self => PySem.W.bind_fn I.kIn self tI) (Nat.zero_le _)
    (codeAny_mono (F1.run _ X.stack _ _ ⟨[Value.ref (hp.objs.size + 1)], []⟩ [Value.ref (hp.objs.size + 1)] _ _ (fun _ _ _ => False) (hr.make C [] []) (I2.env0.make C [] []) (hb _ [Value.ref (hp.objs.size + 1)] I2.kIn rfl) r2 hq) fun r z hz => ?_))
  cases r with
  | error er => exact hx pins σ _ _ er z I2 hz
  | ok fl =>
    cases fl with
    | ret u =>
      obtain ⟨v, H2, o2, b2, un2, hk2, rv, ev, d, fs, ea, ed, hd1, q2⟩ := hz
      subst ev
      obtain ⟨h2, g2, d2, t2, os2⟩ := z
      exact ⟨rv, mk_end (raises_own T.exC T.tyC) I hle up un2 hk2 o2 b2 ea ed hd1 q2⟩
    | next => exact hz.elim
    | brk => exact hz.elim
    | cont => exact hz.elim
end L2
namespace Hv
open PySem PySem.Spec PyProof.Rows L2 Hod
def wRaise0 (xw : XW) (x wd : Str) : WS := fun _ _ _ => xw x [("word", .str wd)]
theorem vs_raise0 {X : Cx} {xw : XW} {x wd : Str} {p pos pos' : Pos} (hc : X.calm = true) (D : ExcD X.prog X.w X.K X.mg X.base x wd []) (hr : Room 2 X.A) (hg : Gl X x) (hdb : (x == ("__debug__" : Str)) = false := by decide) : VS X (xlOf X xw) (.Raise (some (.Call (.Name x p) [] [] pos)) none pos') (wRaise0 xw x wd) := by
  obtain ⟨C, fI, fd, hm, T, iC, tI, F1, hb⟩ := D.ex
  refine ps_weak (ps_raise hc (takesOf X) (pmk_none T iC tI F1 hr hb (fun _ _ _ _ _ _ _ z => z.elim) hg hm hdb)) fun D σ H ⟨S, B, H0, G0, ρ, μ, E, s, w, r⟩ => ?_
  refine ⟨Nat.zero_le _, fun a na => ⟨a, [], rfl, rfl, (fun _ z => nomatch z), upd_same, fun dx fs H2 ndx nda h2a h2d hfs h2 => ?_⟩⟩
  have ndx1 : H dx = none := by rw [upd_ne nda] at ndx; exact ndx
  refine ⟨rfl, dx, fs, h2a, h2d, ndx1, ?_⟩
  have eH : upd (del H2 a) dx (.xd fs) = upd H dx (.xd fs) := by
    funext b
    by_cases h1 : b = dx
    · rw [h1, upd_same, upd_same]
    · rw [upd_ne h1, upd_ne h1]
      by_cases h3 : b = a
      · rw [h3, del_same, na]
      · rw [del_ne h3, h2 b h3 h1, upd_ne h3]
  rw [eH]
  have key := s.st.xl (upd H dx (.xd fs)) x dx _ (.new ndx1) (s.st.gd.new ndx1) (XdAt.new (ns := []) (ds := []) (vs := []) .nil upd_same hfs) w
  rw [ct_of hm] at key
  exact key
end Hv

set_option Elab.async false
set_option linter.all false
set_option maxRecDepth 100000
namespace Hv
open PySem PySem.Spec PyProof.Rows L2 Hod
theorem x_raise0 {ρ : Rho} {μ : Mem} {E : Ends2} {xw : XW} {x wd : Str} (q : xw x [("word", .str wd)]) : wRaise0 xw x wd E ρ μ := q
/-! tuples put together -/
def gCatT : G2 := fun _ a b Q => match a, b with | .dat (.tuple xs), .dat (.tuple ys) => xs ≠ [] ∧ xs.length + ys.length ≤ 1000 ∧ Q (.dat (.tuple (xs ++ ys))) | _, _ => False
theorem r_catT {K : PySem.W.Frag} : RV K (rCatT K) gCatT := fun S B x y H μ a b Q Q2 gd ra rb q k => by
  cases ra with
  | dat ra =>
    cases ra with
    | @tup p xs ds h1 h2 =>
      cases rb with
      | dat rb =>
        cases rb with
        | @tup p2 ys es h3 h4 =>
          obtain ⟨q0, q1, q⟩ := q
          refine ⟨p, p2, xs, ys, rfl, rfl, sqt_same off_same h1, sqt_same off_same h3, fun e => ?_, by rw [h2.len, h4.len]; exact le1000 q1, fun e => ?_, fun e l nl => ?_⟩
          · subst e; cases h2; exact q0 rfl
          · subst e
            cases h4
            rw [List.append_nil] at q
            exact k _ _ _ .refl gd (.dat (.tup h1 h2)) q
          · obtain ⟨b1, b2⟩ := gd.free nl
            exact k _ _ _ (.new nl) (gd.new nl) (.dat (.tup (.inl (.inl (off_upd b1 b2))) ((h2.app h4).mono ((Ex.new nl).off gd) _ _))) q
        | _ => exact q.elim
      | _ => exact q.elim
    | _ => exact q.elim
  | _ => exact q.elim
theorem ev_catT {ρ : Rho} {μ : Mem} {wa wb : WE} {ds es : List PyData} (h1 : Evs wa ρ μ (.dat (.tuple ds))) (h2 : Evs wb ρ μ (.dat (.tuple es))) (hn : ds ≠ []) (hl : ds.length + es.length ≤ 1000) : Evs (wOp gCatT wa wb) ρ μ (.dat (.tuple (ds ++ es))) := fun Q q => h1 _ (h2 _ ⟨hn, hl, q⟩)
/-- two promises of one def -/
theorem fn_or {P : Program} {w : World} {K : PySem.W.Frag} {mg : Str → Option Value} {base : Heap} {CX : CXT} {k : Nat} {f : Addr} {fd : FuncData} {ps : List Str} {sp1 sp2 : Sp} (F1 : FnOk P w K mg base CX k f fd ps sp1) (F2 : FnOk P w K mg base CX k f fd ps sp2) : FnOk P w K mg base CX k f fd ps (fun vs H Q E => sp1 vs H Q E ∨ sp2 vs H Q E) :=
  ⟨fun vs H Q E h => h.elim (F1.len vs H Q E) (F2.len vs H Q E), fun A outer s H args us vs Q E hr he hb hv h => h.elim (F1.run A outer s H args us vs Q E hr he hb hv) (F2.run A outer s H args us vs Q E hr he hb hv)⟩
def FOr (F1 F2 : FS) : FS := fun as Q => F1 as Q ∨ F2 as Q
theorem ok_or {P : Program} {w : World} {K : PySem.W.Frag} {mg : Str → Option Value} {base : Heap} {CX : CXT} {k : Nat} {f : Addr} {fd : FuncData} {ps : List Str} {fr : Bool} {F1 F2 : FS} (G1 : FnOk P w K mg base CX k f fd ps (spD K fr F1)) (G2 : FnOk P w K mg base CX k f fd ps (spD K fr F2)) : FnOk P w K mg base CX k f fd ps (spD K fr (FOr F1 F2)) :=
  (fn_or G1 G2).imp fun vs H Q E ⟨S, B, as, Q2, g, r, hF, k⟩ => by
    rcases hF with hF | hF
    · exact .inl ⟨S, B, as, Q2, g, r, hF, k⟩
    · exact .inr ⟨S, B, as, Q2, g, r, hF, k⟩
/-! ### kept works -/
def keptSays (k : Nat) (q : Int × Int) (part : Nat) : List Say := match part with
  | 0 => [⟨.mov, k, 0⟩, ⟨.frm, k, q.1⟩]
  | 1 => [⟨.mov, k, 0⟩, ⟨.ahd, k, q.1 + 1⟩]
  | 2 => [⟨.mov, k, 0⟩, ⟨.way, k, q.2⟩]
  | _ => [⟨.sty, k, 0⟩, ⟨.ahd, k, q.1⟩, ⟨.frm, k, q.1 + 1⟩, ⟨.nt, k, q.2⟩]
theorem keptSays_len (k : Nat) (q : Int × Int) (part : Nat) : (keptSays k q part).length ≤ 4 := by
  unfold keptSays
  split <;> simp
def FisKept : FS := fun as Q => ∃ (a : Ask) (k : Nat) (q : Int × Int), as = [.dat a.e, .dat (.int k)] ∧ a.prs[k]? = some (some q) ∧ Q (.bool true)
def KeptIn : Ask → List PyData → List Say → Prop := fun a ds ss => ∃ (k : Nat) (q : Int × Int) (part : Nat), ds = [.int k, .int part] ∧ a.prs[k]? = some (some q) ∧ part < 4 ∧ ss = keptSays k q part
/-! ### few -/
def intsN (ks : List Nat) : List PyData := ks.map fun k : Nat => PyData.int (k : Nat)
def stayS (k : Nat) : Say := ⟨.sty, k, 0⟩
def Frising : FS := fun as Q => ∃ ks : List Nat, as = [.dat (.tuple (intsN ks))] ∧ 0 < ks.length ∧ ks.length ≤ 6 ∧ ks.Pairwise (· < ·) ∧ Q (.bool true)
def FewIn : Ask → List PyData → List Say → Prop := fun a ds ss => ∃ ks : List Nat, ds = intsN ks ∧ 0 < ks.length ∧ ks.length ≤ 6 ∧ ks.Pairwise (· < ·) ∧ (∀ k ∈ ks, ∃ q, a.prs[k]? = some (some q)) ∧ a.most = some ((ks.length : Int) - 1) ∧ ss = ks.map stayS
def FewNo : Ask → List PyData → Prop := fun a ds => ∃ ks : List Nat, ds = intsN ks ∧ ks.length ≤ 6 ∧ ∀ m, a.most = some m → (ks.length : Int) ≠ m + 1
def FbearN (In : Ask → List PyData → Prop) : FS := fun as Q => ∃ (a : Ask) (ds : List PyData), as = [.dat a.e, .dat (.tuple ds)] ∧ a.ok ∧ In a ds ∧ Q .none
def FlineN (word : Str) (In : Ask → List PyData → Prop) : FS := fun as Q => ∃ (a : Ask) (ds : List PyData), as = [.dat a.e, .dat (.tuple (.str word :: ds))] ∧ a.ok ∧ In a ds ∧ Q .none
def FbearsX (word : Str) (In : Ask → List PyData → Prop) : FSX := fun as Q E => ∃ (y : Yard) (ds : List PyData) (bound : Option Int) (old : List (Option (Int × Int))) (most : Option Int), as = [.dat y.e, .dat (.tuple (.str word :: ds)), .dat (eO bound), .dat (eOld old), .dat (eO most)] ∧ AskIn y bound old most ∧ In (askOf y bound old most) ds ∧ E "NoLine" [("word", .str "noline")]
def FoldLine : FS := fun as Q => ∃ (old : List (Option (Int × Int))) (k : Nat) (q : Int × Int) (part : Nat), as = [.dat (eOld old), .dat (.int k), .dat (.int part)] ∧ old[k]? = some (some q) ∧ part < 4 ∧ Q (lineE (keptSays k q part))
theorem ris_zip {ks : List Nat} (h : ks.Pairwise (· < ·)) : ((ks.zip (ks.drop 1)).all fun p => decide (((p.1 : Nat) : Int) < ((p.2 : Nat) : Int))) = true := by
  rw [List.all_eq_true]
  intro p hp
  obtain ⟨i, hi⟩ := List.getElem?_of_mem hp
  rw [List.getElem?_zip_eq_some, List.getElem?_drop] at hi
  obtain ⟨h1, h2⟩ := hi
  obtain ⟨l1, e1⟩ := List.getElem?_eq_some_iff.mp h1
  obtain ⟨l2, e2⟩ := List.getElem?_eq_some_iff.mp h2
  have := List.pairwise_iff_getElem.mp h i (1 + i) l1 l2 (by omega)
  rw [e1, e2] at this
  exact decide_eq_true (by omega)
theorem lcW_some {f : PyData → (Option PyData → Prop) → Prop} : ∀ {ds : List PyData} {Q : List PyData → Prop}, (∀ d ∈ ds, ∀ R : Option PyData → Prop, R none → R (some d) → f d R) → (∀ es, es.Sublist ds → Q es) → lcW f ds Q
  | [], _, _, q => q [] (List.Sublist.refl _)
  | d :: ds, Q, h, q => h d (by simp) _ (lcW_some (fun d' hd => h d' (by simp [hd])) fun es he => q es (he.cons _)) (lcW_some (fun d' hd => h d' (by simp [hd])) fun es he => q (d :: es) (he.cons₂ _))
theorem sub_ints {ks : List Nat} {es : List PyData} (h : es.Sublist (intsN ks)) : ∃ js : List Nat, es = intsN js ∧ js.Sublist ks := by
  obtain ⟨js, h1, h2⟩ := List.sublist_map_iff.mp h
  exact ⟨js, h2, h1⟩
end Hv

set_option Elab.async false
set_option linter.all false
set_option maxRecDepth 100000
namespace Hv
open PySem PySem.Spec PyProof.Rows L2 Hod
theorem nodup_words (ss : List Say) (h : (ss.map fun s => s.word.s).Nodup) : (ss.map Say.k).Nodup := by
  refine List.pairwise_map.mpr (List.Pairwise.imp (fun {a b} hne e => hne (k_inj e).1) (List.pairwise_map.mp h))
theorem ev_lamN {ρ : Rho} {μ : Mem} {er : ErF} {F : FSX} {gA : List A → List A → List A} {u v : WA} {as bs cs : List A} (h : EvAs u ρ μ as) (h2 : EvAs v ρ μ bs) (he : er "NoLine" [("word", .str "noline")] = some (.str "noline")) (hF : ∀ (Q : PyData → Prop) (E : XW), E "NoLine" [("word", .str "noline")] → F cs Q E) (hc : gA as bs = cs := by rfl) (hn : noOwn cs = true := by rfl) : Evs (wLamW (.str "") er (fun xw => wCallKX xw F gA u v)) ρ μ (.dat (.tuple [.none, .str "noline"])) := fun Q q => x_callKX h h2 (hF _ _ ⟨.str "noline", he, rfl, q⟩) hc hn
end Hv

set_option Elab.async false
set_option linter.all false
set_option maxRecDepth 100000
namespace Hv
open PySem PySem.Spec PyProof.Rows L2 Hod
theorem le_stay {a b : Nat} (h : a < b) : leK (stayS a).k (stayS b).k = true := by
  show (!(listOrd itemOrd).blt (PySem.W.keyToks (keyT (stayS b).k)) (PySem.W.keyToks (keyT (stayS a).k))) = true
  have e : ∀ k : Nat, PySem.W.keyToks (keyT (stayS k).k) = [.inl 1, .inr (Wd.sty.s).cps.toList, .inl 1, .inl (k : Int), .inl 1, .inl 0, .inl 0] := fun k => by
    unfold keyT
    rw [PySem.W.keyToks]
    simp [stayS, Say.k, kD, PySem.W.keyToksAll, PySem.W.keyToks]
  rw [e a, e b]
  have l : ∀ (x : Int ⊕ List Nat) (r t : List (Int ⊕ List Nat)), PyProof.Rows.lexLt itemOrd (x :: r) (x :: t) = PyProof.Rows.lexLt itemOrd r t := fun x r t => by
    rw [lex_cons, show itemOrd.blt x x = false from itemOrd.irrefl x]
    rfl
  have hab : decide (((b : Nat) : Int) < (a : Nat)) = false := decide_eq_false (by omega)
  have hba : decide (((a : Nat) : Int) < (b : Nat)) = true := decide_eq_true (by omega)
  show (!PyProof.Rows.lexLt itemOrd _ _) = true
  rw [l, l, l, lex_cons]
  show (!(decide (((b : Nat) : Int) < (a : Nat)) || (!decide (((a : Nat) : Int) < (b : Nat)) && _))) = true
  rw [hab, hba]
  rfl
theorem line_stays {ks : List Nat} (h : ks.Pairwise (· < ·)) : lineE (ks.map stayS) = .tuple ((ks.map stayS).map Say.e) := by
  have e : (ks.map stayS).map Say.k = lineK (ks.map stayS) := by
    refine ord_one ?_ ?_ fun k => Iff.rfl
    · rw [List.map_map]
      exact List.pairwise_map.mpr (List.Pairwise.imp (fun {a b} hl => le_stay hl) h)
    · rw [List.map_map]
      refine List.pairwise_map.mpr (List.Pairwise.imp (fun {a b} hl e => ?_) h)
      have := (k_inj (s := stayS a) (t := stayS b) e).2.1
      have : a = b := this
      omega
  unfold lineE
  rw [← e, map_kT]
def isK (old : List (Option (Int × Int))) (k : Nat) : Bool := match old[k]? with | some (some _) => true | _ => false
theorem isK_get {old : List (Option (Int × Int))} {k : Nat} (h : isK old k = true) : ∃ q, old[k]? = some (some q) := by
  unfold isK at h
  split at h
  · exact ⟨_, by assumption⟩
  · cases h
def jobsK (old : List (Option (Int × Int))) : List Nat := (List.range old.length).filter (isK old)
theorem kept_prs {y : Yard} {bound : Option Int} {old : List (Option (Int × Int))} {most : Option Int} {k : Nat} {q : Int × Int} (h : old[k]? = some (some q)) : (askOf y bound old most).prs[k]? = some (some q) := by
  have h0 : ¬ old.length = 0 := fun e => by
    rw [List.eq_nil_of_length_eq_zero e] at h
    cases h
  show (if old.length = 0 then List.replicate y.works.length none else old)[k]? = _
  rw [if_neg h0]
  exact h
theorem jobs_pw (old : List (Option (Int × Int))) : (jobsK old).Pairwise (· < ·) := List.Pairwise.filter _ List.pairwise_lt_range
theorem kept_len6 {y : Yard} {old : List (Option (Int × Int))} (ho : y.ok) (h : KeptOk y old) : old.length ≤ y.works.length := by
  rcases h with h | h
  · rw [h]; exact Nat.zero_le _
  · omega
theorem eqv_nilL' (ds : List PyData) : PyData.eqv (.list ds) (.list []) = ds.isEmpty := by cases ds <;> rfl
theorem shp_intsL (ks : List Nat) : SeqAt.shaped (.list (intsN ks)) = true := shp_list fun d hd => by
  obtain ⟨s, _, rfl⟩ := List.mem_map.mp hd
  exact shp_int _
end Hv

set_option Elab.async false
set_option linter.all false
set_option maxRecDepth 100000
namespace Hv
open PySem PySem.Spec PyProof.Rows L2 Hod
/-! sum of a tuple of ints -/
def rSumT (K : PySem.W.Frag) : List V → Hp → VK → Prop := fun vs H Q => ∃ (a : Addr) (ns : List Int), vs = [V.ref a] ∧ SqT K H a (ns.map V.int) ∧ Q (.int ns.sum) H
theorem cr_sumT {X : Cx} (hc : X.calm = true) : CallR X (.builtin "sum") (rSumT X.K) := by
  intro pins s σ H vs us Q I r h
  obtain ⟨a, ns, rfl, hs, q⟩ := h
  obtain ⟨its, rv, hl, _⟩ := I.tuple hs
  rw [Vals.ref1 r]
  have hi : IntsAre its ns := rv.ints
  obtain ⟨xs, e⟩ := hi.allInts.items
  have hn : numsOf (intItems xs).toList = ns := by rw [← e]; exact hi.numsOf
  rw [nums_intItems] at hn
  have hl : s.heap.IsTuple a its.toArray := hl
  rw [e] at hl
  refine PySem.W.ktm_sumG (I.ok.hd hc) hl fun h2 tk t2 hk => ?_
  rw [preSum_eq, List.take_of_length_le (by simp), hn]
  exact ⟨.int _, H, I.kept hk, ⟨_, rfl⟩, q⟩
def gSumT : GC := fun μ as Q => match as with | [.dat (.tuple ds)] => (match intsD ds with | some ns => Q (.dat (.int ns.sum)) | none => False) | _ => False
theorem c_sumT {K : PySem.W.Frag} : CW K (rSumT K) gSumT := fun S B xs H μ as Q Q2 gd rs q k => by
  cases rs with
  | nil => exact q.elim
  | @cons v vs a as r rs =>
    cases rs with
    | cons _ _ => cases a <;> first | exact q.elim | (rename_i d; cases d <;> exact q.elim)
    | nil =>
      cases r with
      | dat r =>
        cases r with
        | @tup p xs ds h1 h2 =>
          unfold gSumT at q
          dsimp only at q
          split at q
          · rename_i ns hb
            exact ⟨p, ns, rfl, by rw [← ints_ok h2 hb]; exact sqt_same off_same h1, k _ H _ .refl gd (.dat (.int _)) (fun _ _ e => nomatch e) q⟩
          · exact q.elim
        | _ => exact q.elim
      | _ => exact q.elim
theorem ev_sumT {ρ : Rho} {μ : Mem} {w : WE} {ns : List Int} (h : Evs w ρ μ (.dat (.tuple (ns.map PyData.int)))) : Evs (wCB gSumT (waCons w waNil)) ρ μ (.dat (.int ns.sum)) := fun Q q => h _ (by
  show (match intsD (ns.map PyData.int) with | some ns => Q (.dat (.int ns.sum)) | none => False)
  rw [ints_map]
  exact q)
/-! min(l, default=None) -/
def minO : List Int → Option Int
  | [] => none
  | n :: r => some (r.foldl min n)
def vO : Option Int → V
  | none => .non
  | some i => .int i
def rMinN (K : PySem.W.Frag) : List V → List V → Hp → VK → Prop := fun vs zs H Q => ∃ (a : Addr) (ns : List Int), vs = [V.ref a] ∧ zs = [V.non] ∧ SqL K H a (ns.map V.int) ∧ Q (vO (minO ns)) H
theorem cr_minN {X : Cx} (hc : X.calm = true) (hu : X.A.units + 64 < cLine) : CallRK X (.builtin "min") ["default"] (rMinN X.K) := by
  intro pins s σ H vs zs us ws Q I rv rz h
  obtain ⟨a, ns, rfl, rfl, hs, q⟩ := h
  obtain ⟨u, rfl, hu1⟩ := vals1 rv
  obtain ⟨u2, rfl, hu2⟩ := vals1 rz
  cases hu1
  have hu2 : u2 = Value.none := hu2
  subst hu2
  obtain ⟨its, r, pl, hz⟩ := I.list hs
  obtain ⟨as, hr⟩ := Dp.readsAll I (ns.map PyData.int) _ its (dp_ints ns) r
  have alk : PySem.W.AlikeAll (ns.map PyData.int) := by
    refine ⟨fun x hx y hy => ?_, fun x hx => ?_⟩
    · obtain ⟨i, _, rfl⟩ := List.mem_map.mp hx
      obtain ⟨j, _, rfl⟩ := List.mem_map.mp hy
      rfl
    · obtain ⟨i, _, rfl⟩ := List.mem_map.mp hx
      exact fun z => nomatch z
  refine PySem.W.min_list_default (xs := ns.map PyData.int) (I.ok.hd hc) pl.isList (by simpa using hr) alk (by rw [depthAll_ints]; omega) (fun e h2 tk hk => ?_) (fun y ys j v h2 tk bs e hv hrd hk => ?_)
  · cases ns with
    | cons _ _ => cases e
    | nil => exact ⟨.non, H, I.kept (t' := tk) hk, rfl, q⟩
  · cases ns with
    | nil => cases e
    | cons n r2 =>
      cases e
      rw [PySem.W.minD_ints] at hrd
      cases hrd with
      | int _ t2 => exact ⟨.int (r2.foldl min n), H, I.kept (t' := tk) hk, ⟨t2, rfl⟩, q⟩
def wMinN (u uk : WA) : WE := fun ρ μ Q => u ρ μ fun as => uk ρ μ fun bs => match as, bs with
  | [.dat (.list ds)], [.dat .none] => (match intsD ds with | some ns => Q (.dat (eO (minO ns))) | none => False)
  | _, _ => False
theorem rp_vO {K : PySem.W.Frag} {G : Hp} (o : Option Int) : Rp K G (vO o) (eO o) := by
  cases o with
  | none => exact .non
  | some i => exact .int i
theorem ve_minN {X : Cx} {xl : XLT X.K} {e : Expr} {kws : List Keyword} {u uk : WA} {p pos : Pos} (hc : X.calm = true) (hu : X.A.units + 64 < cLine) (hg : Gl X "min") (hm : X.mg "min" = none) (ha : VA X xl [e] u) (hk : VK2 X xl kws uk)
    (he : backTo pos (starEach [e] X.env) = (false, eval e X.env) :: backTo pos (starEach [] X.env) := by rfl) (hpl : (backTo pos (starEach [e] X.env)).any (·.1) = false := by rfl) (hall : (backToKw pos (keywordEach kws X.env)).all (·.1.isSome) = true := by rfl)
    (hnone : (backToKw pos (keywordEach kws X.env)).any (·.1.isNone) = false := by rfl) (hks : (backToKw pos (keywordEach kws X.env)).filterMap (·.1) = (["default"] : List Str) := by rfl) : VE X xl (.Call (.Name "min" p) [e] kws pos) (wMinN u uk) := by
  refine pe_weak (pe_callBK (cr_minN hc hu) hg hm (by decide +kernel) ha hk (by decide) (by decide) he hpl hall hnone hks) fun σ H Q ⟨S, B, ρ, μ, Q2, st, w, k⟩ => ⟨S, B, ρ, μ, _, st, w, fun vs H1 as e1 g1 rs q1 => ⟨S, B, ρ, μ, _, st.ex e1 g1, q1, fun zs H2 bs e2 g2 rz q2 => ?_⟩⟩
  split at q2
  · rename_i ds
    split at q2
    · rename_i ns hn
      cases rs with
      | cons r1 rs =>
        cases rs
        cases rz with
        | cons r2 rz =>
          cases rz
          cases r1 with
          | dat r1 =>
            cases r2 with
            | dat r2 =>
              cases r2
              cases r1 with
              | @lst a xs _ h1 h2 =>
                have h3 := (h2.mono (e2.off g1) _ _)
                exact ⟨a, ns, rfl, rfl, by rw [← ints_ok h3 hn]; exact SqL.of (off_same _ _ (e2.off g1 _ _ h1)), k _ H2 _ (e1.trans e2) g2 (.dat (rp_vO _)) q2⟩
    · exact q2.elim
  · exact q2.elim
theorem ev_minN {ρ : Rho} {μ : Mem} {w w2 : WE} {ns : List Int} (h : Evs w ρ μ (.dat (.list (ns.map PyData.int)))) (h2 : Evs w2 ρ μ (.dat .none)) : Evs (wMinN (waCons w waNil) (waCons w2 waNil)) ρ μ (.dat (eO (minO ns))) := fun Q q => h _ (h2 _ (by
  show (match intsD (ns.map PyData.int) with | some ns => Q (.dat (eO (minO ns))) | none => False)
  rw [ints_map]
  exact q))
theorem minO_iff {ns : List Int} {m : Int} : minO ns = some m ↔ m ∈ ns ∧ ∀ x ∈ ns, m ≤ x := by
  have low : ∀ (r : List Int) (n : Int), (r.foldl min n ∈ n :: r) ∧ (r.foldl min n ≤ n) ∧ ∀ x ∈ r, r.foldl min n ≤ x := by
    intro r
    induction r with
    | nil => exact fun n => ⟨List.mem_cons_self, Int.le_refl _, fun x h => absurd h (List.not_mem_nil)⟩
    | cons a r ih =>
      intro n
      rw [List.foldl_cons]
      obtain ⟨h1, h2, h3⟩ := ih (min n a)
      have m1 := Int.min_le_left n a
      have m2 := Int.min_le_right n a
      refine ⟨?_, by omega, fun x hx => ?_⟩
      · rcases List.mem_cons.mp h1 with h | h
        · rw [h]
          rcases Int.le_total n a with q | q
          · rw [Int.min_eq_left q]; simp
          · rw [Int.min_eq_right q]; simp
        · simp [h]
      · rcases List.mem_cons.mp hx with rfl | hx
        · omega
        · exact h3 x hx
  cases ns with
  | nil => exact ⟨(fun h => nomatch h), fun h => absurd h.1 (List.not_mem_nil)⟩
  | cons n r =>
    obtain ⟨h1, h2, h3⟩ := low r n
    constructor
    · intro h
      have h : r.foldl min n = m := Option.some.inj h
      subst h
      refine ⟨h1, fun x hx => ?_⟩
      rcases List.mem_cons.mp hx with rfl | hx
      · exact h2
      · exact h3 x hx
    · rintro ⟨h4, h5⟩
      show some (r.foldl min n) = some m
      have a1 := h5 _ h1
      rcases List.mem_cons.mp h4 with rfl | h4
      · exact congrArg some (by omega)
      · have a2 := h3 m h4
        exact congrArg some (by omega)
theorem minO_none {ns : List Int} : minO ns = none ↔ ns = [] := by
  cases ns with
  | nil => exact ⟨fun _ => rfl, fun _ => rfl⟩
  | cons _ _ => exact ⟨(fun h => nomatch h), (fun h => nomatch h)⟩
/-- the same members, the same least -/
theorem minO_congr {ns ms : List Int} (h : ∀ x, x ∈ ns ↔ x ∈ ms) : minO ns = minO ms := by
  cases e : minO ns with
  | none =>
    rw [minO_none] at e
    subst e
    symm
    rw [minO_none]
    cases ms with
    | nil => rfl
    | cons a _ => exact absurd ((h a).mpr (by simp)) (List.not_mem_nil)
  | some m =>
    obtain ⟨h1, h2⟩ := minO_iff.mp e
    exact (minO_iff.mpr ⟨(h m).mp h1, fun x hx => h2 x ((h x).mpr hx)⟩).symm
section
variable {X : Cx} {xl : XLT X.K}
theorem vs_setLc2 {i : Nat} {y : Str} {py : Pos} {elt tg iter tg1 iter1 : Expr} {ifs ifs1 : List Expr} {scope : Scope} {own : List (Str × Nat)} {vs1 : List Nat} {pos spos : Pos} {wi wi1 : WI} {wt wt1 : WT} {we : WE} (p p1 : Pat) (hc : X.calm = true) (hN : X.N.Nodup) (hy : X.N[i]? = some y) (hyl : X.env.scope.names.lookup y = some .local)
    (hsw : swapsWith (.ListComp elt [⟨tg, iter, ifs, 0⟩, ⟨tg1, iter1, ifs1, 0⟩] scope pos) (some (.Name y py)) spos.line X.env = pure true) (hi : VI X xl tg iter wi) (ok : BlkOk X.N X.env.scope scope own) (hvs : ∀ i ∈ vs1, i ∈ own.map (·.2))
    (hg : ∀ (s : Shared) (H : Hp) (C : Addr) (cl : List (Str × Addr)) (fp : List Addr), PG (X.blk s H scope (compEnvC scope cl C X.env) fp) tg (gOf X.K p)) (ht : ∀ (s : Shared) (H : Hp) (C : Addr) (cl : List (Str × Addr)) (fp : List Addr), VTs (X.blk s H scope (compEnvC scope cl C X.env) fp) xl0 ifs wt)
    (hi1 : ∀ (s : Shared) (H : Hp) (C : Addr) (cl : List (Str × Addr)) (fp : List Addr), VI (X.blk s H scope (compEnvC scope cl C X.env) fp) xl0 tg1 iter1 wi1) (hg1 : ∀ (s : Shared) (H : Hp) (C : Addr) (cl : List (Str × Addr)) (fp : List Addr), PG (X.blk s H scope (compEnvC scope cl C X.env) fp) tg1 (gOf X.K p1)) (ht1 : ∀ (s : Shared) (H : Hp) (C : Addr) (cl : List (Str × Addr)) (fp : List Addr), VTs (X.blk s H scope (compEnvC scope cl C X.env) fp) xl0 ifs1 wt1)
    (he : ∀ (s : Shared) (H : Hp) (C : Addr) (cl : List (Str × Addr)) (fp : List Addr), VE (X.blk s H scope (compEnvC scope cl C X.env) fp) xl0 elt we) (hv : p.sub (own.map (·.2)) = true := by rfl) (hv1 : p1.sub vs1 = true := by rfl) (hs : ∀ x, foldedSetIterable iter X.env x = pure x := by intro _; rfl) (hs1 : ∀ env x, foldedSetIterable iter1 env x = pure x := by intro _ _; rfl) :
    VS X xl (.Assign [.Name y py] (.ListComp elt [⟨tg, iter, ifs, 0⟩, ⟨tg1, iter1, ifs1, 0⟩] scope pos) spos) (wSet i (wLc2 wi p wt wi1 p1 wt1 we (own.map (·.2)) vs1)) := ps_weak (ps_setLc2 hc hN hy hyl hsw hi ok hvs hg ht hi1 hg1 ht1 he hs hs1) fun D σ H h => lf_lc2 hv hv1 σ H _ (le_lf (ls_set h))
end
end Hv

set_option Elab.async false
set_option linter.all false
set_option maxRecDepth 100000
namespace Hv
open PySem PySem.Spec PyProof.Rows L2 Hod
/-! ### rows of a stretch -/
structure Rw where
  work : Nat
  low : Int
  high : Int
  ways : List Nat
def Rw.e (r : Rw) : PyData := .tuple [.int r.work, .int r.low, .int r.high, .tuple (intsN r.ways)]
def Rw.v (y : Yard) (r : Rw) : Wrk := y.works.getD r.work ⟨0, 0, []⟩
structure Rw.ok (y : Yard) (r : Rw) : Prop where
  w : y.works[r.work]? = some (r.v y)
  l0 : 0 ≤ r.low
  lh : r.low < r.high
  hd : r.high ≤ y.days
  n0 : 0 < r.ways.length
  n3 : r.ways.length ≤ 3
  pw : r.ways.Pairwise (· < ·)
  wy : ∀ m ∈ r.ways, m < (r.v y).ways.length
structure RowsOk (y : Yard) (rs : List Rw) : Prop where
  l6 : rs.length ≤ 6
  pw : rs.Pairwise fun a b => a.work < b.work
  ok : ∀ r ∈ rs, r.ok y
def heldO (y : Yard) (s : Nat) (fi pa : Int) (k m : Nat) (d : Int) : Option Int := match y.way? k m with | some u => y.held u d (u.needs.getD s 0) fi pa | none => none
def Rw.days (r : Rw) : List Int := rngI r.low (r.high - r.low).toNat
def Rw.helds (y : Yard) (s : Nat) (fi pa : Int) (r : Rw) : List (Option Int) := r.days.flatMap fun d => r.ways.map fun m => heldO y s fi pa r.work m d
def Rw.least (y : Yard) (s : Nat) (fi pa : Int) (r : Rw) : Option Int := minO ((r.helds y s fi pa).filterMap id)
def there (y : Yard) (s : Nat) (fi pa : Int) : Int := (cutD (y.stuffs.getD s []) (some fi) (some pa)).sum
def tooM (y : Yard) (s : Nat) (fi pa : Int) (rs : List Rw) : Bool := (rs.any fun r => (r.least y s fi pa).isNone) || decide (there y s fi pa < (rs.map fun r => (r.least y s fi pa).getD 0).sum)
def outS (y : Yard) (r : Rw) : List Say := [⟨.ahd, r.work, r.low⟩, ⟨.frm, r.work, r.high⟩] ++ ((List.range (r.v y).ways.length).filter fun m => !r.ways.contains m).map (wayS r.work)
def stretchS (y : Yard) (rs : List Rw) : List Say := rs.flatMap (outS y)
structure StIn (y : Yard) (s : Nat) (fi pa : Int) (rs : List Rw) : Prop where
  s : s < y.stuffs.length
  f0 : 0 ≤ fi
  fp : fi < pa
  pd : pa ≤ y.days
  rs : RowsOk y rs
def stD (s : Nat) (fi pa : Int) (rs : List Rw) : List PyData := [.int s, .int fi, .int pa, .tuple (rs.map Rw.e)]
def StretchIn : Ask → List PyData → List Say → Prop := fun a ds ss => ∃ (s : Nat) (fi pa : Int) (rs : List Rw), ds = stD s fi pa rs ∧ StIn a.y s fi pa rs ∧ tooM a.y s fi pa rs = true ∧ ss = stretchS a.y rs
def StretchNo : Ask → List PyData → Prop := fun a ds => ∃ (s : Nat) (fi pa : Int) (rs : List Rw), ds = stD s fi pa rs ∧ StIn a.y s fi pa rs ∧ tooM a.y s fi pa rs = false
def FsomeOf : FS := fun as Q => ∃ (ks : List Nat) (n : Nat), as = [.dat (.tuple (intsN ks)), .dat (.int n)] ∧ 0 < ks.length ∧ ks.length ≤ 6 ∧ ks.Pairwise (· < ·) ∧ (∀ k ∈ ks, k < n) ∧ Q (.bool true)
def FgoodRows : FS := fun as Q => ∃ (y : Yard) (rs : List Rw), as = [.dat y.e, .dat (.tuple (rs.map Rw.e))] ∧ y.ok ∧ RowsOk y rs ∧ Q (.bool true)
def FleastH : FS := fun as Q => ∃ (y : Yard) (s : Nat) (fi pa : Int) (r : Rw), as = [.dat y.e, .dat (.int s), .dat (.int fi), .dat (.int pa), .dat r.e] ∧ y.ok ∧ s < y.stuffs.length ∧ r.ok y ∧ Q (eO (r.least y s fi pa))
def FtooM : FS := fun as Q => ∃ (y : Yard) (s : Nat) (fi pa : Int) (rs : List Rw), as = [.dat y.e, .dat (.int s), .dat (.int fi), .dat (.int pa), .dat (.tuple (rs.map Rw.e))] ∧ y.ok ∧ StIn y s fi pa rs ∧ Q (.bool (tooM y s fi pa rs))
def Foutside : FS := fun as Q => ∃ (y : Yard) (r : Rw), as = [.dat y.e, .dat r.e] ∧ y.ok ∧ r.ok y ∧ Q (.list ((outS y r).map Say.e))
def FlawLeast : FS := fun as Q => ∃ (y : Yard) (s : Nat) (fi pa : Int) (r : Rw), as = [.dat y.e, .dat (.int s), .dat (.int fi), .dat (.int pa), .dat r.e] ∧ y.ok ∧ s < y.stuffs.length ∧ r.ok y ∧ Q (.int ((r.least y s fi pa).getD 1000000))
def stretchR (y : Yard) (s : Nat) (fi pa : Int) (rs : List Rw) : PyData := if tooM y s fi pa rs = true then lineE (stretchS y rs) else .none
def FlawStretch : FS := fun as Q => ∃ (y : Yard) (s : Nat) (fi pa : Int) (rs : List Rw), as = [.dat y.e, .dat (.int s), .dat (.int fi), .dat (.int pa), .dat (.tuple (rs.map Rw.e))] ∧ y.ok ∧ StIn y s fi pa rs ∧ Q (stretchR y s fi pa rs)
def FsomeRows : FS := fun as Q => ∃ y : Yard, as = [.drw, .dat y.e] ∧ y.ok ∧ ∀ rs : List Rw, RowsOk y rs → Q (.tuple (rs.map Rw.e))
theorem outS_len {y : Yard} {r : Rw} (ho : y.ok) (h : r.ok y) : (outS y r).length ≤ 5 := by
  unfold outS
  have h1 := List.length_filter_le (fun m => !r.ways.contains m) (List.range (r.v y).ways.length)
  rw [List.length_range] at h1
  have h2 := (ho.ws _ (List.mem_of_getElem? h.w)).w3
  rw [List.length_append, List.length_map]
  show 2 + _ ≤ 5
  omega
theorem stretchS_len {y : Yard} (ho : y.ok) : ∀ {rs : List Rw}, (∀ r ∈ rs, r.ok y) → (stretchS y rs).length ≤ 5 * rs.length
  | [], _ => Nat.le_refl _
  | r :: rs, h => by
    have h1 := outS_len ho (h r (by simp))
    have h2 := stretchS_len ho (rs := rs) fun q hq => h q (by simp [hq])
    show (outS y r ++ stretchS y rs).length ≤ 5 * (rs.length + 1)
    rw [List.length_append]
    omega
theorem outS_work {y : Yard} {r : Rw} : ∀ s ∈ outS y r, s.work = r.work := fun s hs => by
  unfold outS at hs
  rcases List.mem_append.mp hs with h | h
  · rcases List.mem_cons.mp h with rfl | h
    · rfl
    · rcases List.mem_cons.mp h with rfl | h
      · rfl
      · cases h
  · obtain ⟨m, _, rfl⟩ := List.mem_map.mp h
    rfl
theorem stretch_nodup {y : Yard} : ∀ {rs : List Rw}, (rs.Pairwise fun a b => a.work < b.work) → ((stretchS y rs).map Say.k).Nodup
  | [], _ => List.nodup_nil
  | r :: rs, h => by
    obtain ⟨h1, h2⟩ := List.pairwise_cons.mp h
    show ((outS y r ++ stretchS y rs).map Say.k).Nodup
    rw [List.map_append]
    refine List.nodup_append.mpr ⟨nodup_two (show Wd.ahd.s ≠ Wd.frm.s by decide) (show Wd.ahd.s ≠ Wd.way.s by decide) (show Wd.frm.s ≠ Wd.way.s by decide) (List.Pairwise.filter _ List.nodup_range), stretch_nodup h2, fun a ha b hb e => ?_⟩
    subst e
    obtain ⟨s, hs, rfl⟩ := List.mem_map.mp ha
    obtain ⟨t, ht, e⟩ := List.mem_map.mp hb
    obtain ⟨q, hq, ht⟩ := List.mem_flatMap.mp ht
    have a1 := outS_work s hs
    have a2 := outS_work t ht
    have a3 := (k_inj e).2.1
    have a4 := h1 q hq
    omega
theorem held_nn {y : Yard} {s : Nat} {fi pa : Int} {k m : Nat} {d x : Int} (ho : y.ok) (h : heldO y s fi pa k m d = some x) : 0 ≤ x := by
  unfold heldO at h
  split at h
  · rename_i u hu
    unfold Yard.held at h
    cases hg : y.go u d with
    | none => rw [hg] at h; cases h
    | some l =>
      rw [hg] at h
      have h : u.needs.getD s 0 * ((l.filter fun d => decide (fi ≤ d) && decide (d < pa)).length : Nat) = x := Option.some.inj h
      have hn : 0 ≤ u.needs.getD s 0 := by
        rw [List.getD]
        cases e : u.needs[s]? with
        | none => exact Int.le_refl _
        | some n => exact ((ho.way hu).nf n (List.mem_of_getElem? e)).1
      rw [← h]
      exact Int.mul_nonneg hn (by omega)
  · cases h
theorem least_nn {y : Yard} {s : Nat} {fi pa x : Int} {r : Rw} (ho : y.ok) (h : r.least y s fi pa = some x) : 0 ≤ x := by
  obtain ⟨h1, _⟩ := minO_iff.mp h
  obtain ⟨o, ho1, ho2⟩ := List.mem_filterMap.mp h1
  have ho2 : o = some x := ho2
  subst ho2
  unfold Rw.helds at ho1
  obtain ⟨d, _, h2⟩ := List.mem_flatMap.mp ho1
  obtain ⟨m, _, h3⟩ := List.mem_map.mp h2
  exact held_nn ho h3
theorem sum_le : ∀ {l : List Int}, (∀ x ∈ l, x ≤ 9) → l.sum ≤ 9 * (l.length : Int)
  | [], _ => Int.le_refl _
  | a :: l, h => by
    have h1 := h a (by simp)
    have h2 := sum_le (l := l) fun x hx => h x (by simp [hx])
    rw [List.sum_cons, List.length_cons]
    omega
theorem cut_mem {l : List Int} {lo hi : Option Int} {x : Int} (h : x ∈ cutD l lo hi) : x ∈ l := List.mem_of_mem_drop (List.mem_of_mem_take h)
theorem cut_len {l : List Int} {lo hi : Option Int} : (cutD l lo hi).length ≤ l.length := by
  unfold cutD
  rw [List.length_take, List.length_drop]
  omega
theorem there_le {y : Yard} {s : Nat} {fi pa : Int} (ho : y.ok) : there y s fi pa ≤ 180 := by
  unfold there
  have d20 := ho.d20
  rw [List.getD]
  cases e : y.stuffs[s]? with
  | none =>
    show (cutD ([] : List Int) (some fi) (some pa)).sum ≤ 180
    simp [cutD]
  | some r =>
    obtain ⟨h1, h2⟩ := ho.st r (List.mem_of_getElem? e)
    show (cutD r (some fi) (some pa)).sum ≤ 180
    have a1 := sum_le (l := cutD r (some fi) (some pa)) fun x hx => (h2 x (cut_mem hx)).2
    have a2 := cut_len (l := r) (lo := some fi) (hi := some pa)
    omega
/-- the law's sum, or the program's -/
theorem need_tooM {y : Yard} {s : Nat} {fi pa : Int} (ho : y.ok) (rs : List Rw) : decide ((rs.map fun r => (r.least y s fi pa).getD 1000000).sum ≤ there y s fi pa) = !tooM y s fi pa rs := by
  have ht := there_le (s := s) (fi := fi) (pa := pa) ho
  have nn : ∀ r : Rw, ∀ z : Int, 0 ≤ z → 0 ≤ (r.least y s fi pa).getD z := fun r z hz => by
    cases e : r.least y s fi pa with
    | none => exact hz
    | some x => exact least_nn ho e
  have snn : ∀ l : List Rw, 0 ≤ (l.map fun r => (r.least y s fi pa).getD 1000000).sum := fun l => by
    induction l with
    | nil => exact Int.le_refl _
    | cons r l ih =>
      rw [List.map_cons, List.sum_cons]
      have := nn r 1000000 (by decide)
      omega
  unfold tooM
  cases hn : rs.any fun r => (r.least y s fi pa).isNone with
  | true =>
    obtain ⟨r, hr, he⟩ := List.any_eq_true.mp hn
    have big : ∀ l : List Rw, r ∈ l → 1000000 ≤ (l.map fun r => (r.least y s fi pa).getD 1000000).sum := fun l hl => by
      induction l with
      | nil => cases hl
      | cons q l ih =>
        rw [List.map_cons, List.sum_cons]
        have a1 := nn q 1000000 (by decide)
        have a2 := snn l
        rcases List.mem_cons.mp hl with rfl | hl
        · rw [Option.isNone_iff_eq_none.mp he]
          show 1000000 ≤ 1000000 + _
          omega
        · have := ih hl
          omega
    have := big rs hr
    rw [decide_eq_false (by omega)]
    rfl
  | false =>
    have e : (rs.map fun r => (r.least y s fi pa).getD 1000000) = rs.map fun r => (r.least y s fi pa).getD 0 := List.map_congr_left fun r hr => by
      cases e : r.least y s fi pa with
      | none =>
        have := List.any_eq_false.mp hn r hr
        rw [e] at this
        exact absurd rfl this
      | some x => rfl
    rw [e, Bool.false_or]
    generalize (rs.map fun r => (r.least y s fi pa).getD 0).sum = z
    by_cases h : there y s fi pa < z
    · rw [decide_eq_true h, decide_eq_false (by omega)]; rfl
    · rw [decide_eq_false h, decide_eq_true (by omega)]; rfl
theorem any_intsN (ks : List Nat) (m : Nat) : ((intsN ks).any fun z => PyData.eqv z (.int (m : Nat))) = ks.contains m := by
  have e : intsN ks = (ks.map fun k : Nat => ((k : Nat) : Int)).map PyData.int := by unfold intsN; rw [List.map_map]; rfl
  rw [e, any_contains]
  induction ks with
  | nil => rfl
  | cons k ks ih =>
    have ih := ih (by unfold intsN; rw [List.map_map]; rfl)
    rw [List.map_cons, List.contains_cons, List.contains_cons, ih]
    congr 1
    by_cases h : m = k
    · subst h; simp
    · rw [beq_eq_false_iff_ne.mpr h]
      exact beq_eq_false_iff_ne.mpr fun z => h (by omega)
theorem flat_intsN (ks : List Nat) : (intsN ks).all flatD = true := by
  rw [List.all_eq_true]
  intro d hd
  obtain ⟨k, _, rfl⟩ := List.mem_map.mp hd
  rfl
theorem cutD_map {α β : Type} (f : α → β) (l : List α) (lo hi : Option Int) : cutD (l.map f) lo hi = (cutD l lo hi).map f := by
  unfold cutD
  rw [List.length_map, List.map_take, List.map_drop]
theorem eqv_eO (o : Option Int) : PyData.eqv (eO o) .none = o.isNone := by cases o <;> rfl
theorem stuff_at {y : Yard} {s : Nat} (h : s < y.stuffs.length) : y.stuffs[s]? = some (y.stuffs.getD s []) := by
  rw [List.getD, List.getElem?_eq_getElem h]
  rfl
theorem rw_at {y : Yard} {k : Nat} (h : k < y.works.length) {lo hi : Int} {ws : List Nat} : y.works[k]? = some ((⟨k, lo, hi, ws⟩ : Rw).v y) := by
  unfold Rw.v
  rw [List.getD, List.getElem?_eq_getElem h]
  rfl
end Hv

set_option Elab.async false
set_option linter.all false
set_option maxRecDepth 100000
namespace Hv
open PySem PySem.Spec PyProof.Rows L2 Hod
/-- a line, or none -/
def FbearsR : FSX := fun as Q E => ∃ (y : Yard) (s : Nat) (fi pa : Int) (rs : List Rw), as = [.dat y.e, .dat (.tuple (.str "stretch" :: stD s fi pa rs)), .dat .none, .dat (.tuple []), .dat .none] ∧ y.ok ∧ StIn y s fi pa rs ∧ (tooM y s fi pa rs = true → Q (lineE (stretchS y rs))) ∧ (tooM y s fi pa rs = false → E "NoLine" [("word", .str "noline")])
def FlineR : FS := fun as Q => ∃ (a : Ask) (s : Nat) (fi pa : Int) (rs : List Rw), as = [.dat a.e, .dat (.tuple (.str "stretch" :: stD s fi pa rs))] ∧ a.ok ∧ StIn a.y s fi pa rs ∧ Q (stretchR a.y s fi pa rs)
def wantD (d : PyData) : PyData := match d with | .none => .tuple [.none, .str "noline"] | d => .tuple [d, .str ""]
theorem ev_lamR {ρ : Rho} {μ : Mem} {er : ErF} {gA : List A → List A → List A} {u v : WA} {as bs : List A} {y : Yard} {s : Nat} {fi pa : Int} {rs : List Rw} (h : EvAs u ρ μ as) (h2 : EvAs v ρ μ bs) (he : er "NoLine" [("word", .str "noline")] = some (.str "noline")) (ho : y.ok) (hi : StIn y s fi pa rs) (hc : gA as bs = [.dat y.e, .dat (.tuple (.str "stretch" :: stD s fi pa rs)), .dat .none, .dat (.tuple []), .dat .none] := by rfl) : Evs (wLamW (.str "") er (fun xw => wCallKX xw FbearsR gA u v)) ρ μ (.dat (if tooM y s fi pa rs = true then .tuple [lineE (stretchS y rs), .str ""] else .tuple [.none, .str "noline"])) := fun Q q => x_callKX h h2 ⟨y, s, fi, pa, rs, rfl, ho, hi, fun ht => by rw [if_pos ht] at q; exact q, fun ht => by rw [if_neg (by rw [ht]; decide)] at q; exact ⟨.str "noline", he, rfl, q⟩⟩ hc rfl
end Hv

set_option Elab.async false
set_option linter.all false
set_option maxRecDepth 100000
/-! all plans of an ask, and what holds of them -/
namespace Hv
open PySem PySem.Spec PyProof.Rows L2 Hod
def pairsC (y : Yard) (cap : Int) (k : Nat) : List (Int × Int) := match y.works[k]? with | some v => pairsV y v cap (v.high - v.low).toNat | none => []
def nextK (y : Yard) (cap : Int) (k : Nat) (c : List (Int × Int)) : List (List (Int × Int)) := ((pairsC y cap k).filter fun q => fitsB y (c ++ [q])).map fun q => c ++ [q]
def coursesC (y : Yard) (cap : Int) : Nat → List (List (Int × Int))
  | 0 => [[]]
  | k + 1 => (coursesC y cap k).flatMap (nextK y cap k)
theorem mem_coursesC {y : Yard} {cap : Int} : ∀ {n : Nat} {c : List (Int × Int)}, c ∈ coursesC y cap n ↔ c.length = n ∧ ∀ j, j < n → ∃ q, c[j]? = some q ∧ q ∈ pairsC y cap j ∧ fitsB y (c.take (j + 1)) = true
  | 0, c => by
    unfold coursesC
    rw [List.mem_singleton]
    exact ⟨fun h => ⟨by rw [h]; rfl, fun j hj => absurd hj (Nat.not_lt_zero _)⟩, fun h => List.eq_nil_of_length_eq_zero h.1⟩
  | n + 1, c => by
    unfold coursesC nextK
    rw [List.mem_flatMap]
    constructor
    · rintro ⟨c0, hc0, hc⟩
      obtain ⟨q, hq, rfl⟩ := List.mem_map.mp hc
      obtain ⟨hq1, hq2⟩ := List.mem_filter.mp hq
      obtain ⟨hl, hall⟩ := mem_coursesC.mp hc0
      refine ⟨by rw [List.length_append, hl]; rfl, fun j hj => ?_⟩
      by_cases hjn : j < n
      · obtain ⟨r, r1, r2, r3⟩ := hall j hjn
        exact ⟨r, by rw [List.getElem?_append_left (by omega)]; exact r1, r2, by rw [List.take_append_of_le_length (by omega)]; exact r3⟩
      · have e : j = n := by omega
        subst e
        exact ⟨q, by rw [List.getElem?_append_right (by omega), hl, Nat.sub_self]; rfl, hq1, by rw [List.take_of_length_le (by rw [List.length_append, hl]; exact Nat.le_refl _)]; exact hq2⟩
    · rintro ⟨hl, hall⟩
      obtain ⟨q, q1, q2, q3⟩ := hall n (Nat.lt_succ_self n)
      have hc : c = c.take n ++ [q] := by
        have h1 : c.take (n + 1) = c := List.take_of_length_le (by omega)
        have h2 : c.take (n + 1) = c.take n ++ [q] := by rw [List.take_add_one, q1]; rfl
        exact h1.symm.trans h2
      refine ⟨c.take n, mem_coursesC.mpr ⟨by rw [List.length_take]; omega, fun j hj => ?_⟩, List.mem_map.mpr ⟨q, List.mem_filter.mpr ⟨q2, ?_⟩, hc.symm⟩⟩
      · obtain ⟨r, r1, r2, r3⟩ := hall j (by omega)
        exact ⟨r, by rw [List.getElem?_take_of_lt hj]; exact r1, r2, by rw [List.take_take, Nat.min_eq_left (by omega)]; exact r3⟩
      · rw [List.take_of_length_le (by omega)] at q3
        rw [← hc]
        exact q3
theorem alone_cap {y : Yard} {w : Way} {b cap cap2 : Int} (h : alone y w b cap = true) (hc : cap ≤ cap2) : alone y w b cap2 = true := by
  unfold alone at h ⊢
  cases g : y.go w b with
  | none => rw [g] at h; cases h
  | some l =>
    rw [g] at h
    dsimp only at h ⊢
    cases z : l.getLast? with
    | none => rw [z] at h; cases h
    | some x =>
      rw [z] at h
      dsimp only at h ⊢
      rw [Bool.and_eq_true] at h ⊢
      refine ⟨?_, h.2⟩
      have h1 : ¬ x ≥ cap := by simpa using h.1
      rw [decide_eq_false (by omega)]; rfl
theorem mem_pairsC {y : Yard} {cap : Int} {k : Nat} {v : Wrk} {q : Int × Int} (hv : y.works[k]? = some v) : q ∈ pairsC y cap k ↔ v.low ≤ q.1 ∧ q.1 < v.high ∧ ∃ m : Nat, q.2 = m ∧ m < v.ways.length ∧ alone y (wayAt v m) q.1 cap = true := by
  unfold pairsC
  rw [hv]
  show q ∈ (rngI v.low (v.high - v.low).toNat).flatMap (pairsD y v cap) ↔ _
  rw [List.mem_flatMap]
  constructor
  · rintro ⟨b, hb, hq⟩
    have hb := mem_rngI.mp hb
    obtain ⟨m, hm, rfl⟩ := List.mem_map.mp hq
    obtain ⟨m1, m2⟩ := List.mem_filter.mp hm
    exact ⟨by show v.low ≤ b; omega, by show b < v.high; omega, m, rfl, List.mem_range.mp m1, m2⟩
  · rintro ⟨h1, h2, m, h3, h4, h5⟩
    refine ⟨q.1, mem_rngI.mpr (by omega), List.mem_map.mpr ⟨m, List.mem_filter.mpr ⟨List.mem_range.mpr h4, h5⟩, ?_⟩⟩
    rw [← h3]
theorem pairsC_sub {y : Yard} {cap : Int} {k : Nat} {q : Int × Int} (hc : cap ≤ y.days) (h : q ∈ pairsC y cap k) : q ∈ pairsL y k := by
  cases hv : y.works[k]? with
  | none => unfold pairsC at h; rw [hv] at h; cases h
  | some v =>
    obtain ⟨h1, h2, m, h3, h4, h5⟩ := (mem_pairsC hv).mp h
    exact (mem_pairs hv).mpr ⟨h1, h2, m, h3, h4, alone_cap h5 hc⟩
/-- a plan that keeps the rules, and the bound -/
structure Crs (y : Yard) (cap : Int) (c : List (Int × Int)) : Prop where
  l : c.length = y.works.length
  cl : Clean y c
  al : ∀ (k : Nat) (q : Int × Int) (v : Wrk), c[k]? = some q → y.works[k]? = some v → ∃ m : Nat, q.2 = m ∧ m < v.ways.length ∧ alone y (wayAt v m) q.1 cap = true
theorem crs_of {y : Yard} {cap : Int} {c : List (Int × Int)} (ho : y.ok) (hc : cap ≤ y.days) (h : c ∈ coursesC y cap y.works.length) : Crs y cap c := by
  obtain ⟨hl, hall⟩ := mem_coursesC.mp h
  refine ⟨hl, (clean_iff ho hl).mpr (mem_courses.mpr ⟨hl, fun j hj => ?_⟩), fun k q v hq hv => ?_⟩
  · obtain ⟨q, q1, q2, q3⟩ := hall j hj
    exact ⟨q, q1, pairsC_sub hc q2, q3⟩
  · have := lt_of_get hq
    obtain ⟨q', q1, q2, _⟩ := hall k (by omega)
    rw [hq] at q1
    cases q1
    obtain ⟨_, _, m, h3, h4, h5⟩ := (mem_pairsC hv).mp q2
    exact ⟨m, h3, h4, h5⟩
theorem eqv_pr (p q : Int × Int) : PyData.eqv (prP p) (prP q) = decide (p = q) := by
  have e3 : PyData.eqv (prP p) (prP q) = ((p.1 == q.1) && ((p.2 == q.2) && true)) := rfl
  rw [e3]
  by_cases h : p = q
  · subst h; simp
  · rw [decide_eq_false h]
    by_cases h1 : p.1 = q.1
    · by_cases h2 : p.2 = q.2
      · exact absurd (Prod.ext h1 h2) h
      · simp [h2]
    · simp [h1]
def movedB (old : List (Option (Int × Int))) (c : List (Int × Int)) (k : Nat) : Bool := match old[k]? with
  | some (some q) => !PyData.eqv (prP q) (prP (c.getD k (0, 0)))
  | _ => false
def moved (old : List (Option (Int × Int))) (c : List (Int × Int)) : List Nat := if old = [] then [] else (List.range c.length).filter (movedB old c)
def Lets (old : List (Option (Int × Int))) (most : Option Int) (c : List (Int × Int)) : Prop := ∀ m, most = some m → ((moved old c).length : Int) ≤ m
def letsB (old : List (Option (Int × Int))) (most : Option Int) (c : List (Int × Int)) : Bool := match most with | none => true | some m => decide (((moved old c).length : Int) ≤ m)
theorem lets_of {old : List (Option (Int × Int))} {most : Option Int} {c : List (Int × Int)} (h : letsB old most c = true) : Lets old most c := fun m e => by
  subst e
  exact of_decide_eq_true h
/-- what is told of all plans of an ask -/
structure Sound (y : Yard) (cap : Int) (old : List (Option (Int × Int))) (most : Option Int) (ss : List Say) : Prop where
  ok : ∀ s ∈ ss, s.ok y
  all : ∀ c, Crs y cap c → Lets old most c → ss.any (hold c old) = true
theorem any_of {c : List (Int × Int)} {old : List (Option (Int × Int))} {ss : List Say} (s : Say) (h : s ∈ ss) (h2 : hold c old s = true) : ss.any (hold c old) = true := List.any_eq_true.mpr ⟨s, h, h2⟩
theorem Crs.get {y : Yard} {cap : Int} {c : List (Int × Int)} {k : Nat} {v : Wrk} (h : Crs y cap c) (hv : y.works[k]? = some v) : ∃ q, c[k]? = some q ∧ c.getD k (0, 0) = q := by
  have := lt_of_get hv
  have e : c[k]? = some (c[k]'(by rw [h.l]; exact this)) := List.getElem?_eq_getElem _
  exact ⟨_, e, by rw [List.getD, e]; rfl⟩
theorem sound_alone {y : Yard} {cap : Int} {old : List (Option (Int × Int))} {most : Option Int} {k : Nat} {d : Int} {v : Wrk} (hv : y.works[k]? = some v) (h0 : 0 ≤ d) (h1 : d < y.days) : Sound y cap old most (aloneSays y k d cap v) := by
  refine ⟨fun s hs => ?_, fun c hc _ => ?_⟩
  · unfold aloneSays at hs
    rcases List.mem_append.mp hs with h | h
    · rcases List.mem_cons.mp h with rfl | h
      · exact ⟨v, hv, h0, by show d ≤ y.days; omega⟩
      · rw [List.mem_singleton.mp h]
        exact ⟨v, hv, by show 0 ≤ d + 1; omega, by show d + 1 ≤ y.days; omega⟩
    · obtain ⟨m, hm, rfl⟩ := List.mem_map.mp h
      have := List.mem_range.mp (List.mem_filter.mp hm).1
      exact ⟨v, hv, by show (0 : Int) ≤ (m : Nat); omega, by show ((m : Nat) : Int) < _; omega⟩
  · obtain ⟨q, hq, hg⟩ := hc.get hv
    by_cases a1 : q.1 < d
    · exact any_of ⟨.ahd, k, d⟩ (by simp [aloneSays]) (by show decide ((c.getD k (0, 0)).1 < d) = true; rw [hg]; exact decide_eq_true a1)
    · by_cases a2 : q.1 ≥ d + 1
      · exact any_of ⟨.frm, k, d + 1⟩ (by simp [aloneSays]) (by show decide ((c.getD k (0, 0)).1 ≥ d + 1) = true; rw [hg]; exact decide_eq_true a2)
      · obtain ⟨m, m1, m2, m3⟩ := hc.al k q v hq hv
        have e : q.1 = d := by omega
        rw [e] at m3
        exact any_of (wayS k m) (List.mem_append.mpr (.inr (List.mem_map.mpr ⟨m, List.mem_filter.mpr ⟨List.mem_range.mpr m2, m3⟩, rfl⟩))) (by show decide ((c.getD k (0, 0)).2 = ((m : Nat) : Int)) = true; rw [hg]; exact decide_eq_true m1)
theorem endAtK {y : Yard} {pl : List (Int × Int)} {k : Nat} {q : Int × Int} {w : Way} {l : List Int} (hq : pl[k]? = some q) (h : y.at? k q = some (w, l)) (h1 : 1 ≤ w.long) : ∃ z, l.getLast? = some z ∧ y.endAt pl k = z + 1 ∧ 0 ≤ z := by
  obtain ⟨a0, a1, a2, a3, a4⟩ := at_get h
  obtain ⟨z, z1, z2, z3⟩ := endOf_some a4 h1
  have e : y.endAt pl k = z + 1 := by
    unfold Yard.endAt
    rw [hq]
    show (match y.at? k q with | some (w, l) => l.getLastD 0 + 1 | none => 0) = _
    rw [h]
    show l.getLastD 0 + 1 = z + 1
    rw [List.getLastD_eq_getLast?, z1]
    rfl
  have := (go_day a4 z (List.mem_of_getLast? z1)).1
  exact ⟨z, z1, e, by omega⟩
theorem sound_tie {y : Yard} (ho : y.ok) {cap : Int} {old : List (Option (Int × Int))} {most : Option Int} {t : Tie} {d till : Int} {v : Wrk} (ht : t ∈ y.ties) (hd : 0 ≤ d ∧ d < y.days) (hl : 0 ≤ till ∧ till ≤ y.days) (hv : y.works[t.one.toNat]? = some v) : Sound y cap old most (tieSays y t d till t.one.toNat t.other.toNat v) := by
  have tok := ho.ts t ht
  have o0 := tok.o0; have om := tok.om; have p0 := tok.p0; have pm := tok.pm
  obtain ⟨v2, hv2⟩ : ∃ v2, y.works[t.other.toNat]? = some v2 := ⟨_, List.getElem?_eq_getElem (by omega)⟩
  refine ⟨fun s hs => ?_, fun c hc _ => ?_⟩
  · unfold tieSays at hs
    rcases List.mem_append.mp hs with h | h
    · rcases List.mem_cons.mp h with rfl | h
      · exact ⟨v, hv, hd.1, by show d ≤ y.days; omega⟩
      · rw [List.mem_singleton.mp h]
        exact ⟨v2, hv2, hl.1, hl.2⟩
    · obtain ⟨m, hm, rfl⟩ := List.mem_map.mp h
      have := List.mem_range.mp (List.mem_filter.mp hm).1
      exact ⟨v, hv, by show (0 : Int) ≤ (m : Nat); omega, by show ((m : Nat) : Int) < _; omega⟩
  · obtain ⟨a, ha, ga⟩ := hc.get hv
    obtain ⟨b, hb, gb⟩ := hc.get hv2
    by_cases a1 : a.1 < d
    · exact any_of ⟨.ahd, t.one.toNat, d⟩ (by simp [tieSays]) (by show decide ((c.getD t.one.toNat (0, 0)).1 < d) = true; rw [ga]; exact decide_eq_true a1)
    · by_cases a2 : b.1 ≥ till
      · exact any_of ⟨.frm, t.other.toNat, till⟩ (by simp [tieSays]) (by show decide ((c.getD t.other.toNat (0, 0)).1 ≥ till) = true; rw [gb]; exact decide_eq_true a2)
      · obtain ⟨m, m1, m2, m3⟩ := hc.al _ a v ha hv
        have hu : v.ways[m]? = some (wayAt v m) := by unfold wayAt; rw [List.getD, List.getElem?_eq_getElem m2]; rfl
        have hw := way_of hv m2
        have wok := ho.way hw
        have hok := hc.cl.1 t.one.toNat (lt_of_get ha)
        rw [okAt_of ha] at hok
        obtain ⟨v', u', l, e1, e2, e3, e4⟩ := okw_get hok
        obtain ⟨n0, hw', b0, b1, hgo⟩ := at_get e4
        have em : a.2.toNat = m := by omega
        rw [em, hw] at hw'
        cases hw'
        have hbad := hc.cl.2.1 t ht
        unfold Yard.bad at hbad
        rw [ga, gb] at hbad
        have hbad := of_decide_eq_false hbad
        refine any_of ⟨.way, t.one.toNat, (m : Nat)⟩ (List.mem_append.mpr (.inr (List.mem_map.mpr ⟨m, List.mem_filter.mpr ⟨List.mem_range.mpr m2, ?_⟩, rfl⟩))) (by show decide ((c.getD t.one.toNat (0, 0)).2 = ((m : Nat) : Int)) = true; rw [ga]; exact decide_eq_true m1)
        rw [hu]
        show shortT y t (wayAt v m) d till = true
        unfold shortT sinceT
        by_cases hk : t.kind = 1
        · rw [if_pos hk] at hbad ⊢
          obtain ⟨z, z1, z2, z3⟩ := endAtK ha e4 wok.l1
          obtain ⟨z', y1, y2, _⟩ := endOf_some hgo wok.l1
          rw [z1] at y1
          cases y1
          rw [z2] at hbad
          have hmem : z + 1 ∈ y.ends (wayAt v m) d := List.mem_filterMap.mpr ⟨a.1, mem_rngI.mpr (by omega), y2⟩
          cases hf : y.endFrom (wayAt v m) d with
          | none =>
            unfold Yard.endFrom at hf
            rw [List.head?_eq_none_iff] at hf
            rw [hf] at hmem
            cases hmem
          | some e =>
            have := ends_least wok.l1 hf _ hmem
            exact decide_eq_true (by omega)
        · rw [if_neg hk] at hbad ⊢
          exact decide_eq_true (by omega)
theorem prs_old {y : Yard} {cap : Option Int} {old : List (Option (Int × Int))} {most : Option Int} {k : Nat} {q : Int × Int} (h : (askOf y cap old most).prs[k]? = some (some q)) : old[k]? = some (some q) := by
  have h : (if old.length = 0 then List.replicate y.works.length none else old)[k]? = some (some q) := h
  by_cases h0 : old.length = 0
  · rw [if_pos h0, List.getElem?_replicate] at h
    split at h <;> cases h
  · rw [if_neg h0] at h
    exact h
theorem kept_work {y : Yard} {old : List (Option (Int × Int))} {k : Nat} {q : Int × Int} (hk : KeptOk y old) (h : old[k]? = some (some q)) : ∃ v, y.works[k]? = some v := by
  rcases hk with e | ⟨e, _⟩
  · rw [e] at h; cases h
  · have := lt_of_get h
    exact ⟨_, List.getElem?_eq_getElem (by omega)⟩
theorem stay_get {c : List (Int × Int)} {old : List (Option (Int × Int))} {s : Say} {q b : Int × Int} (h : old[s.work]? = some (some q)) (hg : c.getD s.work (0, 0) = b) : stay c old s = decide (q = b) := by
  unfold stay
  rw [h, hg]
  exact eqv_pr q b
theorem sound_kept {y : Yard} (ho : y.ok) {cap : Int} {old : List (Option (Int × Int))} {most : Option Int} {k part : Nat} {q : Int × Int} (hk : KeptOk y old) (hq : old[k]? = some (some q)) : Sound y cap old most (keptSays k q part) := by
  obtain ⟨v, hv⟩ := kept_work hk hq
  obtain ⟨⟨k1, k2⟩, k3, k4⟩ := kept_at hk hq hv
  have s0 : ∀ s : Say, s.work = k → (match s.word with | .frm => 0 ≤ s.num ∧ s.num ≤ y.days | .ahd => 0 ≤ s.num ∧ s.num ≤ y.days | .way => 0 ≤ s.num ∧ s.num < (v.ways.length : Int) | .nt => 0 ≤ s.num ∧ s.num < (v.ways.length : Int) | .sty => s.num = 0 | .mov => s.num = 0) → s.ok y := fun s e h => ⟨v, by rw [e]; exact hv, h⟩
  refine ⟨fun s hs => ?_, fun c hc _ => ?_⟩
  · unfold keptSays at hs
    split at hs
    · rcases List.mem_cons.mp hs with rfl | hs
      · exact s0 _ rfl rfl
      · rw [List.mem_singleton.mp hs]
        exact s0 _ rfl ⟨k1, by show q.1 ≤ y.days; omega⟩
    · rcases List.mem_cons.mp hs with rfl | hs
      · exact s0 _ rfl rfl
      · rw [List.mem_singleton.mp hs]
        exact s0 _ rfl ⟨by show 0 ≤ q.1 + 1; omega, by show q.1 + 1 ≤ y.days; omega⟩
    · rcases List.mem_cons.mp hs with rfl | hs
      · exact s0 _ rfl rfl
      · rw [List.mem_singleton.mp hs]
        exact s0 _ rfl ⟨k3, k4⟩
    · rcases List.mem_cons.mp hs with rfl | hs
      · exact s0 _ rfl rfl
      rcases List.mem_cons.mp hs with rfl | hs
      · exact s0 _ rfl ⟨k1, by show q.1 ≤ y.days; omega⟩
      rcases List.mem_cons.mp hs with rfl | hs
      · exact s0 _ rfl ⟨by show 0 ≤ q.1 + 1; omega, by show q.1 + 1 ≤ y.days; omega⟩
      rw [List.mem_singleton.mp hs]
      exact s0 _ rfl ⟨k3, k4⟩
  · obtain ⟨b, hb, gb⟩ := hc.get hv
    have hst : ∀ w n, stay c old ⟨w, k, n⟩ = decide (q = b) := fun w n => stay_get (s := ⟨w, k, n⟩) hq gb
    have h1 : ∀ n, hold c old ⟨.frm, k, n⟩ = decide (b.1 ≥ n) := fun n => by show decide ((c.getD k (0, 0)).1 ≥ n) = _; rw [gb]
    have h2 : ∀ n, hold c old ⟨.ahd, k, n⟩ = decide (b.1 < n) := fun n => by show decide ((c.getD k (0, 0)).1 < n) = _; rw [gb]
    have h3 : ∀ n, hold c old ⟨.way, k, n⟩ = decide (b.2 = n) := fun n => by show decide ((c.getD k (0, 0)).2 = n) = _; rw [gb]
    have h4 : ∀ n, hold c old ⟨.nt, k, n⟩ = !decide (b.2 = n) := fun n => by show (!decide ((c.getD k (0, 0)).2 = n)) = _; rw [gb]
    have h5 : ∀ n, hold c old ⟨.mov, k, n⟩ = !decide (q = b) := fun n => by show (!stay c old ⟨.mov, k, n⟩) = _; rw [hst]
    have h6 : ∀ n, hold c old ⟨.sty, k, n⟩ = decide (q = b) := fun n => hst .sty n
    unfold keptSays
    split
    · simp only [List.any_cons, List.any_nil, h1, h5]
      by_cases e : q = b
      · subst e; simp
      · simp [e]
    · simp only [List.any_cons, List.any_nil, h2, h5]
      by_cases e : q = b
      · subst e
        rw [decide_eq_true (show q.1 < q.1 + 1 by omega)]; simp
      · simp [e]
    · simp only [List.any_cons, List.any_nil, h3, h5]
      by_cases e : q = b
      · subst e; simp
      · simp [e]
    · simp only [List.any_cons, List.any_nil, h1, h2, h4, h6]
      by_cases e : q = b
      · subst e; simp
      · by_cases e1 : b.1 < q.1
        · simp [e1]
        · by_cases e2 : b.1 ≥ q.1 + 1
          · rw [decide_eq_true e2]; simp
          · by_cases e3 : b.2 = q.2
            · exact absurd (Prod.ext (by omega) e3.symm) e
            · simp [e3]
theorem nodup_len {α : Type} [BEq α] [LawfulBEq α] : ∀ {ks l : List α}, ks.Nodup → (∀ k ∈ ks, k ∈ l) → ks.length ≤ l.length
  | [], _, _, _ => Nat.zero_le _
  | k :: ks, l, nd, h => by
    have h2 := List.nodup_cons.mp nd
    have ih := nodup_len (ks := ks) (l := l.erase k) h2.2 fun x hx => (List.mem_erase_of_ne (fun (e : x = k) => h2.1 (e ▸ hx))).mpr (h x (by simp [hx]))
    rw [List.length_erase_of_mem (h k (by simp))] at ih
    have := List.length_pos_of_mem (h k (by simp))
    rw [List.length_cons]
    omega
theorem sound_few {y : Yard} {cap : Int} {old : List (Option (Int × Int))} {most : Option Int} {ks : List Nat} (hk : KeptOk y old) (hpos : 0 < ks.length) (hpw : ks.Pairwise (· < ·)) (hq : ∀ k ∈ ks, ∃ q, old[k]? = some (some q)) (hm : most = some ((ks.length : Int) - 1)) : Sound y cap old most (ks.map stayS) := by
  refine ⟨fun s hs => ?_, fun c hc hl => ?_⟩
  · obtain ⟨k, hk2, rfl⟩ := List.mem_map.mp hs
    obtain ⟨q, hq2⟩ := hq k hk2
    obtain ⟨v, hv⟩ := kept_work hk hq2
    exact ⟨v, hv, rfl⟩
  · cases h : (ks.map stayS).any (hold c old) with
    | true => rfl
    | false =>
      exfalso
      have hne : old ≠ [] := fun e => by
        cases ks with
        | nil => cases hpos
        | cons k ks =>
          obtain ⟨q, hq2⟩ := hq k (by simp)
          rw [e] at hq2
          cases hq2
      have hall : ∀ k ∈ ks, k ∈ moved old c := fun k hk2 => by
        obtain ⟨q, hq2⟩ := hq k hk2
        obtain ⟨v, hv⟩ := kept_work hk hq2
        obtain ⟨b, hb, gb⟩ := hc.get hv
        have h1 := List.any_eq_false.mp h (stayS k) (List.mem_map.mpr ⟨k, hk2, rfl⟩)
        have h2 : hold c old (stayS k) = decide (q = b) := stay_get (s := stayS k) hq2 gb
        rw [h2] at h1
        unfold moved
        rw [if_neg hne]
        refine List.mem_filter.mpr ⟨List.mem_range.mpr (lt_of_get hb), ?_⟩
        unfold movedB
        rw [hq2]
        show (!PyData.eqv (prP q) (prP (c.getD k (0, 0)))) = true
        rw [gb, eqv_pr]
        simpa using h1
      have h1 := nodup_len (hpw.imp (fun {a b} (z : a < b) => (by omega : a ≠ b))) hall
      have h2 := hl _ hm
      omega
/-! ### stretches -/
theorem sum_nn {f : Nat → Int} (hf : ∀ k, 0 ≤ f k) : ∀ l : List Nat, 0 ≤ (l.map f).sum
  | [] => Int.le_refl _
  | k :: l => by
    rw [List.map_cons, List.sum_cons]
    have := hf k
    have := sum_nn hf l
    omega
theorem sum_erase {f : Nat → Int} {k : Nat} : ∀ {l : List Nat}, k ∈ l → (l.map f).sum = f k + ((l.erase k).map f).sum
  | x :: l, h => by
    by_cases e : x = k
    · subst e
      rw [List.erase_cons_head, List.map_cons, List.sum_cons]
    · have h2 : k ∈ l := by
        rcases List.mem_cons.mp h with z | z
        · exact absurd z.symm e
        · exact z
      rw [List.erase_cons_tail (by simpa using e), List.map_cons, List.map_cons, List.sum_cons, List.sum_cons, sum_erase h2]
      omega
theorem sum_nodup {f : Nat → Int} (hf : ∀ k, 0 ≤ f k) : ∀ {ks l : List Nat}, ks.Nodup → (∀ k ∈ ks, k ∈ l) → (ks.map f).sum ≤ (l.map f).sum
  | [], l, _, _ => sum_nn hf l
  | k :: ks, l, nd, h => by
    have h2 := List.nodup_cons.mp nd
    have ih := sum_nodup hf (ks := ks) (l := l.erase k) h2.2 fun x hx => (List.mem_erase_of_ne (fun (e : x = k) => h2.1 (e ▸ hx))).mpr (h x (by simp [hx]))
    rw [sum_erase (f := f) (h k (by simp)), List.map_cons, List.sum_cons]
    omega
theorem filt_succ (fi : Int) (n : Nat) : ∀ l : List Int, (l.filter fun d => decide (fi ≤ d) && decide (d < fi + ((n + 1 : Nat) : Int))).length = (l.filter fun d => decide (fi ≤ d) && decide (d < fi + (n : Int))).length + l.count (fi + (n : Int))
  | [] => rfl
  | x :: l => by
    have ih := filt_succ fi n l
    rw [List.filter_cons, List.filter_cons, List.count_cons]
    by_cases e : x = fi + (n : Int)
    · subst e
      rw [decide_eq_true (show fi ≤ fi + (n : Int) by omega), decide_eq_true (show fi + (n : Int) < fi + ((n + 1 : Nat) : Int) by omega), decide_eq_false (show ¬ fi + (n : Int) < fi + (n : Int) by omega)]
      simp only [Bool.and_true, Bool.and_false, if_true, BEq.rfl, List.length_cons]
      simp only [Bool.false_eq_true, if_false]
      omega
    · have e2 : (x == fi + (n : Int)) = false := by simpa using e
      rw [e2]
      have e3 : decide (x < fi + ((n + 1 : Nat) : Int)) = decide (x < fi + (n : Int)) := decide_eq_decide.mpr (by omega)
      rw [e3]
      cases decide (fi ≤ x) && decide (x < fi + (n : Int)) with
      | true => simp only [if_true, List.length_cons, Bool.false_eq_true, if_false]; omega
      | false => simp only [Bool.false_eq_true, if_false]; omega
theorem sum_add {α : Type} (f g : α → Int) : ∀ l : List α, (l.map fun x => f x + g x).sum = (l.map f).sum + (l.map g).sum
  | [] => rfl
  | x :: l => by
    rw [List.map_cons, List.map_cons, List.map_cons, List.sum_cons, List.sum_cons, List.sum_cons, sum_add f g l]
    omega
theorem sum_mono {α : Type} {f g : α → Int} : ∀ {l : List α}, (∀ x ∈ l, f x ≤ g x) → (l.map f).sum ≤ (l.map g).sum
  | [], _ => Int.le_refl _
  | x :: l, h => by
    rw [List.map_cons, List.map_cons, List.sum_cons, List.sum_cons]
    have := h x (by simp)
    have := sum_mono (l := l) fun z hz => h z (by simp [hz])
    omega
theorem range_snoc {f : Nat → Int} (n : Nat) : ((List.range (n + 1)).map f).sum = ((List.range n).map f).sum + f n := by
  rw [List.range_succ, List.map_append, List.sum_append]
  simp
theorem cut_sum {row : List Int} {fi : Nat} : ∀ {n : Nat}, fi + n ≤ row.length → (((row.drop fi).take n)).sum = ((List.range n).map fun i => row.getD (fi + i) 0).sum
  | 0, _ => rfl
  | n + 1, h => by
    rw [range_snoc, ← cut_sum (n := n) (by omega), List.take_add_one, List.sum_append]
    congr 1
    rw [List.getElem?_drop, List.getD, List.getElem?_eq_getElem (by omega)]
    simp
/-- how much of s a work of a plan holds between two days -/
def heldP (y : Yard) (c : List (Int × Int)) (s : Nat) (fi : Int) (k n : Nat) : Int := match (c[k]?).bind (y.at? k) with
  | some (w, l) => w.needs.getD s 0 * ((l.filter fun d => decide (fi ≤ d) && decide (d < fi + (n : Int))).length : Nat)
  | none => 0
theorem heldP_succ {y : Yard} {c : List (Int × Int)} {s fi k n : Nat} : heldP y c s (fi : Nat) k (n + 1) = heldP y c s (fi : Nat) k n + y.part c k s (fi + n) := by
  unfold heldP Yard.part
  cases (c[k]?).bind (y.at? k) with
  | none => rfl
  | some p =>
    obtain ⟨w, l⟩ := p
    dsimp only
    rw [filt_succ, ← Int.mul_add]
    congr 1
theorem held_le {y : Yard} (ho : y.ok) {cap : Int} {c : List (Int × Int)} (hc : Crs y cap c) {s fi : Nat} (hs : s < y.stuffs.length) {ks : List Nat} (hn : ks.Nodup) (hk : ∀ k ∈ ks, k < c.length) : ∀ n : Nat, ((fi + n : Nat) : Int) ≤ y.days → (ks.map fun k => heldP y c s (fi : Nat) k n).sum ≤ ((List.range n).map fun i => (y.stuffs.getD s []).getD (fi + i) 0).sum
  | 0, _ => by
    have : ∀ k, heldP y c s (fi : Nat) k 0 = 0 := fun k => by
      unfold heldP
      cases (c[k]?).bind (y.at? k) with
      | none => rfl
      | some p =>
        obtain ⟨w, l⟩ := p
        dsimp only
        have : (l.filter fun d => decide ((fi : Int) ≤ d) && decide (d < (fi : Int) + ((0 : Nat) : Int))) = [] := List.filter_eq_nil_iff.mpr fun d _ => by
          simp only [Bool.and_eq_true, decide_eq_true_eq]
          omega
        rw [this]
        exact Int.mul_zero _
    simp only [this]
    have z : ∀ l : List Nat, (l.map fun _ => (0 : Int)).sum = 0 := fun l => by induction l with | nil => rfl | cons _ _ ih => rw [List.map_cons, List.sum_cons, ih]; rfl
    rw [z]
    exact Int.le_refl _
  | n + 1, h => by
    have ih := held_le ho hc (fi := fi) hs hn hk n (by omega)
    rw [range_snoc]
    have e : (ks.map fun k => heldP y c s (fi : Nat) k (n + 1)) = ks.map fun k => heldP y c s (fi : Nat) k n + y.part c k s (fi + n) := List.map_congr_left fun k _ => heldP_succ
    rw [e, sum_add]
    have h1 : (ks.map fun k => y.part c k s (fi + n)).sum ≤ y.sums c c.length s (fi + n) := sum_nodup (f := fun k => y.part c k s (fi + n)) (fun k => part_nonneg ho) hn fun k hk2 => List.mem_range.mpr (hk k hk2)
    have h2 := over_le.mp (hc.cl.2.2 s (fi + n) hs (by omega))
    omega
theorem there_sum {y : Yard} (ho : y.ok) {s fi n : Nat} (hs : s < y.stuffs.length) (h : ((fi + n : Nat) : Int) ≤ y.days) : there y s (fi : Nat) ((fi + n : Nat) : Int) = ((List.range n).map fun i => (y.stuffs.getD s []).getD (fi + i) 0).sum := by
  have hr := stuff_at hs
  obtain ⟨r1, _⟩ := ho.st _ (List.mem_of_getElem? hr)
  unfold there cutD
  generalize y.stuffs.getD s [] = row at r1 ⊢
  rw [HT.sIx_nat, HT.sIx_nat, Nat.min_eq_left (by omega), Nat.min_eq_left (by omega), show fi + n - fi = n by omega]
  exact cut_sum (by omega)
theorem least_le {y : Yard} {s : Nat} {fi pa : Int} {r : Rw} {d : Int} {m : Nat} {x : Int} (hd : d ∈ r.days) (hm : m ∈ r.ways) (h : heldO y s fi pa r.work m d = some x) : ∃ z, r.least y s fi pa = some z ∧ z ≤ x := by
  have hx : x ∈ (r.helds y s fi pa).filterMap id := List.mem_filterMap.mpr ⟨some x, List.mem_flatMap.mpr ⟨d, hd, List.mem_map.mpr ⟨m, hm, h⟩⟩, rfl⟩
  cases e : r.least y s fi pa with
  | none => rw [minO_none.mp e] at hx; cases hx
  | some z => exact ⟨z, rfl, (minO_iff.mp e).2 x hx⟩
theorem sound_stretch {y : Yard} (ho : y.ok) {cap : Int} {old : List (Option (Int × Int))} {most : Option Int} {s : Nat} {fi pa : Int} {rs : List Rw} (hi : StIn y s fi pa rs) (ht : tooM y s fi pa rs = true) : Sound y cap old most (stretchS y rs) := by
  refine ⟨fun t hs => ?_, fun c hc _ => ?_⟩
  · obtain ⟨r, hr, hs⟩ := List.mem_flatMap.mp hs
    have rok := hi.rs.ok r hr
    have r0 := rok.l0; have r1 := rok.lh; have r2 := rok.hd
    unfold outS at hs
    rcases List.mem_append.mp hs with h | h
    · rcases List.mem_cons.mp h with rfl | h
      · exact ⟨_, rok.w, rok.l0, by show r.low ≤ y.days; omega⟩
      · rw [List.mem_singleton.mp h]
        exact ⟨_, rok.w, by show 0 ≤ r.high; omega, rok.hd⟩
    · obtain ⟨m, hm, rfl⟩ := List.mem_map.mp h
      have := List.mem_range.mp (List.mem_filter.mp hm).1
      exact ⟨_, rok.w, by show (0 : Int) ≤ (m : Nat); omega, by show ((m : Nat) : Int) < _; omega⟩
  · cases h : (stretchS y rs).any (hold c old) with
    | true => rfl
    | false =>
      exfalso
      have hf := List.any_eq_false.mp h
      have f0 := hi.f0; have fp := hi.fp; have pd := hi.pd
      have ef : ((fi.toNat : Nat) : Int) = fi := by omega
      have key : ∀ r ∈ rs, ∃ z, r.least y s fi pa = some z ∧ z ≤ heldP y c s ((fi.toNat : Nat) : Int) r.work (pa - fi).toNat := fun r hr => by
        have rok := hi.rs.ok r hr
        obtain ⟨q, hq, gq⟩ := hc.get rok.w
        obtain ⟨m, m1, m2, m3⟩ := hc.al r.work q _ hq rok.w
        have out : ∀ t ∈ outS y r, ¬ hold c old t = true := fun t ht => hf t (List.mem_flatMap.mpr ⟨r, hr, ht⟩)
        have a1 : ¬ q.1 < r.low := fun z => out ⟨.ahd, r.work, r.low⟩ (by simp [outS]) (by show decide ((c.getD r.work (0, 0)).1 < r.low) = true; rw [gq]; exact decide_eq_true z)
        have a2 : ¬ q.1 ≥ r.high := fun z => out ⟨.frm, r.work, r.high⟩ (by simp [outS]) (by show decide ((c.getD r.work (0, 0)).1 ≥ r.high) = true; rw [gq]; exact decide_eq_true z)
        have a3 : m ∈ r.ways := by
          cases hcm : r.ways.contains m with
          | true => simpa using hcm
          | false => exact absurd (show hold c old (wayS r.work m) = true by show decide ((c.getD r.work (0, 0)).2 = ((m : Nat) : Int)) = true; rw [gq]; exact decide_eq_true m1) (out (wayS r.work m) (List.mem_append.mpr (.inr (List.mem_map.mpr ⟨m, List.mem_filter.mpr ⟨List.mem_range.mpr m2, by rw [hcm]; rfl⟩, rfl⟩))))
        have hok := hc.cl.1 r.work (lt_of_get hq)
        rw [okAt_of hq] at hok
        obtain ⟨v', u, l, e1, e2, e3, e4⟩ := okw_get hok
        obtain ⟨n0, hw', b0, b1, hgo⟩ := at_get e4
        have em : q.2.toNat = m := by omega
        rw [em] at hw'
        have hh : heldO y s fi pa r.work m q.1 = some (heldP y c s ((fi.toNat : Nat) : Int) r.work (pa - fi).toNat) := by
          have e5 : (c[r.work]?).bind (y.at? r.work) = some (u, l) := by rw [hq]; exact e4
          unfold heldO heldP Yard.held
          rw [hw', e5]
          dsimp only
          rw [hgo, ef, show fi + (((pa - fi).toNat : Nat) : Int) = pa by omega]
          rfl
        exact least_le (mem_rngI.mpr (by omega)) a3 hh
      unfold tooM at ht
      have hno : (rs.any fun r => (r.least y s fi pa).isNone) = false := by
        rw [List.any_eq_false]
        intro r hr
        obtain ⟨z, hz, _⟩ := key r hr
        rw [hz]
        exact Bool.false_ne_true
      rw [hno, Bool.false_or] at ht
      have ht := of_decide_eq_true ht
      have h1 : (rs.map fun r => (r.least y s fi pa).getD 0).sum ≤ (rs.map fun r => heldP y c s ((fi.toNat : Nat) : Int) r.work (pa - fi).toNat).sum := sum_mono fun r hr => by
        obtain ⟨z, hz, hz2⟩ := key r hr
        rw [hz]
        exact hz2
      have hnd : (rs.map Rw.work).Nodup := List.pairwise_map.mpr (hi.rs.pw.imp fun {a b} z => by omega)
      have hlt : ∀ k ∈ rs.map Rw.work, k < c.length := fun k hk => by
        obtain ⟨r, hr, rfl⟩ := List.mem_map.mp hk
        have := lt_of_get (hi.rs.ok r hr).w
        rw [hc.l]
        exact this
      have h2 : (rs.map fun r => heldP y c s ((fi.toNat : Nat) : Int) r.work (pa - fi).toNat).sum ≤ ((List.range (pa - fi).toNat).map fun i => (y.stuffs.getD s []).getD (fi.toNat + i) 0).sum := by
        have := held_le ho hc (fi := fi.toNat) hi.s hnd hlt (pa - fi).toNat (by omega)
        rw [List.map_map] at this
        exact this
      have h3 := there_sum ho (fi := fi.toNat) (n := (pa - fi).toNat) hi.s (by omega)
      rw [ef, show ((fi.toNat + (pa - fi).toNat : Nat) : Int) = pa by omega] at h3
      rw [h3] at ht
      exact absurd (Int.lt_of_lt_of_le ht (Int.le_trans h1 h2)) (Int.lt_irrefl _)
/-! ### reasons -/
def RsnIn (a : Ask) (word : Str) (ds : List PyData) : Prop :=
  (word = "alone" ∧ ∃ (k : Nat) (d : Int) (v : Wrk), ds = [.int k, .int d] ∧ a.y.works[k]? = some v ∧ 0 ≤ d ∧ d < a.y.days) ∨
  (word = "tie" ∧ ∃ (k : Nat) (t : Tie) (d till : Int), ds = [.int k, .int d, .int till] ∧ a.y.ties[k]? = some t ∧ (0 ≤ d ∧ d < a.y.days) ∧ (0 ≤ till ∧ till ≤ a.y.days)) ∨
  (word = "stretch" ∧ ∃ (s : Nat) (fi pa : Int) (rs : List Rw), ds = stD s fi pa rs ∧ StIn a.y s fi pa rs) ∨
  (word = "kept" ∧ ∃ (k : Nat) (q : Int × Int) (part : Nat), ds = [.int k, .int part] ∧ a.prs[k]? = some (some q) ∧ part < 4) ∨
  (word = "few" ∧ ∃ ks : List Nat, ds = intsN ks ∧ ks.length ≤ 6 ∧ ks.Pairwise (· < ·) ∧ ∀ k ∈ ks, ∃ q, a.prs[k]? = some (some q))
/-- no work at all -/
def AloneNo : Ask → List PyData → Prop := fun a ds => ds = [.int 0, .int 0] ∧ a.y.works = []
def FbearsY (word : Str) (In : Ask → List PyData → List Say → Prop) : FSX := fun as Q _ => Fbears word In as Q
/-- a line that holds of all plans of the ask, or none -/
def FbearsA : FSX := fun as Q E => ∃ (y : Yard) (word : Str) (ds : List PyData) (cap : Int) (old : List (Option (Int × Int))) (most : Option Int), as = [.dat y.e, .dat (.tuple (.str word :: ds)), .dat (.int cap), .dat (eOld old), .dat (eO most)] ∧ AskIn y (some cap) old most ∧ RsnIn (askOf y (some cap) old most) word ds ∧ (∀ ss, ss.length ≤ 63 → Sound y cap old most ss → Q (lineE ss)) ∧ E "NoLine" [("word", .str "noline")]
def FbearsU : FSX := fun as Q E => FbearsA as Q E ∨ FbearsX "alone" AloneNo as Q E
theorem tieSays_len {y : Yard} {t : Tie} {d till : Int} {a b : Nat} {v : Wrk} (h : v.ways.length ≤ 3) : (tieSays y t d till a b v).length ≤ 5 := by
  unfold tieSays
  rw [List.length_append, List.length_map]
  refine Nat.le_trans (Nat.add_le_add_left (List.length_filter_le _ _) 2) ?_
  rw [List.length_range]
  omega
theorem fn_up {P : Program} {w : World} {K : PySem.W.Frag} {mg : Str → Option Value} {base : Heap} {CX : CXT} {k k' : Nat} {f : Addr} {fd : FuncData} {ps : List Str} {sp : Sp} (F : FnOk P w K mg base CX k f fd ps sp) (h : k ≤ k') : FnOk P w K mg base CX k' f fd ps sp :=
  ⟨F.len, fun A outer s H args us vs Q E hr => F.run A outer s H args us vs Q E (hr.mono h)⟩
theorem ok_bearsU {P : Program} {w : World} {K : PySem.W.Frag} {mg : Str → Option Value} {base : Heap} {CX : CXT} {k : Nat} {f : Addr} {fd : FuncData} {ps : List Str}
    (Ga : FnOk P w K mg base CX k f fd ps (spX K mg false (FbearsY "alone" AloneIn))) (Gt : FnOk P w K mg base CX k f fd ps (spX K mg false (FbearsY "tie" TieIn))) (Gs : FnOk P w K mg base CX k f fd ps (spX K mg false (FbearsY "stretch" StretchIn))) (Gk : FnOk P w K mg base CX k f fd ps (spX K mg false (FbearsY "kept" KeptIn))) (Gf : FnOk P w K mg base CX k f fd ps (spX K mg false (FbearsY "few" FewIn)))
    (Gsn : FnOk P w K mg base CX k f fd ps (spX K mg false (FbearsX "stretch" StretchNo))) (Gfn : FnOk P w K mg base CX k f fd ps (spX K mg false (FbearsX "few" FewNo))) (Gan : FnOk P w K mg base CX k f fd ps (spX K mg false (FbearsX "alone" AloneNo))) : FnOk P w K mg base CX k f fd ps (spX K mg false FbearsU) :=
  (fn_or Ga (fn_or Gt (fn_or Gs (fn_or Gk (fn_or Gf (fn_or Gsn (fn_or Gfn Gan))))))).imp fun vs H Q E ⟨S, B, as, Q2, E2, g, r, hF, k⟩ => by
    rcases hF with ⟨y, word, ds, cap, old, most, e, ha, hr, q1, q2⟩ | hF
    · have ho := ha.yo
      rcases hr with ⟨rfl, k', d, v, rfl, hv, h0, h1⟩ | ⟨rfl, k', t, d, till, rfl, ht, hd, hl⟩ | ⟨rfl, s, fi, pa, rs, rfl, hi⟩ | ⟨rfl, k', q, part, rfl, hq, hp⟩ | ⟨rfl, ks, rfl, hk6, hpw, hq⟩
      · have hv : y.works[k']? = some v := hv
        have hlen := aloneSays_len (y := y) (k := k') (d := d) (cap := cap) (ho.ws v (List.mem_of_getElem? hv)).w3
        exact .inl ⟨S, B, as, Q2, E2, g, r, ⟨y, _, some cap, old, most, _, e, ha, ⟨k', d, v, rfl, hv, ⟨h0, h1⟩, rfl⟩, by show (aloneSays y k' d cap v).length ≤ 63; omega, q1 _ (by show (aloneSays y k' d cap v).length ≤ 63; omega) (sound_alone hv h0 h1)⟩, k⟩
      · have ht : y.ties[k']? = some t := ht
        have tok := ho.ts t (List.mem_of_getElem? ht)
        have o0 := tok.o0; have om := tok.om
        obtain ⟨v, hv⟩ : ∃ v, y.works[t.one.toNat]? = some v := ⟨_, List.getElem?_eq_getElem (by omega)⟩
        have hlen := tieSays_len (y := y) (t := t) (d := d) (till := till) (a := t.one.toNat) (b := t.other.toNat) (ho.ws v (List.mem_of_getElem? hv)).w3
        exact .inr (.inl ⟨S, B, as, Q2, E2, g, r, ⟨y, _, some cap, old, most, _, e, ha, ⟨k', t, d, till, v, rfl, ht, hd, hl, hv, rfl⟩, by show (tieSays y t d till t.one.toNat t.other.toNat v).length ≤ 63; omega, q1 _ (by show (tieSays y t d till t.one.toNat t.other.toNat v).length ≤ 63; omega) (sound_tie ho (List.mem_of_getElem? ht) hd hl hv)⟩, k⟩)
      · have hi : StIn y s fi pa rs := hi
        have hsl := stretchS_len ho hi.rs.ok
        have l6 := hi.rs.l6
        cases ht : tooM y s fi pa rs with
        | true => exact .inr (.inr (.inl ⟨S, B, as, Q2, E2, g, r, ⟨y, _, some cap, old, most, _, e, ha, ⟨s, fi, pa, rs, rfl, hi, ht, rfl⟩, by show (stretchS y rs).length ≤ 63; omega, q1 _ (by show (stretchS y rs).length ≤ 63; omega) (sound_stretch ho hi ht)⟩, k⟩))
        | false => exact .inr (.inr (.inr (.inr (.inr (.inl ⟨S, B, as, Q2, E2, g, r, ⟨y, _, some cap, old, most, e, ha, ⟨s, fi, pa, rs, rfl, hi, ht⟩, q2⟩, k⟩)))))
      · have hlen := keptSays_len k' q part
        exact .inr (.inr (.inr (.inl ⟨S, B, as, Q2, E2, g, r, ⟨y, _, some cap, old, most, _, e, ha, ⟨k', q, part, rfl, hq, hp, rfl⟩, by show (keptSays k' q part).length ≤ 63; omega, q1 _ (by show (keptSays k' q part).length ≤ 63; omega) (sound_kept ho ha.k (prs_old hq))⟩, k⟩)))
      · by_cases hm : most = some ((ks.length : Int) - 1)
        · have hpos : 0 < ks.length := by
            have := (ha.m _ hm).1
            omega
          have hlen : (ks.map stayS).length ≤ 63 := by rw [List.length_map]; omega
          exact .inr (.inr (.inr (.inr (.inl ⟨S, B, as, Q2, E2, g, r, ⟨y, _, some cap, old, most, _, e, ha, ⟨ks, rfl, hpos, hk6, hpw, hq, hm, rfl⟩, hlen, q1 _ hlen (sound_few ha.k hpos hpw (fun k hk => by obtain ⟨q, hq2⟩ := hq k hk; exact ⟨q, prs_old hq2⟩) hm)⟩, k⟩))))
        · exact .inr (.inr (.inr (.inr (.inr (.inr (.inl ⟨S, B, as, Q2, E2, g, r, ⟨y, _, some cap, old, most, e, ha, ⟨ks, rfl, hk6, fun m e2 z => hm (by rw [show most = some m from e2]; congr 1; omega)⟩, q2⟩, k⟩))))))
    · exact .inr (.inr (.inr (.inr (.inr (.inr (.inr ⟨S, B, as, Q2, E2, g, r, hF, k⟩))))))
/-! ### a list, once or not at all -/
def gRep1 : G2 := fun _ a b Q => match a, b with | .dat (.list xs), .dat (.int k) => (0 ≤ k ∧ k ≤ 1) ∧ xs.length ≤ 100000 ∧ Q (.dat (.list (List.replicate k.toNat xs).flatten)) | _, _ => False
theorem r_rep1 {K : PySem.W.Frag} : RW K rRep gRep1 := fun S B x y H μ a b Q Q2 gd ra rb q k => by
  cases ra with
  | dat ra =>
    cases ra with
    | @lst p xs ds h1 h2 =>
      cases rb with
      | dat rb =>
        cases rb with
        | int i =>
          obtain ⟨q1, q2, q⟩ := q
          refine ⟨p, i, xs, rfl, rfl, off_same _ _ h1, by omega, by omega, ?_, fun l nl => ?_⟩
          · rw [h2.len]
            exact big (Nat.le_trans (Nat.mul_le_mul q2 (show i.toNat ≤ 1 by omega)) (by decide))
          obtain ⟨b1, b2⟩ := gd.free nl
          exact k _ _ _ (.new nl) (gd.new nl) (.dat (.lst (off_upd b1 b2) ((rps_flat h2 _).mono ((Ex.new nl).off gd) _ _))) (fun z _ e _ => by cases e; exact nl) q
        | _ => exact q.elim
      | _ => exact q.elim
    | _ => exact q.elim
  | _ => exact q.elim
theorem ev_rep1 {ρ : Rho} {μ : Mem} {wa wb : WE} {ds : List PyData} {b : Bool} (h1 : Evs wa ρ μ (.dat (.list ds))) (h2 : Evs wb ρ μ (.dat (.int (if b then 1 else 0)))) (hl : ds.length ≤ 100000) : Evs (wOp gRep1 wa wb) ρ μ (.dat (.list (if b = true then ds else []))) := fun Q q => h1 _ (h2 _ ⟨by cases b <;> exact ⟨by decide, by decide⟩, hl, by
  cases b with
  | true =>
    show Q (.dat (.list (List.replicate 1 ds).flatten))
    rw [List.replicate_one, List.flatten_singleton]
    exact q
  | false => exact q⟩)
theorem wd_inj {a b : Wd} (h : a.s = b.s) : a = b := by cases a <;> cases b <;> first | rfl | exact absurd h (by decide)
theorem line_full (ss : List Say) : ∃ ts : List Say, lineE ss = .tuple (ts.map Say.e) ∧ (∀ t ∈ ts, t ∈ ss) ∧ (∀ s ∈ ss, s ∈ ts) ∧ ts.length ≤ ss.length := by
  obtain ⟨ts, e1, e2, e3, _⟩ := line_says ss
  refine ⟨ts, by unfold lineE; rw [e1, map_kT], e2, fun s hs => ?_, e3⟩
  have h : s.k ∈ lineK ss := ord_mem.mpr (List.mem_map.mpr ⟨s, hs, rfl⟩)
  rw [e1] at h
  obtain ⟨t, ht, e⟩ := List.mem_map.mp h
  obtain ⟨a1, a2, a3⟩ := k_inj e
  have : t = s := by
    cases t; cases s
    have b1 := wd_inj a1
    dsimp only at a2 a3 b1
    subst a2 a3 b1
    rfl
  rw [← this]
  exact ht
end Hv

set_option Elab.async false
set_option linter.all false
set_option maxRecDepth 100000
/-! defs that make lambdas, called by others -/
namespace Hv
open PySem PySem.Spec PyProof.Rows L2 Hod LamX NdefX
/-- spD, and the tables of L are among those that may change -/
def spDT (K : PySem.W.Frag) (L : List (Addr × Str)) (fr : Bool) (F : FS) : Sp := fun vs H Q _ => ∃ S B as Q2, (∀ p ∈ L, HasT S p.1 p.2) ∧ Good K S B emp H ∧ Ras K S emp (off B emp H) vs as ∧ F as Q2 ∧
  ∀ v H' d, Ex S H H' → Good K S B emp H' → Rp K (off B emp H') v d → (fr = true → ∀ p ds, v = .ref p → d = .list ds → H p = none) → Q2 d → Q v H'
theorem wF_okT {K : PySem.W.Frag} {S : Hs} {B : Hid} {μ : Mem} {H : Hp} {L : List (Addr × Str)} {fr : Bool} {F : FS} {as : List A} {vs : List V} {Q : VK} {Q2 : A → Prop} {E : XK} (hT : ∀ p ∈ L, HasT S p.1 p.2) (g : Good K S B μ H) (rs : Ras K S μ (off B μ H) vs as) (h : wF F μ as Q2)
    (k : ∀ v H' a, Ex S H H' → Good K S B μ H' → Ra K S μ (off B μ H') v a → (fr = true → ∀ p ds, v = .ref p → a = .dat (.list ds) → H p = none) → Q2 a → Q v H') : spDT K L fr F vs H Q E := by
  unfold wF at h
  split at h
  · rename_i no
    refine ⟨S, Hv.hide B μ, as, _, hT, g.hide, by rw [off_hide]; exact ras_noOwn rs no, h, fun v H' d ex g2 r n q => ?_⟩
    rw [off_hide] at r
    exact k v H' _ ex (g.step ex g2) (.dat r) (fun f p ds e1 e2 => n f p ds e1 (A.dat.inj e2)) q
  · split at h
    · rename_i bs hb
      refine ⟨S, B, bs, _, hT, g.open, ras_rsv g rs hb, h, fun v H' d ex g2 r n q => ?_⟩
      obtain ⟨r1, r2⟩ := flat_any (G2 := off B μ H') r q.1
      exact k v H' _ ex (g.step ex g2) (.dat r1) (fun f p ds e1 e2 => absurd e1 (r2 p)) q.2
    · exact h.elim
section
variable {X : Cx} {xl : XLT X.K} {k : Nat} {f : Addr} {fd : FuncData} {ps ks : List Str} {fr : Bool} {F : FS} {L : List (Addr × Str)} {x : Str} {p pos : Pos} {e : Expr} {es : List Expr} {u uk : WA}
theorem ve_callT (G : FnOk X.prog X.w X.K X.mg X.base CX0 k f fd ps (spDT X.K L fr F)) (hr : Room k X.A) (hg : Gl X x) (hm : X.mg x = some (.ref f)) (hk : PySem.W.keepIn X.K (.ref f) = true) (hb : Binds X.K fd ps []) (ha : VA X xl (e :: es) u)
    (hdb : (x == ("__debug__" : Str)) = false := by decide) (he : starEach (e :: es) X.env = (false, eval e X.env) :: starEach es X.env := by rfl) (hpl : (backTo pos (starEach es X.env)).any (·.1) = false := by rfl)
    (hx : ∀ S B μ σ H, xl.p S B μ σ H → ∀ p ∈ L, HasT S p.1 p.2 := by intro S B μ σ H h; first | exact h | (intro p hp; exact h p (by first | assumption | exact List.Mem.tail _ hp))) : VE X xl (.Call (.Name x p) (e :: es) [] pos) (wCall F u) := by
  refine pe_weak (pe_call G hr hg hm hk hb .nil (E := E0) pass0 ha hdb he hpl) fun σ H Q ⟨S, B, ρ, μ, Q2, st, w, k⟩ => ⟨S, B, ρ, μ, _, st, w, fun vs H1 as e1 g1 rs q1 => ?_⟩
  show spDT X.K L fr F (vs ++ []) H1 Q E0
  rw [List.append_nil]
  exact wF_okT (hx _ _ _ _ _ st.xl) g1 rs q1 fun v H2 a e2 g2 r2 _ q2 => k v H2 a (e1.trans e2) g2 r2 q2
end
/-- a def that makes lambdas, by its body -/
theorem fnDT {P : Program} {w : World} {K : PySem.W.Frag} {mg : Str → Option Value} {base : Heap} {x qual : Str} {st : Stmt} {f c : Addr} {dV kV doc pm ct oc : Value} {an od : Option Addr} {osl : Array (Option Value)} {N ps : List Str} {k : Nat} {fr : Bool} {F : FS} {W : WS} {L : List (Addr × Str)}
    (lk : K.lookup f = some ⟨oc, od, .func (PySem.W.fnOf x qual (defArgs st) (defBody st) (defScope st) dV kV doc pm an (.ref c) ct), osl⟩) (hcd : PySem.W.codeIn K (.ref c) qual = true) (Sc : FnScope N ps (defScope st)) (len : ∀ as Q, F as Q → as.length = ps.length)
    (hbody : ∀ (A : Around) (outer : List Env) (s : Shared) (H : Hp) (E : XK), Room k (A.deeper (envOfC qual (defScope st) s.heap.objs.size f (.ref c))) → VSs (cxOf CX0 P w K mg base N qual (defScope st) f (.ref c) A outer s H E).nox (xlTs L) (defBody st) W)
    (hw : ∀ as Q, F as Q → W { nx := fun _ _ => Q .none, rt := Q, fr := fr } (startA N as) emp) : FnOk P w K mg base CX0 (k + 1) f (PySem.W.fnOf x qual (defArgs st) (defBody st) (defScope st) dV kV doc pm an (.ref c) ct) ps (spDT K L fr F) := by
  refine ok_code lk hcd Sc (fun vs H Q E h => ?_) (fun A outer s H vs Q E hr h => ?_)
  · obtain ⟨S, B, as, Q2, _, _, h2, h3, _⟩ := h
    rw [h2.len]
    exact len _ _ h3
  · obtain ⟨S, B, as, Q2, h0, h1, h2, h3, h4⟩ := h
    refine ⟨_, hbody A outer s H E hr, S, B, H, off B emp H, startA N as, emp, _, .of h1 ?_ .refl (fun _ _ => rfl) (Same.refl _) (fun _ _ _ _ _ => h0), hw as Q2 h3, ⟨?_, ?_, ?_, ?_, fun _ _ _ _ _ _ _ q => q.elim⟩⟩
    · have q := Sls.start (N.length - vs.length) h2
      unfold L2.start startA
      rw [h2.len] at q ⊢
      exact q
    · intro σ' H' ρ' μ' z q
      exact h4 _ _ _ z.old z.st.gd.open .non (fun _ _ _ e => nomatch e) q
    · exact fun _ _ _ _ _ q => q.elim
    · exact fun _ _ _ _ _ q => q.elim
    · exact fun v H' d e g r n q => h4 v H' d e g r n q
end Hv

set_option Elab.async false
set_option linter.all false
set_option maxRecDepth 100000
/-! lines tell the rules -/
namespace Hv
open PySem PySem.Spec PyProof.Rows L2 Hod
/-- a list of pairs within the works' bounds -/
structure Wit (y : Yard) (c : List (Int × Int)) : Prop where
  l : c.length = y.works.length
  b : ∀ (k : Nat) (q : Int × Int) (v : Wrk), c[k]? = some q → y.works[k]? = some v → v.low ≤ q.1 ∧ q.1 < v.high ∧ ∃ m : Nat, q.2 = m ∧ m < v.ways.length
def rwOf (c : List (Int × Int)) (k : Nat) : Rw := ⟨k, (c.getD k (0, 0)).1, (c.getD k (0, 0)).1 + 1, [(c.getD k (0, 0)).2.toNat]⟩
def rwsOf (c : List (Int × Int)) : List Rw := (List.range c.length).map (rwOf c)
structure AllHold (y : Yard) (cap : Int) (c : List (Int × Int)) : Prop where
  a : ∀ (k : Nat) (v : Wrk) (d : Int), y.works[k]? = some v → 0 ≤ d → d < y.days → (aloneSays y k d cap v).any (hold c []) = true
  t : ∀ (t : Tie) (d till : Int) (v : Wrk), t ∈ y.ties → y.works[t.one.toNat]? = some v → (0 ≤ d ∧ d < y.days) → (0 ≤ till ∧ till ≤ y.days) → (tieSays y t d till t.one.toNat t.other.toNat v).any (hold c []) = true
  s : ∀ (s : Nat) (d : Int), s < y.stuffs.length → 0 ≤ d → d < y.days → tooM y s d (d + 1) (rwsOf c) = true → (stretchS y (rwsOf c)).any (hold c []) = true
theorem Wit.get {y : Yard} {c : List (Int × Int)} {k : Nat} {v : Wrk} (h : Wit y c) (hv : y.works[k]? = some v) : ∃ q, c[k]? = some q ∧ c.getD k (0, 0) = q := by
  have := lt_of_get hv
  have e : c[k]? = some (c[k]'(by rw [h.l]; exact this)) := List.getElem?_eq_getElem _
  exact ⟨_, e, by rw [List.getD, e]; rfl⟩
theorem lt_nope {a : Int} {P : Prop} (h : decide (a < a) = true) : P := absurd (of_decide_eq_true h) (Int.lt_irrefl _)
theorem endFrom_at {y : Yard} {u : Way} {b e : Int} (h : y.endOf u b = some e) (hb : b < y.days) : y.endFrom u b = some e := by
  unfold Yard.endFrom Yard.ends rngI
  obtain ⟨n, hn⟩ : ∃ n, (y.days - b).toNat = n + 1 := ⟨(y.days - b).toNat - 1, by omega⟩
  rw [hn, List.range_succ_eq_map, List.map_cons, List.filterMap_cons_some (b := e)]
  · rfl
  · show y.endOf u (b + ((0 : Nat) : Int)) = some e
    rw [show b + ((0 : Nat) : Int) = b by omega]
    exact h
theorem minO_one (x : Int) : minO [x] = some x := rfl
theorem filt_none {l : List Int} {e : Int} : (l.filter fun d => decide (e ≤ d) && decide (d < e + ((0 : Nat) : Int))) = [] := List.filter_eq_nil_iff.mpr fun d _ => by
  simp only [Bool.and_eq_true, decide_eq_true_eq]
  omega
theorem heldP_one {y : Yard} {c : List (Int × Int)} {s e k : Nat} : heldP y c s (e : Nat) k 1 = y.part c k s e := by
  rw [heldP_succ (n := 0), Nat.add_zero]
  have : heldP y c s (e : Nat) k 0 = 0 := by
    unfold heldP
    cases (c[k]?).bind (y.at? k) with
    | none => rfl
    | some p =>
      obtain ⟨w, l⟩ := p
      dsimp only
      rw [filt_none]
      exact Int.mul_zero _
  rw [this]
  omega
/-- where all lines hold, the rules are kept -/
theorem crs_allhold {y : Yard} (ho : y.ok) {cap : Int} {c : List (Int × Int)} (hw : Wit y c) (h : AllHold y cap c) : Crs y cap c := by
  have al : ∀ (k : Nat) (q : Int × Int) (v : Wrk), c[k]? = some q → y.works[k]? = some v → ∃ m : Nat, q.2 = m ∧ m < v.ways.length ∧ alone y (wayAt v m) q.1 cap = true := by
    intro k q v hq hv
    obtain ⟨b1, b2, m, e1, e2⟩ := hw.b k q v hq hv
    have vok := ho.ws v (List.mem_of_getElem? hv)
    have := vok.l0; have := vok.hd
    have g : c.getD k (0, 0) = q := by rw [List.getD, hq]; rfl
    obtain ⟨s, hs, hh⟩ := List.any_eq_true.mp (h.a k v q.1 hv (by omega) (by omega))
    unfold aloneSays at hs
    rcases List.mem_append.mp hs with hs | hs
    · rcases List.mem_cons.mp hs with rfl | hs
      · have hh : decide ((c.getD k (0, 0)).1 < q.1) = true := hh
        rw [g] at hh
        exact lt_nope hh
      · rw [List.mem_singleton.mp hs] at hh
        have hh : decide ((c.getD k (0, 0)).1 ≥ q.1 + 1) = true := hh
        rw [g] at hh
        have := of_decide_eq_true hh
        omega
    · obtain ⟨m2, hm, rfl⟩ := List.mem_map.mp hs
      obtain ⟨hm1, hm2⟩ := List.mem_filter.mp hm
      have hh : decide ((c.getD k (0, 0)).2 = ((m2 : Nat) : Int)) = true := hh
      rw [g] at hh
      exact ⟨m2, of_decide_eq_true hh, List.mem_range.mp hm1, hm2⟩
  have att : ∀ (k : Nat) (q : Int × Int) (v : Wrk), c[k]? = some q → y.works[k]? = some v → ∃ (m : Nat) (l : List Int), q.2 = m ∧ m < v.ways.length ∧ y.way? k m = some (wayAt v m) ∧ y.go (wayAt v m) q.1 = some l ∧ y.at? k q = some (wayAt v m, l) := by
    intro k q v hq hv
    obtain ⟨m, m1, m2, m3⟩ := al k q v hq hv
    obtain ⟨b1, b2, _⟩ := hw.b k q v hq hv
    have vok := ho.ws v (List.mem_of_getElem? hv)
    have := vok.l0; have := vok.hd
    unfold alone at m3
    cases hg : y.go (wayAt v m) q.1 with
    | none => rw [hg] at m3; cases m3
    | some l =>
      have e : q = (q.1, (m : Int)) := Prod.ext rfl m1
      exact ⟨m, l, m1, m2, way_of hv m2, hg, by rw [e]; exact at_of (way_of hv m2) (by omega) (by omega) hg⟩
  refine ⟨hw.l, ⟨fun k hk => ?_, fun t ht => ?_, fun s e hs he => ?_⟩, al⟩
  · obtain ⟨v, hv⟩ : ∃ v, y.works[k]? = some v := ⟨_, List.getElem?_eq_getElem (by rw [← hw.l]; exact hk)⟩
    obtain ⟨q, hq, _⟩ := hw.get hv
    obtain ⟨m, l, _, _, _, _, e4⟩ := att k q v hq hv
    obtain ⟨b1, b2, _⟩ := hw.b k q v hq hv
    rw [okAt_of hq]
    unfold okw
    rw [hv]
    show (decide (v.low ≤ q.1) && decide (q.1 < v.high) && (y.at? k q).isSome) = true
    rw [decide_eq_true b1, decide_eq_true b2, e4]
    rfl
  · cases hb : y.bad c t with
    | false => rfl
    | true =>
      exfalso
      have tok := ho.ts t ht
      have o0 := tok.o0; have om := tok.om; have p0 := tok.p0; have pm := tok.pm
      obtain ⟨v, hv⟩ : ∃ v, y.works[t.one.toNat]? = some v := ⟨_, List.getElem?_eq_getElem (by omega)⟩
      obtain ⟨v2, hv2⟩ : ∃ v2, y.works[t.other.toNat]? = some v2 := ⟨_, List.getElem?_eq_getElem (by omega)⟩
      obtain ⟨a, ha, ga⟩ := hw.get hv
      obtain ⟨b, hbb, gb⟩ := hw.get hv2
      obtain ⟨a1, a2, _⟩ := hw.b _ a v ha hv
      obtain ⟨b1, b2, _⟩ := hw.b _ b v2 hbb hv2
      have vok := ho.ws v (List.mem_of_getElem? hv)
      have vok2 := ho.ws v2 (List.mem_of_getElem? hv2)
      have := vok.l0; have := vok.hd; have := vok2.l0; have := vok2.hd
      unfold Yard.bad at hb
      rw [ga, gb] at hb
      have hb := of_decide_eq_true hb
      obtain ⟨s, hs, hh⟩ := List.any_eq_true.mp (h.t t a.1 (b.1 + 1) v ht hv ⟨by omega, by omega⟩ ⟨by omega, by omega⟩)
      unfold tieSays at hs
      rcases List.mem_append.mp hs with hs | hs
      · rcases List.mem_cons.mp hs with rfl | hs
        · have hh : decide ((c.getD t.one.toNat (0, 0)).1 < a.1) = true := hh
          rw [ga] at hh
          exact lt_nope hh
        · rw [List.mem_singleton.mp hs] at hh
          have hh : decide ((c.getD t.other.toNat (0, 0)).1 ≥ b.1 + 1) = true := hh
          rw [gb] at hh
          have := of_decide_eq_true hh
          omega
      · obtain ⟨m2, hm, rfl⟩ := List.mem_map.mp hs
        obtain ⟨hm1, hm2⟩ := List.mem_filter.mp hm
        have hh : decide ((c.getD t.one.toNat (0, 0)).2 = ((m2 : Nat) : Int)) = true := hh
        rw [ga] at hh
        have hh := of_decide_eq_true hh
        have hlt := List.mem_range.mp hm1
        have hu : v.ways[m2]? = some (wayAt v m2) := by unfold wayAt; rw [List.getD, List.getElem?_eq_getElem hlt]; rfl
        rw [hu] at hm2
        have hm2 : shortT y t (wayAt v m2) a.1 (b.1 + 1) = true := hm2
        obtain ⟨m, l, e1, e2, e3, e4, e5⟩ := att _ a v ha hv
        have em : m2 = m := by omega
        subst em
        have wok := ho.way e3
        unfold shortT sinceT at hm2
        by_cases hk : t.kind = 1
        · rw [if_pos hk] at hm2 hb
          obtain ⟨z, z1, z2, z3⟩ := endAtK ha e5 wok.l1
          obtain ⟨z', y1, y2, _⟩ := endOf_some e4 wok.l1
          rw [z1] at y1
          cases y1
          rw [endFrom_at y2 (by omega)] at hm2
          have hm2 : decide (z + 1 + t.gap < b.1 + 1) = true := hm2
          have := of_decide_eq_true hm2
          omega
        · rw [if_neg hk] at hm2 hb
          have hm2 : decide (a.1 + t.gap < b.1 + 1) = true := hm2
          have := of_decide_eq_true hm2
          omega
  · cases hov : y.over c s e with
    | false => rfl
    | true =>
      exfalso
      have hov2 := of_decide_eq_true hov
      have key : ∀ k, k < c.length → (rwOf c k).least y s (e : Nat) ((e : Nat) + 1) = some (y.part c k s e) := fun k hk => by
        obtain ⟨v, hv⟩ : ∃ v, y.works[k]? = some v := ⟨_, List.getElem?_eq_getElem (by rw [← hw.l]; exact hk)⟩
        obtain ⟨q, hq, g⟩ := hw.get hv
        obtain ⟨m, l, e1, e2, e3, e4, e5⟩ := att k q v hq hv
        have hh : heldO y s (e : Nat) ((e : Nat) + 1) k m q.1 = some (y.part c k s e) := by
          rw [← heldP_one]
          have e6 : (c[k]?).bind (y.at? k) = some (wayAt v m, l) := by rw [hq]; exact e5
          unfold heldO heldP Yard.held
          rw [e3, e6]
          dsimp only
          rw [e4]
          rfl
        have ed : (rwOf c k).days = [q.1] := by
          unfold Rw.days rwOf
          dsimp only
          rw [g, show (q.1 + 1 - q.1).toNat = 1 by omega]
          show [q.1 + ((0 : Nat) : Int)] = [q.1]
          rw [show q.1 + ((0 : Nat) : Int) = q.1 by omega]
        have ew : (rwOf c k).ways = [m] := by
          show [(c.getD k (0, 0)).2.toNat] = [m]
          rw [g, e1, Int.toNat_natCast]
        unfold Rw.least Rw.helds
        rw [ed, ew]
        show minO (([q.1].flatMap fun d => [m].map fun m => heldO y s (e : Nat) ((e : Nat) + 1) k m d).filterMap id) = _
        show minO ((([heldO y s (e : Nat) ((e : Nat) + 1) k m q.1]) ++ []).filterMap id) = _
        rw [hh]
        rfl
      have tm : tooM y s (e : Nat) ((e : Nat) + 1) (rwsOf c) = true := by
        unfold tooM
        rw [Bool.or_eq_true]
        right
        have h1 : ((rwsOf c).map fun r => (r.least y s (e : Nat) ((e : Nat) + 1)).getD 0) = (List.range c.length).map fun k => y.part c k s e := by
          unfold rwsOf
          rw [List.map_map]
          refine List.map_congr_left fun k hk => ?_
          show ((rwOf c k).least y s (e : Nat) ((e : Nat) + 1)).getD 0 = _
          rw [key k (List.mem_range.mp hk)]
          rfl
        rw [h1]
        have h2 := there_sum ho (fi := e) (n := 1) hs (by omega)
        have h3 : there y s (e : Nat) ((e : Nat) + 1) = (y.stuffs.getD s []).getD e 0 := by
          rw [show ((e : Nat) : Int) + 1 = ((e + 1 : Nat) : Int) by omega, h2]
          show (y.stuffs.getD s []).getD (e + 0) 0 + 0 = _
          rw [Nat.add_zero, Int.add_zero]
        rw [h3]
        exact decide_eq_true hov2
      obtain ⟨x, hx, hh⟩ := List.any_eq_true.mp (h.s s (e : Nat) hs (by omega) he tm)
      obtain ⟨r, hr, hx⟩ := List.mem_flatMap.mp hx
      obtain ⟨k, hk, rfl⟩ := List.mem_map.mp hr
      have hk := List.mem_range.mp hk
      obtain ⟨v, hv⟩ : ∃ v, y.works[k]? = some v := ⟨_, List.getElem?_eq_getElem (by rw [← hw.l]; exact hk)⟩
      obtain ⟨q, hq, g⟩ := hw.get hv
      unfold outS at hx
      rcases List.mem_append.mp hx with hx | hx
      · rcases List.mem_cons.mp hx with rfl | hx
        · exact lt_nope hh
        · rw [List.mem_singleton.mp hx] at hh
          have hh : decide ((c.getD k (0, 0)).1 ≥ (c.getD k (0, 0)).1 + 1) = true := hh
          have := of_decide_eq_true hh
          omega
      · obtain ⟨m2, hm, rfl⟩ := List.mem_map.mp hx
        obtain ⟨hm1, hm2⟩ := List.mem_filter.mp hm
        have hh : decide ((c.getD k (0, 0)).2 = ((m2 : Nat) : Int)) = true := hh
        have hh := of_decide_eq_true hh
        have hm2 : (!([(c.getD k (0, 0)).2.toNat] : List Nat).contains m2) = true := hm2
        rw [hh, Int.toNat_natCast] at hm2
        simp at hm2
theorem coursesC_iff {y : Yard} (ho : y.ok) {cap : Int} (hc : cap ≤ y.days) {c : List (Int × Int)} (hw : Wit y c) : c ∈ coursesC y cap y.works.length ↔ Crs y cap c := by
  refine ⟨crs_of ho hc, fun h => mem_coursesC.mpr ⟨hw.l, fun j hj => ?_⟩⟩
  obtain ⟨hl, hall⟩ := mem_courses.mp ((clean_iff ho hw.l).mp h.cl)
  obtain ⟨q, q1, q2, q3⟩ := hall j hj
  obtain ⟨v, hv⟩ : ∃ v, y.works[j]? = some v := ⟨_, List.getElem?_eq_getElem hj⟩
  obtain ⟨a1, a2, _⟩ := hw.b j q v q1 hv
  obtain ⟨m, m1, m2, m3⟩ := h.al j q v q1 hv
  exact ⟨q, q1, (mem_pairsC hv).mpr ⟨a1, a2, m, m1, m2, m3⟩, q3⟩
theorem lets_none {c : List (Int × Int)} : Lets [] none c := fun _ e => nomatch e
theorem rwOf_ok {y : Yard} (ho : y.ok) {c : List (Int × Int)} (hw : Wit y c) {k : Nat} (hk : k < c.length) : (rwOf c k).ok y := by
  obtain ⟨v, hv⟩ : ∃ v, y.works[k]? = some v := ⟨_, List.getElem?_eq_getElem (by rw [← hw.l]; exact hk)⟩
  obtain ⟨q, hq, g⟩ := hw.get hv
  obtain ⟨b1, b2, m, e1, e2⟩ := hw.b k q v hq hv
  have vok := ho.ws v (List.mem_of_getElem? hv)
  have := vok.l0; have := vok.hd
  have ev : (rwOf c k).v y = v := by show y.works.getD k _ = v; rw [List.getD, hv]; rfl
  refine ⟨by rw [ev]; exact hv, ?_, ?_, ?_, ?_, ?_, ?_, ?_⟩
  · show 0 ≤ (c.getD k (0, 0)).1; rw [g]; omega
  · show (c.getD k (0, 0)).1 < (c.getD k (0, 0)).1 + 1; omega
  · show (c.getD k (0, 0)).1 + 1 ≤ y.days; rw [g]; omega
  · exact Nat.zero_lt_one
  · show 1 ≤ 3; decide
  · show [(c.getD k (0, 0)).2.toNat].Pairwise _; exact List.pairwise_singleton _ _
  · intro z hz
    have hz : z ∈ [(c.getD k (0, 0)).2.toNat] := hz
    rw [ev, List.mem_singleton.mp hz, g]
    omega
theorem rwsOf_in {y : Yard} (ho : y.ok) {c : List (Int × Int)} (hw : Wit y c) {s : Nat} {d : Int} (hs : s < y.stuffs.length) (h0 : 0 ≤ d) (h1 : d < y.days) : StIn y s d (d + 1) (rwsOf c) := by
  have w6 := ho.w6
  refine ⟨hs, h0, by omega, by omega, ⟨?_, ?_, fun r hr => ?_⟩⟩
  · unfold rwsOf; rw [List.length_map, List.length_range, hw.l]; exact w6
  · unfold rwsOf
    rw [List.pairwise_map]
    exact List.pairwise_lt_range.imp fun h => h
  · obtain ⟨k, hk, rfl⟩ := List.mem_map.mp hr
    exact rwOf_ok ho hw (List.mem_range.mp hk)
end Hv
namespace Hv
open PySem PySem.Spec PyProof.Rows L2 Hod
theorem any_prs {cs : List (List (Int × Int))} {c : List (Int × Int)} : ((cs.map fun c => PyData.list (c.map prP)).any fun z => PyData.eqv z (.list (c.map prP))) = decide (c ∈ cs) := by
  rw [Bool.eq_iff_iff, List.any_eq_true, decide_eq_true_eq]
  constructor
  · rintro ⟨z, hz, h⟩
    obtain ⟨b, hb, rfl⟩ := List.mem_map.mp hz
    have h : PyData.eqv (.list (b.map prP)) (.list (c.map prP)) = true := h
    rw [eqv_prs] at h
    rw [← of_decide_eq_true h]
    exact hb
  · intro h
    exact ⟨_, List.mem_map.mpr ⟨c, h, rfl⟩, by show PyData.eqv (.list (c.map prP)) (.list (c.map prP)) = true; rw [eqv_prs]; exact decide_eq_true rfl⟩
/-- a stretch's line, or none -/
def FbearsS : FSX := fun as Q E => ∃ (y : Yard) (s : Nat) (fi pa : Int) (rs : List Rw) (cap : Int), as = [.dat y.e, .dat (.tuple (.str "stretch" :: stD s fi pa rs)), .dat (.int cap), .dat (.tuple []), .dat .none] ∧ y.ok ∧ (0 ≤ cap ∧ cap ≤ y.days) ∧ StIn y s fi pa rs ∧ (tooM y s fi pa rs = true → Q (lineE (stretchS y rs))) ∧ (tooM y s fi pa rs = false → E "NoLine" [("word", .str "noline")])
theorem ok_bearsS {P : Program} {w : World} {K : PySem.W.Frag} {mg : Str → Option Value} {base : Heap} {CX : CXT} {k : Nat} {f : Addr} {fd : FuncData} {ps : List Str} (G1 : FnOk P w K mg base CX k f fd ps (spX K mg false (FbearsY "stretch" StretchIn))) (G2 : FnOk P w K mg base CX k f fd ps (spX K mg false (FbearsX "stretch" StretchNo))) : FnOk P w K mg base CX k f fd ps (spX K mg false FbearsS) :=
  (fn_or G1 G2).imp fun vs H Q E ⟨S, B, as, Q2, E2, g, r, hF, k⟩ => by
    obtain ⟨y, s, fi, pa, rs, cap, e, ho, hc, hi, q1, q2⟩ := hF
    have ha : AskIn y (some cap) [] none := ⟨ho, (fun b z => by cases z; exact hc), .inl rfl, (fun _ z => nomatch z)⟩
    cases ht : tooM y s fi pa rs with
    | true =>
      have hl := stretchS_len ho hi.rs.ok
      have l6 := hi.rs.l6
      exact .inl ⟨S, B, as, Q2, E2, g, r, ⟨y, stD s fi pa rs, some cap, [], none, stretchS y rs, e, ha, ⟨s, fi, pa, rs, rfl, hi, ht, rfl⟩, by omega, q1 ht⟩, k⟩
    | false => exact .inr ⟨S, B, as, Q2, E2, g, r, ⟨y, stD s fi pa rs, some cap, [], none, e, ha, ⟨s, fi, pa, rs, rfl, hi, ht⟩, q2 ht⟩, k⟩
theorem any_full {c : List (Int × Int)} {old : List (Option (Int × Int))} {ss ts : List Say} (h1 : ∀ t ∈ ts, t ∈ ss) (h2 : ∀ s ∈ ss, s ∈ ts) : ts.any (hold c old) = ss.any (hold c old) := by
  rw [Bool.eq_iff_iff, List.any_eq_true, List.any_eq_true]
  exact ⟨fun ⟨t, a, b⟩ => ⟨t, h1 t a, b⟩, fun ⟨t, a, b⟩ => ⟨t, h2 t a, b⟩⟩
def FallH : FS := fun as Q => ∃ (y : Yard) (cap : Int) (c : List (Int × Int)), as = [.dat y.e, .dat (.int cap), .dat (.list (c.map prP))] ∧ y.ok ∧ (0 ≤ cap ∧ cap ≤ y.days) ∧ Wit y c ∧ ∀ b : Bool, (b = true ↔ Crs y cap c) → Q (.bool b)
end Hv
namespace Hv
open PySem PySem.Spec PyProof.Rows L2 Hod
theorem u65 {k : Nat} {A : Around} (r : Room k A) : A.units + 65 < cLine := by have := r.un; omega
theorem s_cut {W1 W2 : WS} {E : Ends2} {ρ : Rho} {μ : Mem} (J : Rho → Mem → Prop) (hJ : ∀ ρ μ, J ρ μ → W2 E ρ μ) (h : ∀ N : Rho → Mem → Prop, (∀ ρ μ, J ρ μ → N ρ μ) → W1 { E with nx := N } ρ μ) : wSeq W1 W2 E ρ μ := h _ hJ
theorem x_andCoin {ρ : Rho} {μ : Mem} {t : WT} {k : Bool} {W : WS} {E : Ends2} {w : WE} {n : Int} {c : Nat} (ht : EvTs t ρ μ k) (h1 : k = true → W E ρ μ) (h2 : E.nx ρ μ) (h0 : 0 < n) (h3 : n < 1073741824) (hw : Evs w ρ μ (.dat (.int n))) (hd : ρ[c]? = some (some .drw) := by rfl) : wIfS (wAndT t (wB (wOp gEq (wCall Fpull (waCons (wVar c) (waCons w waNil))) (wC (.int 0))))) W wNext E ρ μ :=
  x_ifN (ht _ (by
    cases k with
    | false => exact h2
    | true =>
      refine x_coin (n := n) (fun b => ?_) h0 h3 hw hd
      cases b with
      | true => exact h1 rfl
      | false => exact h2))
theorem eqv_nilLL (ds : List PyData) : PyData.eqv (.list ds) (.list []) = ds.isEmpty := by cases ds <;> rfl
theorem len_own {μ : Mem} {p : Addr} {ds : List PyData} (h : μ p = some (ds.map A.dat)) : lenA μ (.own p) = some ds.length := by
  unfold lenA
  dsimp only
  rw [h]
  dsimp only [Option.map]
  rw [List.length_map]
theorem x_gList {μ : Mem} {ds : List PyData} {Q : A → Prop} (q : Q (.dat (.list ds))) : gList μ [.dat (.list ds)] Q := q
end Hv

set_option Elab.async false
set_option linter.all false
set_option maxRecDepth 100000
set_option maxHeartbeats 1000000
namespace HLaw
open PySem PySem.Spec PyProof.Rows L2 Hod Hv
def topS (i : Nat) : Stmt := PySem.Challenge.pw_hodman_k17_sayings_refused.main.body.getD i (.Pass ⟨0, 0, 0, 0⟩)
/-! _law_open: 0:_law_script 1:_law_seed 2:_law_cell -/
abbrev s_law_open : Stmt := topS 39
theorem sc_law_open : FnScope ["_law_script", "_law_seed", "_law_cell"] ["_law_script"] (defScope s_law_open) := ⟨rfl, rfl, rfl, by decide +kernel, rfl, by decide +kernel, by decide +kernel⟩
abbrev N_law_open : List Str := ["_law_script", "_law_seed", "_law_cell"]
abbrev ps_law_open : List Str := ["_law_script"]
/-! _law_pull: 0:_law_draw 1:_law_total_of 2:_law_cell 3:_law_got 4:_law_seed -/
abbrev s_law_pull : Stmt := topS 40
theorem sc_law_pull : FnScope ["_law_draw", "_law_total_of", "_law_cell", "_law_got", "_law_seed"] ["_law_draw", "_law_total_of"] (defScope s_law_pull) := ⟨rfl, rfl, rfl, by decide +kernel, rfl, by decide +kernel, by decide +kernel⟩
abbrev N_law_pull : List Str := ["_law_draw", "_law_total_of", "_law_cell", "_law_got", "_law_seed"]
abbrev ps_law_pull : List Str := ["_law_draw", "_law_total_of"]
theorem cut63 {xs : List V} (h : xs.length ≤ 63) : cutV xs none (some 63) = xs := by
  unfold cutV
  rw [HT.sIx_none, show HT.sIx xs.length xs.length (some 63) = min 63 xs.length from HT.sIx_nat xs.length xs.length 63, show min 63 xs.length = xs.length by omega, Nat.sub_zero]
  show List.take xs.length xs = xs
  exact List.take_length
theorem int_at {ns : List Int} {i : Nat} {x : V} (h : (ns.map V.int)[i]? = some x) : ∃ z, x = .int z := by
  rw [List.getElem?_map] at h
  cases e : ns[i]? with
  | none => rw [e] at h; cases h
  | some u => rw [e] at h; exact ⟨u, (Option.some.inj h).symm⟩
section
variable {P : Program} {w : World} {K : PySem.W.Frag} {mg : Str → Option Value} {base : Heap}
/-! ### _law_pull -/
def pullFirst : TS := fun D σ H => ∃ d n c ns, σ = [some (.ref d), some (.int n), none, none, none] ∧ DrawC H d c ns ∧ ∀ y H2, Sb d H H2 → DrawC H2 d c ns → D.nx [some (.ref d), some (.int n), y, none, none] H2
theorem ok_pull {f : Addr} {fd : FuncData} {k : Nat} (F : Fun K "_law_pull" "_law_pull" s_law_pull f fd) (m_len : mg "len" = none) : FnOk P w K mg base CX0 (k + 1) f fd ["_law_draw", "_law_total_of"] Hv.spPull := by
  refine F.ok sc_law_pull (fun vs H Q E h => ?_) (fun cdv Ar outer s H vs Q E hr h => ?_)
  · obtain ⟨d, n, c, ns, rfl, _⟩ := h
    rfl
  · obtain ⟨d, n, c, ns, rfl, n0, n1, hD, q⟩ := h
    refine ⟨_, (pss_cons (ps_weak (u := pullFirst) (ps_if (PW.pt (pw_and (pt_cmpR op_lt (pe_ix ix_list (pv 0) pe_int (fun _ _ => rfl)) (pv 1) (nomark _)) (pw_and1 (pt_cmpR op_lt (pe_ix ix_list (pv 0) pe_int (fun _ _ => rfl)) (pe_callB call_len_seq (by rfl) m_len PySem.boot_len (pa_cons (pe_ix ix_list (pv 0) pe_int (fun _ _ => rfl)) pa_nil)) (nomark _))))) (pss_cons (ps_set (i := 2) sc_law_pull.nd rfl (.inl rfl) (pe_ix ix_list (pe_ix ix_list (pv 0) pe_int (fun _ _ => rfl)) (pe_ix ix_list (pv 0) pe_int (fun _ _ => rfl)) (fun _ _ => rfl)))
    (pss_cons (ps_asg (pe_op op_add (pe_ix ix_list (pv 0) pe_int (fun _ _ => rfl)) pe_int) (pg_sub (pv 0) pe_int set_list))
    (pss_cons (ps_asg pe_int (pg_sub (pv 0) pe_int set_list))
    (pss_one (ps_if (pt_cmpR op_ge (pv 2) (pe_op op_pow pe_int pe_int) (nomark _)) (pss_one (ps_asg (pv 2) (pg_sub (pv 0) pe_int set_list))) (pss_one (ps_asg (pe_op op_mod (pe_op op_add (pe_op op_add (pe_op op_mul (pe_ix ix_list (pv 0) pe_int (fun _ _ => rfl)) pe_int) (pe_op op_mul (pe_op op_mod (pv 2) pe_int) pe_int)) pe_int) pe_int) (pg_sub (pv 0) pe_int set_list)))))))) pss_nil) (fun D σ H hyp => ?first))
    (pss_cons (ps_if (pt_cmpR op_ge (pe_ix ix_list (pv 0) pe_int (fun _ _ => rfl)) (pv 1) (nomark _)) (pss_cons (ps_set (i := 3) sc_law_pull.nd rfl (.inl rfl) (pe_op op_mod (pe_ix ix_list (pv 0) pe_int (fun _ _ => rfl)) (pv 1)))
    (pss_cons (ps_asg (pe_op op_fdiv (pe_ix ix_list (pv 0) pe_int (fun _ _ => rfl)) (pv 1)) (pg_sub (pv 0) pe_int set_list))
    (pss_one (ps_ret (pv 3))))) pss_nil)
    (pss_cons (ps_set (i := 4) sc_law_pull.nd rfl (.inl rfl) (pe_ix ix_list (pv 0) pe_int (fun _ _ => rfl)))
    (pss_cons (ps_asg (pe_op op_mod (pe_op op_add (pe_op op_add (pe_op op_mul (pe_op op_mod (pe_op op_mul (pv 4) (pv 4)) pe_int) pe_int) (pe_op op_mul (pv 4) pe_int)) pe_int) pe_int) (pg_sub (pv 0) pe_int set_list))
    (pss_one (ps_ret (pe_op op_mod (pe_op op_add (pe_op op_fdiv (pe_ix ix_list (pv 0) pe_int (fun _ _ => rfl)) pe_int) (pe_op op_mul (pe_op op_mod (pe_ix ix_list (pv 0) pe_int (fun _ _ => rfl)) pe_int) pe_int)) (pv 1)))))))), ?_⟩
    case first =>
      obtain ⟨d, n, c, ns, rfl, ⟨i, big, seed, hd, hc, b0, s0, s1⟩, q⟩ := hyp
      have ncd := cell_ne hd hc
      refine ⟨_, rfl, d, _, _, _, rfl, rfl, SqL.of hd, atI_nat (j := 2) rfl, _, rfl, _, _, rfl, rfl, _, rfl, ?_⟩
      refine ite2 (fun c1 => ?_) (fun c1 => ?_)
      · refine ⟨_, rfl, d, _, _, _, rfl, rfl, SqL.of hd, atI_nat (j := 1) rfl, _, rfl, d, _, _, _, rfl, rfl, SqL.of hd, atI_nat (j := 0) rfl, c, _, rfl, .inl (SqL.of hc), _, _, rfl, rfl, _, rfl, ?_⟩
        refine ite2 (fun c2 => ?_) (fun c2 => ?_)
        · have c3 : (i : Int) < ((ns.map V.int).length : Int) := of_decide_eq_true c2
          have hi : i < ns.length := by rw [List.length_map] at c3; omega
          have gi : (ns.map V.int)[i]? = some (.int ns[i]) := by rw [List.getElem?_map, List.getElem?_eq_getElem hi]; rfl
          generalize ns[i] = z at gi
          refine ⟨_, rfl, d, _, _, _, rfl, rfl, SqL.of hd, atI_nat (j := 0) rfl, _, rfl, d, _, _, _, rfl, rfl, SqL.of hd, atI_nat (j := 1) rfl, c, _, _, _, rfl, rfl, SqL.of hc, atI_nat gi, ?_⟩
          -- draw[1] = draw[1] + 1
          refine ⟨_, rfl, d, _, _, _, rfl, rfl, SqL.of hd, atI_nat (j := 1) rfl, _, _, rfl, rfl, _, rfl, d, _, _, 1, rfl, rfl, hd, rfl, ?_⟩
          -- draw[2] = 0
          refine ⟨_, rfl, d, _, _, 2, rfl, rfl, upd_same, rfl, ?_⟩
          refine ⟨_, rfl, _, _, rfl, rfl, ⟨by decide, by decide, by decide⟩, _, _, rfl, rfl, _, rfl, ?_⟩
          refine ite2 (fun c4 => ?_) (fun c4 => ?_)
          · have z0 : (0 : Int) ≤ z := by
              have w1 : (10 : Int) ^ (18 : Int).toNat ≤ z := of_decide_eq_true c4
              have w2 : (0 : Int) ≤ (10 : Int) ^ (18 : Int).toNat := by decide
              omega
            refine ⟨_, rfl, _, rfl, d, _, _, 2, rfl, rfl, upd_same, rfl, ?_⟩
            refine q _ _ (((sb_upd).upd).upd) ⟨i + 1, z, seed, ?_, ?_, z0, s0, s1⟩
            · rw [upd_same]
              rfl
            · rw [upd_ne ncd, upd_ne ncd, upd_ne ncd]
              exact hc
          · refine ⟨_, rfl, d, _, _, _, rfl, rfl, SqL.of upd_same, atI_nat (j := 3) rfl, _, _, rfl, rfl, .inr ⟨by decide, by decide⟩, _, rfl, _, _, rfl, rfl, (by show (0 : Int) < 2147483629; decide), _, _, rfl, rfl, .inr ⟨by decide, by decide⟩, _, _, rfl, rfl, _, _, rfl, rfl, _, _, rfl, rfl, (by show (0 : Int) < 2147483647; decide), _, rfl, d, _, _, 3, rfl, rfl, upd_same, rfl, ?_⟩
            refine q _ _ (((sb_upd).upd).upd) ⟨i + 1, 0, (seed * 40692 + z % 2147483629 * 69621 + 104729) % 2147483647, ?_, ?_, Int.le_refl 0, Int.emod_nonneg _ (by decide), Int.emod_lt_of_pos _ (by decide)⟩
            · rw [upd_same]
              rfl
            · rw [upd_ne ncd, upd_ne ncd, upd_ne ncd]
              exact hc
        · exact q _ _ Sb.refl ⟨i, big, seed, hd, hc, b0, s0, s1⟩
      · exact q _ _ Sb.refl ⟨i, big, seed, hd, hc, b0, s0, s1⟩
    refine ⟨d, n, c, ns, rfl, hD, fun y H1 sb1 hD1 => ?_⟩
    obtain ⟨i, big, seed, hd, hc, b0, s0, s1⟩ := hD1
    have ncd := cell_ne hd hc
    refine ⟨_, rfl, d, _, _, _, rfl, rfl, SqL.of hd, atI_nat (j := 2) rfl, _, rfl, _, _, rfl, rfl, _, rfl, ?_⟩
    refine ite2 (fun c1 => ?_) (fun c1 => ?_)
    · refine ⟨_, rfl, d, _, _, _, rfl, rfl, SqL.of hd, atI_nat (j := 2) rfl, _, rfl, _, _, rfl, rfl, n0, ?_⟩
      refine ⟨_, rfl, d, _, _, _, rfl, rfl, SqL.of hd, atI_nat (j := 2) rfl, _, rfl, _, _, rfl, rfl, ⟨n0, n1⟩, _, rfl, d, _, _, 2, rfl, rfl, hd, rfl, ?_⟩
      refine ⟨_, rfl, ?_⟩
      refine q _ _ sb1.upd ⟨i, big / n, seed, ?_, ?_, Int.ediv_nonneg b0 (Int.le_of_lt n0), s0, s1⟩ (Int.emod_nonneg _ (Int.ne_of_gt n0)) (Int.emod_lt_of_pos _ n0)
      · rw [upd_same]
        rfl
      · rw [upd_ne ncd]
        exact hc
    · refine ⟨_, rfl, d, _, _, _, rfl, rfl, SqL.of hd, atI_nat (j := 3) rfl, ?_⟩
      refine ⟨_, rfl, _, rfl, _, _, rfl, rfl, .inl ⟨by omega, by omega⟩, _, _, rfl, rfl, (by show (0 : Int) < 2147483587; decide), _, _, rfl, rfl, .inr ⟨by decide, by decide⟩, _, rfl, _, _, rfl, rfl, .inr ⟨by decide, by decide⟩, _, _, rfl, rfl, _, _, rfl, rfl, _, _, rfl, rfl, (by show (0 : Int) < 2147483647; decide), _, rfl, d, _, _, 3, rfl, rfl, hd, rfl, ?_⟩
      refine ⟨_, rfl, d, _, _, _, rfl, rfl, SqL.of upd_same, atI_nat (j := 3) rfl, _, _, rfl, rfl, ⟨by decide, by decide⟩, _, rfl, d, _, _, _, rfl, rfl, SqL.of upd_same, atI_nat (j := 3) rfl, _, _, rfl, rfl, (by show (0 : Int) < 8191; decide), _, _, rfl, rfl, .inr ⟨by decide, by decide⟩, _, _, rfl, rfl, _, rfl, _, _, rfl, rfl, n0, ?_⟩
      refine q _ _ sb1.upd ⟨i, big, (seed * seed % 2147483587 * 5 + seed * 16807 + 1013904229) % 2147483647, ?_, ?_, b0, Int.emod_nonneg _ (by decide), Int.emod_lt_of_pos _ (by decide)⟩ (Int.emod_nonneg _ (Int.ne_of_gt n0)) (Int.emod_lt_of_pos _ n0)
      · rw [upd_same]
        rfl
      · rw [upd_ne ncd]
        exact hc
/-! ### _law_open -/
theorem ok_open {f : Addr} {fd : FuncData} {k : Nat} (F : Fun K "_law_open" "_law_open" s_law_open f fd) (m_list : mg "list" = none) : FnOk P w K mg base CX0 (k + 1) f fd ["_law_script"] (Hv.spOpen K) := by
  refine F.ok sc_law_open (fun vs H Q E h => ?_) (fun cdv Ar outer s H vs Q E hr h => ?_)
  · obtain ⟨a, ns, rfl, _⟩ := h
    rfl
  · obtain ⟨a, ns, rfl, hS, hlen, q⟩ := h
    refine ⟨_, (pss_cons (ps_set (i := 1) sc_law_open.nd rfl (.inl rfl) pe_int)
    (pss_cons (ps_for PassesOwn.never rfl (pi_list (pe_slice sl_list (pv 0) po_none (po_some pe_int))) (pg_name (i := 2) sc_law_open.nd rfl (.inl rfl))
      (pss_one (ps_set (i := 1) sc_law_open.nd rfl (.inl rfl) (pe_op op_mod (pe_op op_add (pe_op op_add (pe_op op_mul (pv 1) pe_int) (pe_op op_mod (pv 2) pe_int)) pe_int) pe_int))))
    (pss_one (ps_ret (pe_lst (pa_cons (pe_callTy call_list_of (by rfl) m_list (by decide +kernel) (pa_cons (pe_slice sl_list (pv 0) po_none (po_some pe_int)) pa_nil)) (pa_cons pe_int (pa_cons pe_int (pa_cons (pv 1) pa_nil))))))))), ?_⟩
    refine ⟨.ref a, rfl, 63, rfl, a, ns.map V.int, rfl, hS, fun b nb => ?_⟩
    have s1 : Same H (upd H b (.lst (cutV (ns.map V.int) none (some 63)))) := same_new nb
    rw [cut63 (by rw [List.length_map]; exact hlen)] at s1 ⊢
    refine ⟨b, rfl, ⟨_, SqL.of upd_same⟩, for_list (K := K) (a := b) (xs := ns.map V.int) (fun i σ H2 => H2 = upd H b (.lst (ns.map V.int)) ∧ ∃ (seed : Int) (y : Option V), σ = [some (.ref a), some (.int seed), y] ∧ 0 ≤ seed ∧ seed < 2147483647)
      ⟨rfl, 7717, none, rfl, by decide, by decide⟩ (fun i σ H2 _ ⟨e, _⟩ => by rw [e]; exact SqL.of upd_same) ?_ ?_⟩
    · rintro i x σ H2 hx ⟨rfl, seed, y, rfl, s0, s9⟩
      obtain ⟨z, rfl⟩ := int_at hx
      refine ⟨_, rfl, _, _, rfl, rfl, .inr ⟨by decide, by decide⟩, _, rfl, _, _, rfl, rfl, (by show (0 : Int) < 2147483629; decide), _, _, rfl, rfl, _, _, rfl, rfl, _, _, rfl, rfl, (by show (0 : Int) < 2147483647; decide), ?_⟩
      exact ⟨rfl, (seed * 48271 + z % 2147483629 + 5) % 2147483647, _, rfl, Int.emod_nonneg _ (by decide), Int.emod_lt_of_pos _ (by decide)⟩
    · rintro σ H2 ⟨rfl, seed, y, rfl, s0, s9⟩
      refine ⟨.ref a, rfl, 63, rfl, a, ns.map V.int, rfl, s1.seq hS, fun b2 nb2 => ?_⟩
      rw [cut63 (by rw [List.length_map]; exact hlen)]
      refine ⟨b2, _, rfl, .inl (SqL.of upd_same), fun c nc => ?_⟩
      refine ⟨_, rfl, (by show 4 ≤ sizeLine; decide), fun d nd => ?_⟩
      have s2 : Same (upd H b (.lst (ns.map V.int))) (upd (upd H b (.lst (ns.map V.int))) b2 (.lst (ns.map V.int))) := same_new nb2
      have s3 := s1.trans (s2.trans (same_new (o := .lst (ns.map V.int)) nc))
      refine q d c _ (s3.trans (same_new nd)) (s3.free nd) ((s1.trans s2).free nc) ⟨0, 0, seed, upd_same, ?_, Int.le_refl 0, s0, s9⟩
      exact same_new nd _ _ upd_same
end
/-! _law_num: 0:_law_found -/
abbrev s_law_num : Stmt := topS 41
theorem sc_law_num : FnScope ["_law_found"] ["_law_found"] (defScope s_law_num) := ⟨rfl, rfl, rfl, by decide +kernel, rfl, by decide +kernel, by decide +kernel⟩
abbrev N_law_num : List Str := ["_law_found"]
abbrev ps_law_num : List Str := ["_law_found"]
/-! _law_like: 0:_law_found 1:_law_due 2:_law_k -/
abbrev s_law_like : Stmt := topS 42
theorem sc_law_like : FnScope ["_law_found", "_law_due", "_law_k"] ["_law_found", "_law_due"] (defScope s_law_like) := ⟨rfl, rfl, rfl, by decide +kernel, rfl, by decide +kernel, by decide +kernel⟩
abbrev N_law_like : List Str := ["_law_found", "_law_due", "_law_k"]
abbrev ps_law_like : List Str := ["_law_found", "_law_due"]
section
variable {P : Program} {w : World} {K : PySem.W.Frag} {mg : Str → Option Value} {base : Heap}
theorem d_pull {k : Nat} {f : Addr} {fd : FuncData} (R : Raw K mg "_law_pull" s_law_pull ps_law_pull f fd) (m_len : mg "len" = none) : Dfn P w K mg base (k + 1) "_law_pull" ps_law_pull (spD K false Fpull) :=
  ⟨f, fd, (ok_pull R.1 m_len).imp (fun vs H Q E h => pull_spD vs H Q E h), R.2.1, R.1.kp, R.2.2⟩
theorem d_num {k : Nat} {f : Addr} {fd : FuncData} (R : Raw K mg "_law_num" s_law_num ps_law_num f fd) (m_isinstance : mg "isinstance" = none) (m_int : mg "int" = none) (m_bool : mg "bool" = none) : Dfn P w K mg base (k + 1) "_law_num" ps_law_num (spD K false Fnum) := by
  refine ⟨f, fd, fnD R.1 sc_law_num (fun as Q h => ?_) (fun cdv Ar outer s H E hr => (vss_one (vs_ret (ve_and (VF.ve (vf_callB c_isi call_isi (by rfl) m_isinstance (by decide +kernel) (va_cons (ve_var 0) (va_cons (ve_ty (n := "int") (by rfl) m_int (by decide +kernel)) va_nil)))) (ve_one (ve_not (VF.ve (vf_callB c_isi call_isi (by rfl) m_isinstance (by decide +kernel) (va_cons (ve_var 0) (va_cons (ve_ty (n := "bool") (by rfl) m_bool (by decide +kernel)) va_nil)))))))))) (fun as Q h => ?_), R.2.1, R.1.kp, R.2.2⟩
  · obtain ⟨d, rfl, _⟩ := h
    rfl
  · obtain ⟨d, rfl, hd, q⟩ := h
    cases d <;> first | exact q | (simp [dep] at hd; done)
theorem like_eq {f d : PyData} : like f d = (match d with
    | .none => (match f with | .none => true | _ => false)
    | .bool b => (match f with | .bool a => decide (a = b) | _ => false)
    | .int b => (match f with | .int a => decide (a = b) | _ => false)
    | .str b => (match f with | .str a => decide (a = b) | _ => false)
    | .list bs => (match f with | .list as => likes as bs | _ => false)
    | .tuple bs => (match f with | .tuple as => likes as bs | _ => false)
    | .dict _ => false) := by
  cases d <;> cases f <;> simp [like]
theorem likes_all : ∀ {as bs : List PyData}, as.length = bs.length → ((List.range bs.length).map fun i => like (as.getD i .none) (bs.getD i .none)).all id = likes as bs
  | [], [], _ => rfl
  | a :: as, b :: bs, h => by
    have ih := likes_all (as := as) (bs := bs) (by simpa using h)
    rw [List.length_cons, List.range_succ_eq_map, List.map_cons, List.all_cons, List.map_map]
    unfold likes
    rw [← ih]
    rfl
  | [], _ :: _, h => by simp at h
  | _ :: _, [], h => by simp at h
theorem at_getD {ds : List PyData} {i : Nat} (h : i < ds.length) : atI ds (i : Int) = some (ds.getD i .none) := by
  rw [atI_nat (j := i) (v := ds.getD i .none)]
  simp [List.getD, h]
theorem dep_getD {ds : List PyData} {n i : Nat} (h : deps ds ≤ n) : dep (ds.getD i .none) ≤ n := by
  by_cases hi : i < ds.length
  · have e : ds.getD i .none = ds[i] := by simp [List.getD, hi]
    rw [e]
    exact deps_le h _ (List.getElem_mem hi)
  · have e : ds.getD i .none = .none := by simp [List.getD, List.getElem?_eq_none (Nat.le_of_not_lt hi)]
    rw [e]
    exact Nat.zero_le _
theorem d_like {f : Addr} {fd : FuncData} (R : Raw K mg "_law_like" s_law_like ps_law_like f fd) (D_num : Dfn P w K mg base 1 "_law_num" ps_law_num (spD K false Fnum))
    (m_isinstance : mg "isinstance" = none) (m_int : mg "int" = none) (m_bool : mg "bool" = none) (m_str : mg "str" = none) (m_tuple : mg "tuple" = none) (m_list : mg "list" = none) (m_len : mg "len" = none) (m_all : mg "all" = none) (m_range : mg "range" = none) :
    ∀ n, n ≤ 1000 → Dfn P w K mg base (n + 1) "_law_like" ps_law_like (spD K false (Flike n)) := by
  obtain ⟨f_num, fd_num, G_num, m__law_num, k__law_num, b__law_num⟩ := D_num
  intro n hn
  refine ⟨f, fd, ?_, R.2.1, R.1.kp, R.2.2⟩
  have m__law_like := R.2.1; have k__law_like := R.1.kp; have b__law_like := R.2.2
  induction n with
  | zero => exact ⟨fun vs H Q E ⟨_, _, _, _, _, _, ⟨_, _, _, h, _⟩, _⟩ => absurd h (Nat.not_lt_zero _), fun A outer s H args us vs Q E _ _ _ _ ⟨_, _, _, _, _, _, ⟨_, _, _, h, _⟩, _⟩ => absurd h (Nat.not_lt_zero _)⟩
  | succ n ih =>
    have G__law_like := ih (by omega)
    have G__law_num := G_num.mono (show 1 ≤ n + 1 by omega)
    refine fnD R.1 sc_law_like (fun as Q h => ?_) (fun cdv Ar outer s H E hr => (vss_cons (vs_if (vt_cmp op_isN r_isN (ve_var 1) ve_non (nomark _)) (vss_one (vs_ret (ve_cmp op_isN r_isN (ve_var 0) ve_non (nomark _)))) vss_nil)
    (vss_cons (vs_if (vt_val (VF.ve (vf_callB c_isi call_isi (by rfl) m_isinstance (by decide +kernel) (va_cons (ve_var 1) (va_cons (ve_ty (n := "bool") (by rfl) m_bool (by decide +kernel)) va_nil))))) (vss_one (vs_ret (ve_and (VF.ve (vf_callB c_isi call_isi (by rfl) m_isinstance (by decide +kernel) (va_cons (ve_var 0) (va_cons (ve_ty (n := "bool") (by rfl) m_bool (by decide +kernel)) va_nil)))) (ve_one (ve_cmp op_eq r_eq (ve_var 0) (ve_var 1) (nomark _)))))) vss_nil)
    (vss_cons (vs_if (vt_val (VF.ve (vf_callB c_isi call_isi (by rfl) m_isinstance (by decide +kernel) (va_cons (ve_var 1) (va_cons (ve_ty (n := "int") (by rfl) m_int (by decide +kernel)) va_nil))))) (vss_one (vs_ret (ve_and (ve_call G__law_num (hr.mono (by omega)) (by rfl) m__law_num k__law_num b__law_num (va_cons (ve_var 0) va_nil)) (ve_one (ve_cmp op_eq r_eq (ve_var 0) (ve_var 1) (nomark _)))))) vss_nil)
    (vss_cons (vs_if (vt_val (VF.ve (vf_callB c_isi call_isi (by rfl) m_isinstance (by decide +kernel) (va_cons (ve_var 1) (va_cons (ve_ty (n := "str") (by rfl) m_str (by decide +kernel)) va_nil))))) (vss_one (vs_ret (ve_and (VF.ve (vf_callB c_isi call_isi (by rfl) m_isinstance (by decide +kernel) (va_cons (ve_var 0) (va_cons (ve_ty (n := "str") (by rfl) m_str (by decide +kernel)) va_nil)))) (ve_one (ve_cmp op_eq r_eq (ve_var 0) (ve_var 1) (nomark _)))))) vss_nil)
    (vss_cons (vs_if (VW.vt (vw_or (vt_cmp op_ne r_ne (VF.ve (vf_callB c_isi call_isi (by rfl) m_isinstance (by decide +kernel) (va_cons (ve_var 1) (va_cons (ve_ty (n := "tuple") (by rfl) m_tuple (by decide +kernel)) va_nil)))) (VF.ve (vf_callB c_isi call_isi (by rfl) m_isinstance (by decide +kernel) (va_cons (ve_var 0) (va_cons (ve_ty (n := "tuple") (by rfl) m_tuple (by decide +kernel)) va_nil)))) (nomark _)) (vw_or1 (vt_cmp op_ne r_ne (VF.ve (vf_callB c_isi call_isi (by rfl) m_isinstance (by decide +kernel) (va_cons (ve_var 1) (va_cons (ve_ty (n := "list") (by rfl) m_list (by decide +kernel)) va_nil)))) (VF.ve (vf_callB c_isi call_isi (by rfl) m_isinstance (by decide +kernel) (va_cons (ve_var 0) (va_cons (ve_ty (n := "list") (by rfl) m_list (by decide +kernel)) va_nil)))) (nomark _))))) (vss_one (vs_ret ve_bl)) vss_nil)
    (vss_cons (vs_if (vt_cmp op_ne r_ne (VF.ve (vf_callB c_len call_len_seq (by rfl) m_len PySem.boot_len (va_cons (ve_var 0) va_nil))) (VF.ve (vf_callB c_len call_len_seq (by rfl) m_len PySem.boot_len (va_cons (ve_var 1) va_nil))) (nomark _)) (vss_one (vs_ret ve_bl)) vss_nil)
    (vss_one (vs_retF (vf_callB c_all (cr_all rfl) (by rfl) m_all (by decide +kernel) (va_cons (VF.ve (vf_lc (own := [("_law_k", 2)]) (.nm 2) (by rfl) sc_law_like.nd (vi_range1 (by rfl) m_range (va_cons (VF.ve (vf_callB c_len call_len_seq (by rfl) m_len PySem.boot_len (va_cons (ve_var 1) va_nil))) va_nil)) (blkOk_by (own := [("_law_k", 2)]) (N := ["_law_found", "_law_due", "_law_k"]) (sc := defScope s_law_like) (by decide +kernel)) (fun _ _ _ _ _ => (pg_name (i := 2) sc_law_like.nd rfl (.inl rfl))) (fun _ _ _ _ _ => vts_nil) (fun _ _ _ _ _ => (ve_call G__law_like (hr.mono (by omega)) (by rfl) m__law_like k__law_like b__law_like (va_cons (ve_ix ix_seq r_ix (ve_var 0) (ve_var 2) (fun _ _ => rfl)) (va_cons (ve_ix ix_seq r_ix (ve_var 1) (ve_var 2) (fun _ _ => rfl)) va_nil)))))) va_nil))))))))))) (fun as Q h => ?_)
    · obtain ⟨f, d, rfl, _⟩ := h
      rfl
    · obtain ⟨f, d, rfl, hd, hf, q⟩ := h
      have seq : ∀ (get : List PyData → PyData), (∀ (wa wb : WE) (ρ : Rho) (ds : List PyData) (i : Int) (v : PyData), Evs wa ρ emp (.dat (get ds)) → Evs wb ρ emp (.dat (.int i)) → atI ds i = some v → Evs (wOp gIx wa wb) ρ emp (.dat v)) → ∀ as bs : List PyData, as.length = bs.length → bs.length ≤ 100000 → deps bs < n → deps as < 1000 → Q (.bool (likes as bs)) →
          lcW (lcF (.nm 2) wYes (wCall (Flike n) (waCons (wOp gIx (wVar 0) (wVar 2)) (waCons (wOp gIx (wVar 1) (wVar 2)) waNil))) [some (.dat (get as)), some (.dat (get bs)), none] emp) (rng 0 bs.length) (fun es => gAll emp [.dat (.list es)] fun a => match a with | .dat d => Q d | _ => False) := by
        intro get hget as bs hl hb db da q
        refine lcW_map (g := onI fun i => .bool (like (as.getD i .none) (bs.getD i .none))) (fun d hd R hR => ?_) ?_
        · obtain ⟨i, hi, rfl⟩ := mem_rng hd
          refine lcF_yes rfl (x_call (ea_cons (hget _ _ _ as i _ ev_v ev_v (at_getD (by omega))) (ea_cons (hget _ _ _ bs i _ ev_v ev_v (at_getD hi)) ea_nil)) ⟨_, _, rfl, ?_, ?_, hR⟩)
          · have := dep_getD (i := i) (show deps bs ≤ n - 1 by omega)
            omega
          · have := dep_getD (i := i) (show deps as ≤ 999 by omega)
            omega
        · rw [map_onI, show (List.range bs.length).map (fun i => PyData.bool (like (as.getD i .none) (bs.getD i .none))) = ((List.range bs.length).map fun i => like (as.getD i .none) (bs.getD i .none)).map PyData.bool by rw [List.map_map]; rfl]
          show (match boolsD (((List.range bs.length).map fun i : Nat => like (as.getD i .none) (bs.getD i .none)).map PyData.bool) with | some bs => _ | none => False)
          rw [bools_map]
          show Q _
          rw [likes_all hl]
          exact q
      rw [like_eq] at q
      have uneq : ∀ as bs : List PyData, as.length ≠ bs.length → likes as bs = false := fun as bs h => by
        cases e : likes as bs with
        | false => rfl
        | true => exact absurd (likes_len e) h
      cases d with
      | none => cases f <;> exact q
      | bool b => cases f <;> first | exact q | (simp [dep] at hf; done)
      | int b => cases f <;> first | exact ⟨_, rfl, hf, q⟩ | (simp [dep] at hf; done)
      | str b => cases f <;> first | exact q | (simp [dep] at hf; done)
      | dict b => simp [dep] at hd; omega
      | list bs =>
        cases f with
        | list as =>
          obtain ⟨h1, h2⟩ := dep_lst hd (by omega)
          obtain ⟨h3, h4⟩ := dep_lst hf (Nat.le_refl _)
          by_cases hl : as.length = bs.length
          · have e1 : decide (((as.length : Nat) : Int) = (bs.length : Nat)) = true := decide_eq_true (by omega)
            show if (!decide (((as.length : Nat) : Int) = (bs.length : Nat))) = true then _ else _
            rw [e1]
            refine ⟨⟨by omega, by omega⟩, by rw [rng_len]; omega, ?_⟩
            exact seq .list (fun _ _ _ _ _ _ => ev_ixL) as bs hl h1 (by omega) (by omega) q
          · have e1 : decide (((as.length : Nat) : Int) = (bs.length : Nat)) = false := decide_eq_false (by omega)
            show if (!decide (((as.length : Nat) : Int) = (bs.length : Nat))) = true then _ else _
            rw [e1]
            have q : Q (.bool (likes as bs)) := q
            rw [uneq as bs hl] at q
            exact q
        | dict _ => simp [dep] at hf
        | _ => exact q
      | tuple bs =>
        cases f with
        | tuple as =>
          obtain ⟨h1, h2⟩ := dep_tup hd (by omega)
          obtain ⟨h3, h4⟩ := dep_tup hf (Nat.le_refl _)
          by_cases hl : as.length = bs.length
          · have e1 : decide (((as.length : Nat) : Int) = (bs.length : Nat)) = true := decide_eq_true (by omega)
            show if (!decide (((as.length : Nat) : Int) = (bs.length : Nat))) = true then _ else _
            rw [e1]
            refine ⟨⟨by omega, by omega⟩, by rw [rng_len]; omega, ?_⟩
            exact seq .tuple (fun _ _ _ _ _ _ => ev_ixT) as bs hl h1 (by omega) (by omega) q
          · have e1 : decide (((as.length : Nat) : Int) = (bs.length : Nat)) = false := decide_eq_false (by omega)
            show if (!decide (((as.length : Nat) : Int) = (bs.length : Nat))) = true then _ else _
            rw [e1]
            have q : Q (.bool (likes as bs)) := q
            rw [uneq as bs hl] at q
            exact q
        | dict _ => simp [dep] at hf
        | _ => exact q
end
end HLaw

set_option Elab.async false
set_option linter.all false
set_option maxRecDepth 100000
set_option maxHeartbeats 1000000
namespace HLaw
open PySem PySem.Spec PyProof.Rows L2 Hod Hv
section
variable {P : Program} {w : World} {K : PySem.W.Frag} {mg : Str → Option Value} {base : Heap}

/-! good_row: 0:row 1:count 2:many -/
abbrev sgood_row : Stmt := topS 22
theorem scgood_row : FnScope ["row", "count", "many"] ["row", "count"] (defScope sgood_row) := ⟨rfl, rfl, rfl, by decide +kernel, rfl, by decide +kernel, by decide +kernel⟩
abbrev Ngood_row : List Str := ["row", "count", "many"]
abbrev psgood_row : List Str := ["row", "count"]
theorem okd_good_row {f : Addr} {fd : FuncData} (Bq : Bl mg) (Cq : Cs mg) (R : Raw K mg "good_row" sgood_row psgood_row f fd) : FnOk P w K mg base CX0 1 f fd psgood_row (spD K false Frow) := by
  obtain ⟨m_len, m_list, m_tuple, m_range, m_enumerate, m_isinstance, m_int, m_bool, m_str, m_all, m_min, m_max, m_sum⟩ := Bq
  obtain ⟨⟨t1, mc_MOST_DAYS⟩, ⟨t2, mc_MOST_STUFFS⟩, ⟨t3, mc_MOST_WORKS⟩, ⟨t4, mc_MOST_WAYS⟩, ⟨t5, mc_MOST_TIES⟩, ⟨t6, mc_MOST_LONG⟩, ⟨t7, mc_MOST_MANY⟩, ⟨t8, mc_MOST_GAP⟩, ⟨t9, mc_START⟩, ⟨t10, mc_END⟩⟩ := Cq
  refine fnD R.1 scgood_row (fun as Q h => ?_) (fun cdv Ar outer s H E hr => (vss_one (vs_ret (ve_and (ve_cmp op_eq r_eq (VF.ve (vf_callB c_len call_len_seq (by rfl) m_len PySem.boot_len (va_cons (ve_var 0) va_nil))) (ve_var 1) (nomark _)) (ve_one (VF.ve (vf_callB c_all (cr_all rfl) (by rfl) m_all (by decide +kernel) (va_cons (VF.ve (vf_lc (own := [("many", 2)]) (.nm 2) (by rfl) scgood_row.nd (vi_tup (ve_var 0)) (blkOk_by (own := [("many", 2)]) (N := ["row", "count", "many"]) (sc := defScope sgood_row) (by decide +kernel)) (fun _ _ _ _ _ => (pg_name (i := 2) scgood_row.nd rfl (.inl rfl))) (fun _ _ _ _ _ => vts_nil) (fun _ _ _ _ _ => (ve_chain op_le r_le op_le r_le ve_int (ve_var 2) (ve_glob (v := .int 9) (d := .int 9) (fun _ _ => .int _) rfl mc_MOST_MANY ⟨_, rfl⟩))))) va_nil)))))))) (fun as Q h => ?_)
  · obtain ⟨row, n, rfl, hn, h1, hf, q⟩ := h
    rfl
  · obtain ⟨row, n, rfl, hn, h1, hf, q⟩ := h
    refine x_ret (Evs.eq (ev_and (ev_eqI (ev_len ev_v rfl) ev_v) fun _ => ev_allm (ev_lcg (l := row) (g := fun x => .bool (decide (0 ≤ x) && decide (x ≤ 9))) (ei_T ev_v) (by omega) fun x hx => ⟨_, rfl, ev_chain ev_k ev_v fun _ => ev_k⟩)) (b := .dat (.bool true)) ?_) q
    have e1 : decide (((row.map PyData.int).length : Int) = n) = true := decide_eq_true (by simpa using hn)
    have e2 : (row.all fun x => decide (0 ≤ x) && decide (x ≤ 9)) = true := List.all_eq_true.mpr fun x hx => by
      obtain ⟨a, b⟩ := hf x hx
      rw [decide_eq_true a, decide_eq_true b]; rfl
    rw [e1, e2]; rfl

theorem d_good_row {f : Addr} {fd : FuncData} (Bq : Bl mg) (Cq : Cs mg) (R : Raw K mg "good_row" sgood_row psgood_row f fd) : Dfn P w K mg base 1 "good_row" psgood_row (spD K false Frow) := ⟨f, fd, okd_good_row Bq Cq R, R.2.1, R.1.kp, R.2.2⟩

/-! good_way: 0:way 1:stuffs 2:long 3:rests 4:needs -/
abbrev sgood_way : Stmt := topS 24
theorem scgood_way : FnScope ["way", "stuffs", "long", "rests", "needs"] ["way", "stuffs"] (defScope sgood_way) := ⟨rfl, rfl, rfl, by decide +kernel, rfl, by decide +kernel, by decide +kernel⟩
abbrev Ngood_way : List Str := ["way", "stuffs", "long", "rests", "needs"]
abbrev psgood_way : List Str := ["way", "stuffs"]
theorem okd_good_way {f : Addr} {fd : FuncData} (Bq : Bl mg) (Cq : Cs mg) (R : Raw K mg "good_way" sgood_way psgood_way f fd) (D_good_row : Dfn P w K mg base 1 "good_row" psgood_row (spD K false Frow)) : FnOk P w K mg base CX0 2 f fd psgood_way (spD K false Fway) := by
  obtain ⟨m_len, m_list, m_tuple, m_range, m_enumerate, m_isinstance, m_int, m_bool, m_str, m_all, m_min, m_max, m_sum⟩ := Bq
  obtain ⟨⟨t1, mc_MOST_DAYS⟩, ⟨t2, mc_MOST_STUFFS⟩, ⟨t3, mc_MOST_WORKS⟩, ⟨t4, mc_MOST_WAYS⟩, ⟨t5, mc_MOST_TIES⟩, ⟨t6, mc_MOST_LONG⟩, ⟨t7, mc_MOST_MANY⟩, ⟨t8, mc_MOST_GAP⟩, ⟨t9, mc_START⟩, ⟨t10, mc_END⟩⟩ := Cq
  obtain ⟨f_good_row, fd_good_row, G_good_row, m_good_row, k_good_row, b_good_row⟩ := D_good_row
  refine fnD R.1 scgood_way (fun as Q h => ?_) (fun cdv Ar outer s H E hr => (vss_cons (vs_if (vt_cmp op_ne r_ne (VF.ve (vf_callB c_len call_len_seq (by rfl) m_len PySem.boot_len (va_cons (ve_var 0) va_nil))) ve_int (nomark _)) (vss_one (vs_ret ve_bl)) vss_nil)
    (vss_cons (vs_asg (.tp [(.nm 2), (.nm 3), (.nm 4)]) (ve_var 0) (pg_tup rfl (pgs_cons (pg_name (i := 2) scgood_way.nd rfl (.inl rfl)) (pgs_cons (pg_name (i := 3) scgood_way.nd rfl (.inl rfl)) (pgs_cons (pg_name (i := 4) scgood_way.nd rfl (.inl rfl)) pgs_nil)))))
    (vss_one (vs_ret (ve_and (ve_chain op_le r_le op_le r_le ve_int (ve_var 2) (ve_glob (v := .int 9) (d := .int 9) (fun _ _ => .int _) rfl mc_MOST_LONG ⟨_, rfl⟩)) (ve_and (ve_chain op_le r_le op_le r_le ve_int (ve_var 3) ve_int) (ve_one (ve_call G_good_row (hr.mono (by omega)) (by rfl) m_good_row k_good_row b_good_row (va_cons (ve_var 4) (va_cons (ve_var 1) va_nil))))))))))) (fun as Q h => ?_)
  · obtain ⟨v, n, rfl, ho, h1, q⟩ := h
    rfl
  · obtain ⟨v, n, rfl, ho, h1, q⟩ := h
    refine s_if0 (EvTs.eq (et_B (ev_neI (ev_len ev_v rfl) ev_k)) rfl) ?_
    refine s_asg ev_v rfl ?_
    refine x_ret (Evs.eq (ev_and (ev_chain ev_k ev_v fun _ => ev_k) fun _ => ev_and (ev_chain ev_k ev_v fun _ => ev_k) fun _ => ev_call (d := .bool true) (ea_cons ev_v (ea_cons ev_v ea_nil)) fun Q q => ⟨v.needs, n, rfl, by rw [ho.nl], by omega, ho.nf, q⟩) (b := .dat (.bool true)) ?_) q
    have a := ho.l1; have b := ho.l9
    have c : 0 ≤ v.rests ∧ v.rests ≤ 1 := by rcases ho.r with r | r <;> omega
    rw [decide_eq_true a, decide_eq_true b, decide_eq_true c.1, decide_eq_true c.2]; rfl

theorem d_good_way {f : Addr} {fd : FuncData} (Bq : Bl mg) (Cq : Cs mg) (R : Raw K mg "good_way" sgood_way psgood_way f fd) (D_good_row : Dfn P w K mg base 1 "good_row" psgood_row (spD K false Frow)) : Dfn P w K mg base 2 "good_way" psgood_way (spD K false Fway) := ⟨f, fd, okd_good_way Bq Cq R D_good_row, R.2.1, R.1.kp, R.2.2⟩

/-! good_work: 0:work 1:days 2:stuffs 3:low 4:high 5:ways 6:way -/
abbrev sgood_work : Stmt := topS 23
theorem scgood_work : FnScope ["work", "days", "stuffs", "low", "high", "ways", "way"] ["work", "days", "stuffs"] (defScope sgood_work) := ⟨rfl, rfl, rfl, by decide +kernel, rfl, by decide +kernel, by decide +kernel⟩
abbrev Ngood_work : List Str := ["work", "days", "stuffs", "low", "high", "ways", "way"]
abbrev psgood_work : List Str := ["work", "days", "stuffs"]
theorem okd_good_work {f : Addr} {fd : FuncData} (Bq : Bl mg) (Cq : Cs mg) (R : Raw K mg "good_work" sgood_work psgood_work f fd) (D_good_way : Dfn P w K mg base 2 "good_way" psgood_way (spD K false Fway)) : FnOk P w K mg base CX0 3 f fd psgood_work (spD K false Fwork) := by
  obtain ⟨m_len, m_list, m_tuple, m_range, m_enumerate, m_isinstance, m_int, m_bool, m_str, m_all, m_min, m_max, m_sum⟩ := Bq
  obtain ⟨⟨t1, mc_MOST_DAYS⟩, ⟨t2, mc_MOST_STUFFS⟩, ⟨t3, mc_MOST_WORKS⟩, ⟨t4, mc_MOST_WAYS⟩, ⟨t5, mc_MOST_TIES⟩, ⟨t6, mc_MOST_LONG⟩, ⟨t7, mc_MOST_MANY⟩, ⟨t8, mc_MOST_GAP⟩, ⟨t9, mc_START⟩, ⟨t10, mc_END⟩⟩ := Cq
  obtain ⟨f_good_way, fd_good_way, G_good_way, m_good_way, k_good_way, b_good_way⟩ := D_good_way
  refine fnD R.1 scgood_work (fun as Q h => ?_) (fun cdv Ar outer s H E hr => (vss_cons (vs_if (vt_cmp op_ne r_ne (VF.ve (vf_callB c_len call_len_seq (by rfl) m_len PySem.boot_len (va_cons (ve_var 0) va_nil))) ve_int (nomark _)) (vss_one (vs_ret ve_bl)) vss_nil)
    (vss_cons (vs_asg (.tp [(.nm 3), (.nm 4), (.nm 5)]) (ve_var 0) (pg_tup rfl (pgs_cons (pg_name (i := 3) scgood_work.nd rfl (.inl rfl)) (pgs_cons (pg_name (i := 4) scgood_work.nd rfl (.inl rfl)) (pgs_cons (pg_name (i := 5) scgood_work.nd rfl (.inl rfl)) pgs_nil)))))
    (vss_cons (vs_if (VW.vt (vw_or (vt_not (vt_chain3 op_le r_le op_lt r_lt op_le r_le ve_int (ve_var 3) (ve_var 4) (ve_var 1))) (vw_or1 (vt_not (vt_chain op_le r_le op_le r_le ve_int (VF.ve (vf_callB c_len call_len_seq (by rfl) m_len PySem.boot_len (va_cons (ve_var 5) va_nil))) (ve_glob (v := .int 3) (d := .int 3) (fun _ _ => .int _) rfl mc_MOST_WAYS ⟨_, rfl⟩)))))) (vss_one (vs_ret ve_bl)) vss_nil)
    (vss_one (vs_retF (vf_callB c_all (cr_all rfl) (by rfl) m_all (by decide +kernel) (va_cons (VF.ve (vf_lc (own := [("way", 6)]) (.nm 6) (by rfl) scgood_work.nd (vi_tup (ve_var 5)) (blkOk_by (own := [("way", 6)]) (N := ["work", "days", "stuffs", "low", "high", "ways", "way"]) (sc := defScope sgood_work) (by decide +kernel)) (fun _ _ _ _ _ => (pg_name (i := 6) scgood_work.nd rfl (.inl rfl))) (fun _ _ _ _ _ => vts_nil) (fun _ _ _ _ _ => (ve_call G_good_way (hr.mono (by omega)) (by rfl) m_good_way k_good_way b_good_way (va_cons (ve_var 6) (va_cons (ve_var 2) va_nil)))))) va_nil)))))))) (fun as Q h => ?_)
  · obtain ⟨v, dd, n, rfl, ho, h1, q⟩ := h
    rfl
  · obtain ⟨v, dd, n, rfl, ho, h1, q⟩ := h
    refine s_if0 (EvTs.eq (et_B (ev_neI (ev_len ev_v rfl) ev_k)) rfl) ?_
    refine s_asg ev_v rfl ?_
    refine s_if0 (EvTs.eq (et_or (k := false) (l := false) (EvTs.eq (et_not (et_chain3 ev_k ev_v ev_v ev_v)) ?_) fun _ => EvTs.eq (et_not (et_B (ev_chain ev_k (ev_len ev_v rfl) fun _ => ev_k))) ?_) rfl) ?_
    · have a := ho.l0; have b := ho.lh; have c := ho.hd
      rw [decide_eq_true a, decide_eq_true b, decide_eq_true c]; rfl
    · have a := ho.w1; have b := ho.w3
      rw [decide_eq_true (show (1 : Int) ≤ ((v.ways.map Way.e).length : Nat) by rw [List.length_map]; omega), decide_eq_true (show (((v.ways.map Way.e).length : Nat) : Int) ≤ 3 by rw [List.length_map]; omega)]; rfl
    · have b := ho.w3
      refine x_retF (Evs.eq (ev_allm (b := fun _ => true) (ev_lcg (l := v.ways) (g := fun _ => .bool true) (ei_T ev_v) (by omega) fun x hx => ⟨_, rfl, ev_call (ea_cons ev_v (ea_cons ev_v ea_nil)) fun Q q => ⟨x, n, rfl, ho.ws x hx, h1, q⟩⟩)) (b := .dat (.bool true)) ?_) q
      rw [List.all_eq_true.mpr fun _ _ => rfl]

theorem d_good_work {f : Addr} {fd : FuncData} (Bq : Bl mg) (Cq : Cs mg) (R : Raw K mg "good_work" sgood_work psgood_work f fd) (D_good_way : Dfn P w K mg base 2 "good_way" psgood_way (spD K false Fway)) : Dfn P w K mg base 3 "good_work" psgood_work (spD K false Fwork) := ⟨f, fd, okd_good_work Bq Cq R D_good_way, R.2.1, R.1.kp, R.2.2⟩

/-! good_tie: 0:tie 1:works 2:kind 3:one 4:other 5:gap -/
abbrev sgood_tie : Stmt := topS 25
theorem scgood_tie : FnScope ["tie", "works", "kind", "one", "other", "gap"] ["tie", "works"] (defScope sgood_tie) := ⟨rfl, rfl, rfl, by decide +kernel, rfl, by decide +kernel, by decide +kernel⟩
abbrev Ngood_tie : List Str := ["tie", "works", "kind", "one", "other", "gap"]
abbrev psgood_tie : List Str := ["tie", "works"]
theorem okd_good_tie {f : Addr} {fd : FuncData} (Bq : Bl mg) (Cq : Cs mg) (R : Raw K mg "good_tie" sgood_tie psgood_tie f fd) : FnOk P w K mg base CX0 1 f fd psgood_tie (spD K false Ftie) := by
  obtain ⟨m_len, m_list, m_tuple, m_range, m_enumerate, m_isinstance, m_int, m_bool, m_str, m_all, m_min, m_max, m_sum⟩ := Bq
  obtain ⟨⟨t1, mc_MOST_DAYS⟩, ⟨t2, mc_MOST_STUFFS⟩, ⟨t3, mc_MOST_WORKS⟩, ⟨t4, mc_MOST_WAYS⟩, ⟨t5, mc_MOST_TIES⟩, ⟨t6, mc_MOST_LONG⟩, ⟨t7, mc_MOST_MANY⟩, ⟨t8, mc_MOST_GAP⟩, ⟨t9, mc_START⟩, ⟨t10, mc_END⟩⟩ := Cq
  refine fnD R.1 scgood_tie (fun as Q h => ?_) (fun cdv Ar outer s H E hr => (vss_cons (vs_if (vt_cmp op_ne r_ne (VF.ve (vf_callB c_len call_len_seq (by rfl) m_len PySem.boot_len (va_cons (ve_var 0) va_nil))) ve_int (nomark _)) (vss_one (vs_ret ve_bl)) vss_nil)
    (vss_cons (vs_asg (.tp [(.nm 2), (.nm 3), (.nm 4), (.nm 5)]) (ve_var 0) (pg_tup rfl (pgs_cons (pg_name (i := 2) scgood_tie.nd rfl (.inl rfl)) (pgs_cons (pg_name (i := 3) scgood_tie.nd rfl (.inl rfl)) (pgs_cons (pg_name (i := 4) scgood_tie.nd rfl (.inl rfl)) (pgs_cons (pg_name (i := 5) scgood_tie.nd rfl (.inl rfl)) pgs_nil))))))
    (vss_cons (vs_if (VW.vt (vw_or (vt_cmp op_notIn_seq r_in (ve_var 2) (ve_tup (va_cons (ve_glob (v := .int 0) (d := .int 0) (fun _ _ => .int _) rfl mc_START ⟨_, rfl⟩) (va_cons (ve_glob (v := .int 1) (d := .int 1) (fun _ _ => .int _) rfl mc_END ⟨_, rfl⟩) va_nil))) (by rfl)) (vw_or1 (vt_cmp op_eq r_eq (ve_var 3) (ve_var 4) (nomark _))))) (vss_one (vs_ret ve_bl)) vss_nil)
    (vss_one (vs_ret (ve_and (ve_chain op_le r_le op_lt r_lt ve_int (ve_var 3) (ve_var 1)) (ve_and (ve_chain op_le r_le op_lt r_lt ve_int (ve_var 4) (ve_var 1)) (ve_one (ve_chain op_le r_le op_le r_le (ve_neg (ve_glob (v := .int 20) (d := .int 20) (fun _ _ => .int _) rfl mc_MOST_GAP ⟨_, rfl⟩)) (ve_var 5) (ve_glob (v := .int 20) (d := .int 20) (fun _ _ => .int _) rfl mc_MOST_GAP ⟨_, rfl⟩))))))))))) (fun as Q h => ?_)
  · obtain ⟨t, m, rfl, ho, q⟩ := h
    rfl
  · obtain ⟨t, m, rfl, ho, q⟩ := h
    refine s_if0 (EvTs.eq (et_B (ev_neI (ev_len ev_v rfl) ev_k)) rfl) ?_
    refine s_asg ev_v rfl ?_
    refine s_if0 (EvTs.eq (et_or (k := false) (l := false) (EvTs.eq (et_B (ev_in ev_v (ev_tup (ea_cons ev_k (ea_cons ev_k ea_nil))) rfl rfl rfl)) ?_) fun _ => EvTs.eq (et_B (ev_eqI ev_v ev_v)) (decide_eq_false ho.ne)) rfl) ?_
    · show (!((0 == t.kind) || ((1 == t.kind) || false))) = false
      rcases ho.k with r | r <;> rw [r] <;> rfl
    · refine x_ret (Evs.eq (ev_and (ev_chain ev_k ev_v fun _ => ev_v) fun _ => ev_and (ev_chain ev_k ev_v fun _ => ev_v) fun _ => ev_chain (ev_neg ev_k) ev_v fun _ => ev_k) (b := .dat (.bool true)) ?_) q
      have a := ho.o0; have b := ho.om; have c := ho.p0; have d := ho.pm; have e := ho.g0; have f := ho.g1
      rw [decide_eq_true a, decide_eq_true b, decide_eq_true c, decide_eq_true d, decide_eq_true e, decide_eq_true f]; rfl

theorem d_good_tie {f : Addr} {fd : FuncData} (Bq : Bl mg) (Cq : Cs mg) (R : Raw K mg "good_tie" sgood_tie psgood_tie f fd) : Dfn P w K mg base 1 "good_tie" psgood_tie (spD K false Ftie) := ⟨f, fd, okd_good_tie Bq Cq R, R.2.1, R.1.kp, R.2.2⟩

/-! wrong_shut: 0:shut 1:days 2:last 3:at 4:day -/
abbrev swrong_shut : Stmt := topS 18
theorem scwrong_shut : FnScope ["shut", "days", "last", "at", "day"] ["shut", "days"] (defScope swrong_shut) := ⟨rfl, rfl, rfl, by decide +kernel, rfl, by decide +kernel, by decide +kernel⟩
abbrev Nwrong_shut : List Str := ["shut", "days", "last", "at", "day"]
abbrev pswrong_shut : List Str := ["shut", "days"]
theorem okd_wrong_shut {f : Addr} {fd : FuncData} (Bq : Bl mg) (Cq : Cs mg) (R : Raw K mg "wrong_shut" swrong_shut pswrong_shut f fd) : FnOk P w K mg base CX0 1 f fd pswrong_shut (spD K false Fwshut) := by
  obtain ⟨m_len, m_list, m_tuple, m_range, m_enumerate, m_isinstance, m_int, m_bool, m_str, m_all, m_min, m_max, m_sum⟩ := Bq
  obtain ⟨⟨t1, mc_MOST_DAYS⟩, ⟨t2, mc_MOST_STUFFS⟩, ⟨t3, mc_MOST_WORKS⟩, ⟨t4, mc_MOST_WAYS⟩, ⟨t5, mc_MOST_TIES⟩, ⟨t6, mc_MOST_LONG⟩, ⟨t7, mc_MOST_MANY⟩, ⟨t8, mc_MOST_GAP⟩, ⟨t9, mc_START⟩, ⟨t10, mc_END⟩⟩ := Cq
  refine fnD R.1 scwrong_shut (fun as Q h => ?_) (fun cdv Ar outer s H E hr => (vss_cons (vs_set (i := 2) scwrong_shut.nd rfl (.inl rfl) (ve_neg ve_int))
    (vss_cons (vs_for (.tp [(.nm 3), (.nm 4)]) PassesOwn.never rfl (vi_enumT (by rfl) m_enumerate (va_cons (ve_var 0) va_nil)) (pg_tup rfl (pgs_cons (pg_name (i := 3) scwrong_shut.nd rfl (.inl rfl)) (pgs_cons (pg_name (i := 4) scwrong_shut.nd rfl (.inl rfl)) pgs_nil)))
      (vss_cons (vs_if (vt_not (vt_chain op_lt r_lt op_lt r_lt (ve_var 2) (ve_var 4) (ve_var 1))) (vss_one (vs_ret (ve_var 3))) vss_nil)
    (vss_one (vs_set (i := 2) scwrong_shut.nd rfl (.inl rfl) (ve_var 4)))))
    (vss_one (vs_ret ve_non))))) (fun as Q h => ?_)
  · obtain ⟨l, dd, rfl, ho, q⟩ := h
    rfl
  · obtain ⟨l, dd, rfl, ho, q⟩ := h
    refine s_set (ev_neg ev_k) ?_
    refine s_for (I := fun n ρ μ => ∃ s3 s4, ∃ z : Int, ρ = [some (.dat (eI l)), some (.dat (.int dd)), some (.dat (.int z)), s3, s4] ∧ Ris dd z (l.drop n)) (ei_ET ev_v) ⟨_, _, _, rfl, ho⟩ ?_ ?_
    · rintro n d ρ μ N hd ⟨s3, s4, z, rfl, hr⟩ hN
      obtain ⟨x, hx, rfl⟩ := enumD_get hd
      have hdr : l.drop n = x :: l.drop (n + 1) := by
        obtain ⟨h1, h2⟩ := List.getElem?_eq_some_iff.mp hx
        rw [List.drop_eq_getElem_cons h1, h2]
      rw [hdr] at hr
      obtain ⟨h1, h2, h3⟩ := hr
      refine ⟨_, rfl, s_if0 (EvTs.eq (et_not (et_B (ev_chain ev_v ev_v fun _ => ev_v))) (by rw [decide_eq_true h1, decide_eq_true h2]; rfl)) ?_⟩
      exact x_set ev_v (hN _ _ ⟨_, _, x, rfl, h3⟩)
    · rintro ρ μ ⟨s3, s4, z, rfl, hr⟩
      exact q

theorem d_wrong_shut {f : Addr} {fd : FuncData} (Bq : Bl mg) (Cq : Cs mg) (R : Raw K mg "wrong_shut" swrong_shut pswrong_shut f fd) : Dfn P w K mg base 1 "wrong_shut" pswrong_shut (spD K false Fwshut) := ⟨f, fd, okd_wrong_shut Bq Cq R, R.2.1, R.1.kp, R.2.2⟩

/-! wrong_stuff: 0:stuffs 1:days 2:at 3:row -/
abbrev swrong_stuff : Stmt := topS 19
theorem scwrong_stuff : FnScope ["stuffs", "days", "at", "row"] ["stuffs", "days"] (defScope swrong_stuff) := ⟨rfl, rfl, rfl, by decide +kernel, rfl, by decide +kernel, by decide +kernel⟩
abbrev Nwrong_stuff : List Str := ["stuffs", "days", "at", "row"]
abbrev pswrong_stuff : List Str := ["stuffs", "days"]
theorem okd_wrong_stuff {f : Addr} {fd : FuncData} (Bq : Bl mg) (Cq : Cs mg) (R : Raw K mg "wrong_stuff" swrong_stuff pswrong_stuff f fd) (D_good_row : Dfn P w K mg base 1 "good_row" psgood_row (spD K false Frow)) : FnOk P w K mg base CX0 2 f fd pswrong_stuff (spD K false Fwstuff) := by
  obtain ⟨m_len, m_list, m_tuple, m_range, m_enumerate, m_isinstance, m_int, m_bool, m_str, m_all, m_min, m_max, m_sum⟩ := Bq
  obtain ⟨⟨t1, mc_MOST_DAYS⟩, ⟨t2, mc_MOST_STUFFS⟩, ⟨t3, mc_MOST_WORKS⟩, ⟨t4, mc_MOST_WAYS⟩, ⟨t5, mc_MOST_TIES⟩, ⟨t6, mc_MOST_LONG⟩, ⟨t7, mc_MOST_MANY⟩, ⟨t8, mc_MOST_GAP⟩, ⟨t9, mc_START⟩, ⟨t10, mc_END⟩⟩ := Cq
  obtain ⟨f_good_row, fd_good_row, G_good_row, m_good_row, k_good_row, b_good_row⟩ := D_good_row
  refine fnD R.1 scwrong_stuff (fun as Q h => ?_) (fun cdv Ar outer s H E hr => (vss_cons (vs_for (.tp [(.nm 2), (.nm 3)]) PassesOwn.never rfl (vi_enumT (by rfl) m_enumerate (va_cons (ve_var 0) va_nil)) (pg_tup rfl (pgs_cons (pg_name (i := 2) scwrong_stuff.nd rfl (.inl rfl)) (pgs_cons (pg_name (i := 3) scwrong_stuff.nd rfl (.inl rfl)) pgs_nil)))
      (vss_one (vs_if (VW.vt (vw_or (vt_cmp op_ge r_ge (ve_var 2) (ve_glob (v := .int 3) (d := .int 3) (fun _ _ => .int _) rfl mc_MOST_STUFFS ⟨_, rfl⟩) (nomark _)) (vw_or1 (vt_not (vt_val (ve_call G_good_row (hr.mono (by omega)) (by rfl) m_good_row k_good_row b_good_row (va_cons (ve_var 3) (va_cons (ve_var 1) va_nil)))))))) (vss_one (vs_ret (ve_var 2))) vss_nil)))
    (vss_one (vs_ret ve_non)))) (fun as Q h => ?_)
  · obtain ⟨l, dd, rfl, h1, hl, ho, q⟩ := h
    rfl
  · obtain ⟨l, dd, rfl, h1, hl, ho, q⟩ := h
    refine s_for (I := fun n ρ μ => ∃ sa sb, ρ = [some (.dat (.tuple (l.map eI))), some (.dat (.int dd)), sa, sb]) (ei_ET ev_v) ⟨_, _, rfl⟩ ?_ ?_
    · rintro n d ρ μ N hd ⟨sa, sb, rfl⟩ hN
      obtain ⟨x, hx, rfl⟩ := enumD_get hd
      have hn := lt_of_get hx
      have hm : x ∈ l := List.mem_of_getElem? hx
      refine ⟨_, rfl, x_if (k := false) (EvTs.eq (et_or (k := false) (l := false) (EvTs.eq (et_B (ev_I ev_v ev_k)) (decide_eq_false (by omega))) fun _ => EvTs.eq (et_not (et_B (ev_call (d := .bool true) (ea_cons ev_v (ea_cons ev_v ea_nil)) fun Q q => ⟨x, dd, rfl, (ho x hm).1, h1, (ho x hm).2, q⟩))) rfl) rfl) (fun z => nomatch z) fun _ => hN _ _ ⟨_, _, rfl⟩⟩
    · rintro ρ μ ⟨sa, sb, rfl⟩
      exact q

theorem d_wrong_stuff {f : Addr} {fd : FuncData} (Bq : Bl mg) (Cq : Cs mg) (R : Raw K mg "wrong_stuff" swrong_stuff pswrong_stuff f fd) (D_good_row : Dfn P w K mg base 1 "good_row" psgood_row (spD K false Frow)) : Dfn P w K mg base 2 "wrong_stuff" pswrong_stuff (spD K false Fwstuff) := ⟨f, fd, okd_wrong_stuff Bq Cq R D_good_row, R.2.1, R.1.kp, R.2.2⟩

/-! wrong_work: 0:works 1:days 2:stuffs 3:at 4:work -/
abbrev swrong_work : Stmt := topS 20
theorem scwrong_work : FnScope ["works", "days", "stuffs", "at", "work"] ["works", "days", "stuffs"] (defScope swrong_work) := ⟨rfl, rfl, rfl, by decide +kernel, rfl, by decide +kernel, by decide +kernel⟩
abbrev Nwrong_work : List Str := ["works", "days", "stuffs", "at", "work"]
abbrev pswrong_work : List Str := ["works", "days", "stuffs"]
theorem okd_wrong_work {f : Addr} {fd : FuncData} (Bq : Bl mg) (Cq : Cs mg) (R : Raw K mg "wrong_work" swrong_work pswrong_work f fd) (D_good_work : Dfn P w K mg base 3 "good_work" psgood_work (spD K false Fwork)) : FnOk P w K mg base CX0 4 f fd pswrong_work (spD K false Fwwork) := by
  obtain ⟨m_len, m_list, m_tuple, m_range, m_enumerate, m_isinstance, m_int, m_bool, m_str, m_all, m_min, m_max, m_sum⟩ := Bq
  obtain ⟨⟨t1, mc_MOST_DAYS⟩, ⟨t2, mc_MOST_STUFFS⟩, ⟨t3, mc_MOST_WORKS⟩, ⟨t4, mc_MOST_WAYS⟩, ⟨t5, mc_MOST_TIES⟩, ⟨t6, mc_MOST_LONG⟩, ⟨t7, mc_MOST_MANY⟩, ⟨t8, mc_MOST_GAP⟩, ⟨t9, mc_START⟩, ⟨t10, mc_END⟩⟩ := Cq
  obtain ⟨f_good_work, fd_good_work, G_good_work, m_good_work, k_good_work, b_good_work⟩ := D_good_work
  refine fnD R.1 scwrong_work (fun as Q h => ?_) (fun cdv Ar outer s H E hr => (vss_cons (vs_for (.tp [(.nm 3), (.nm 4)]) PassesOwn.never rfl (vi_enumT (by rfl) m_enumerate (va_cons (ve_var 0) va_nil)) (pg_tup rfl (pgs_cons (pg_name (i := 3) scwrong_work.nd rfl (.inl rfl)) (pgs_cons (pg_name (i := 4) scwrong_work.nd rfl (.inl rfl)) pgs_nil)))
      (vss_one (vs_if (VW.vt (vw_or (vt_cmp op_ge r_ge (ve_var 3) (ve_glob (v := .int 6) (d := .int 6) (fun _ _ => .int _) rfl mc_MOST_WORKS ⟨_, rfl⟩) (nomark _)) (vw_or1 (vt_not (vt_val (ve_call G_good_work (hr.mono (by omega)) (by rfl) m_good_work k_good_work b_good_work (va_cons (ve_var 4) (va_cons (ve_var 1) (va_cons (ve_var 2) va_nil))))))))) (vss_one (vs_ret (ve_var 3))) vss_nil)))
    (vss_one (vs_ret ve_non)))) (fun as Q h => ?_)
  · obtain ⟨l, dd, n0, rfl, h1, hl, ho, q⟩ := h
    rfl
  · obtain ⟨l, dd, n0, rfl, h1, hl, ho, q⟩ := h
    refine s_for (I := fun n ρ μ => ∃ sa sb, ρ = [some (.dat (.tuple (l.map Wrk.e))), some (.dat (.int dd)), some (.dat (.int n0)), sa, sb]) (ei_ET ev_v) ⟨_, _, rfl⟩ ?_ ?_
    · rintro n d ρ μ N hd ⟨sa, sb, rfl⟩ hN
      obtain ⟨x, hx, rfl⟩ := enumD_get hd
      have hn := lt_of_get hx
      have hm : x ∈ l := List.mem_of_getElem? hx
      refine ⟨_, rfl, x_if (k := false) (EvTs.eq (et_or (k := false) (l := false) (EvTs.eq (et_B (ev_I ev_v ev_k)) (decide_eq_false (by omega))) fun _ => EvTs.eq (et_not (et_B (ev_call (d := .bool true) (ea_cons ev_v (ea_cons ev_v (ea_cons ev_v ea_nil))) fun Q q => ⟨x, dd, n0, rfl, ho x hm, h1, q⟩))) rfl) rfl) (fun z => nomatch z) fun _ => hN _ _ ⟨_, _, rfl⟩⟩
    · rintro ρ μ ⟨sa, sb, rfl⟩
      exact q

theorem d_wrong_work {f : Addr} {fd : FuncData} (Bq : Bl mg) (Cq : Cs mg) (R : Raw K mg "wrong_work" swrong_work pswrong_work f fd) (D_good_work : Dfn P w K mg base 3 "good_work" psgood_work (spD K false Fwork)) : Dfn P w K mg base 4 "wrong_work" pswrong_work (spD K false Fwwork) := ⟨f, fd, okd_wrong_work Bq Cq R D_good_work, R.2.1, R.1.kp, R.2.2⟩

/-! wrong_tie: 0:ties 1:works 2:at 3:tie -/
abbrev swrong_tie : Stmt := topS 21
theorem scwrong_tie : FnScope ["ties", "works", "at", "tie"] ["ties", "works"] (defScope swrong_tie) := ⟨rfl, rfl, rfl, by decide +kernel, rfl, by decide +kernel, by decide +kernel⟩
abbrev Nwrong_tie : List Str := ["ties", "works", "at", "tie"]
abbrev pswrong_tie : List Str := ["ties", "works"]
theorem okd_wrong_tie {f : Addr} {fd : FuncData} (Bq : Bl mg) (Cq : Cs mg) (R : Raw K mg "wrong_tie" swrong_tie pswrong_tie f fd) (D_good_tie : Dfn P w K mg base 1 "good_tie" psgood_tie (spD K false Ftie)) : FnOk P w K mg base CX0 2 f fd pswrong_tie (spD K false Fwtie) := by
  obtain ⟨m_len, m_list, m_tuple, m_range, m_enumerate, m_isinstance, m_int, m_bool, m_str, m_all, m_min, m_max, m_sum⟩ := Bq
  obtain ⟨⟨t1, mc_MOST_DAYS⟩, ⟨t2, mc_MOST_STUFFS⟩, ⟨t3, mc_MOST_WORKS⟩, ⟨t4, mc_MOST_WAYS⟩, ⟨t5, mc_MOST_TIES⟩, ⟨t6, mc_MOST_LONG⟩, ⟨t7, mc_MOST_MANY⟩, ⟨t8, mc_MOST_GAP⟩, ⟨t9, mc_START⟩, ⟨t10, mc_END⟩⟩ := Cq
  obtain ⟨f_good_tie, fd_good_tie, G_good_tie, m_good_tie, k_good_tie, b_good_tie⟩ := D_good_tie
  refine fnD R.1 scwrong_tie (fun as Q h => ?_) (fun cdv Ar outer s H E hr => (vss_cons (vs_for (.tp [(.nm 2), (.nm 3)]) PassesOwn.never rfl (vi_enumT (by rfl) m_enumerate (va_cons (ve_var 0) va_nil)) (pg_tup rfl (pgs_cons (pg_name (i := 2) scwrong_tie.nd rfl (.inl rfl)) (pgs_cons (pg_name (i := 3) scwrong_tie.nd rfl (.inl rfl)) pgs_nil)))
      (vss_one (vs_if (VW.vt (vw_or (vt_cmp op_ge r_ge (ve_var 2) (ve_glob (v := .int 12) (d := .int 12) (fun _ _ => .int _) rfl mc_MOST_TIES ⟨_, rfl⟩) (nomark _)) (vw_or1 (vt_not (vt_val (ve_call G_good_tie (hr.mono (by omega)) (by rfl) m_good_tie k_good_tie b_good_tie (va_cons (ve_var 3) (va_cons (ve_var 1) va_nil)))))))) (vss_one (vs_ret (ve_var 2))) vss_nil)))
    (vss_one (vs_ret ve_non)))) (fun as Q h => ?_)
  · obtain ⟨l, m0, rfl, hl, ho, q⟩ := h
    rfl
  · obtain ⟨l, m0, rfl, hl, ho, q⟩ := h
    refine s_for (I := fun n ρ μ => ∃ sa sb, ρ = [some (.dat (.tuple (l.map Tie.e))), some (.dat (.int m0)), sa, sb]) (ei_ET ev_v) ⟨_, _, rfl⟩ ?_ ?_
    · rintro n d ρ μ N hd ⟨sa, sb, rfl⟩ hN
      obtain ⟨x, hx, rfl⟩ := enumD_get hd
      have hn := lt_of_get hx
      have hm : x ∈ l := List.mem_of_getElem? hx
      refine ⟨_, rfl, x_if (k := false) (EvTs.eq (et_or (k := false) (l := false) (EvTs.eq (et_B (ev_I ev_v ev_k)) (decide_eq_false (by omega))) fun _ => EvTs.eq (et_not (et_B (ev_call (d := .bool true) (ea_cons ev_v (ea_cons ev_v ea_nil)) fun Q q => ⟨x, m0, rfl, ho x hm, q⟩))) rfl) rfl) (fun z => nomatch z) fun _ => hN _ _ ⟨_, _, rfl⟩⟩
    · rintro ρ μ ⟨sa, sb, rfl⟩
      exact q

theorem d_wrong_tie {f : Addr} {fd : FuncData} (Bq : Bl mg) (Cq : Cs mg) (R : Raw K mg "wrong_tie" swrong_tie pswrong_tie f fd) (D_good_tie : Dfn P w K mg base 1 "good_tie" psgood_tie (spD K false Ftie)) : Dfn P w K mg base 2 "wrong_tie" pswrong_tie (spD K false Fwtie) := ⟨f, fd, okd_wrong_tie Bq Cq R D_good_tie, R.2.1, R.1.kp, R.2.2⟩

/-! first_wrong: 0:yard 1:days 2:shut 3:stuffs 4:works 5:ties 6:places 7:part 8:at -/
abbrev sfirst_wrong : Stmt := topS 17
theorem scfirst_wrong : FnScope ["yard", "days", "shut", "stuffs", "works", "ties", "places", "part", "at"] ["yard"] (defScope sfirst_wrong) := ⟨rfl, rfl, rfl, by decide +kernel, rfl, by decide +kernel, by decide +kernel⟩
abbrev Nfirst_wrong : List Str := ["yard", "days", "shut", "stuffs", "works", "ties", "places", "part", "at"]
abbrev psfirst_wrong : List Str := ["yard"]
theorem okd_first_wrong {f : Addr} {fd : FuncData} (Bq : Bl mg) (Cq : Cs mg) (R : Raw K mg "first_wrong" sfirst_wrong psfirst_wrong f fd) (D_wrong_shut : Dfn P w K mg base 1 "wrong_shut" pswrong_shut (spD K false Fwshut)) (D_wrong_stuff : Dfn P w K mg base 2 "wrong_stuff" pswrong_stuff (spD K false Fwstuff)) (D_wrong_work : Dfn P w K mg base 4 "wrong_work" pswrong_work (spD K false Fwwork)) (D_wrong_tie : Dfn P w K mg base 2 "wrong_tie" pswrong_tie (spD K false Fwtie)) : FnOk P w K mg base CX0 5 f fd psfirst_wrong (spD K false Fyard) := by
  obtain ⟨m_len, m_list, m_tuple, m_range, m_enumerate, m_isinstance, m_int, m_bool, m_str, m_all, m_min, m_max, m_sum⟩ := Bq
  obtain ⟨⟨t1, mc_MOST_DAYS⟩, ⟨t2, mc_MOST_STUFFS⟩, ⟨t3, mc_MOST_WORKS⟩, ⟨t4, mc_MOST_WAYS⟩, ⟨t5, mc_MOST_TIES⟩, ⟨t6, mc_MOST_LONG⟩, ⟨t7, mc_MOST_MANY⟩, ⟨t8, mc_MOST_GAP⟩, ⟨t9, mc_START⟩, ⟨t10, mc_END⟩⟩ := Cq
  obtain ⟨f_wrong_shut, fd_wrong_shut, G_wrong_shut, m_wrong_shut, k_wrong_shut, b_wrong_shut⟩ := D_wrong_shut
  obtain ⟨f_wrong_stuff, fd_wrong_stuff, G_wrong_stuff, m_wrong_stuff, k_wrong_stuff, b_wrong_stuff⟩ := D_wrong_stuff
  obtain ⟨f_wrong_work, fd_wrong_work, G_wrong_work, m_wrong_work, k_wrong_work, b_wrong_work⟩ := D_wrong_work
  obtain ⟨f_wrong_tie, fd_wrong_tie, G_wrong_tie, m_wrong_tie, k_wrong_tie, b_wrong_tie⟩ := D_wrong_tie
  refine fnD R.1 scfirst_wrong (fun as Q h => ?_) (fun cdv Ar outer s H E hr => (vss_cons (vs_asg (.tp [(.nm 1), (.nm 2), (.nm 3), (.nm 4), (.nm 5)]) (ve_var 0) (pg_tup rfl (pgs_cons (pg_name (i := 1) scfirst_wrong.nd rfl (.inl rfl)) (pgs_cons (pg_name (i := 2) scfirst_wrong.nd rfl (.inl rfl)) (pgs_cons (pg_name (i := 3) scfirst_wrong.nd rfl (.inl rfl)) (pgs_cons (pg_name (i := 4) scfirst_wrong.nd rfl (.inl rfl)) (pgs_cons (pg_name (i := 5) scfirst_wrong.nd rfl (.inl rfl)) pgs_nil)))))))
    (vss_cons (vs_if (vt_not (vt_chain op_le r_le op_le r_le ve_int (ve_var 1) (ve_glob (v := .int 20) (d := .int 20) (fun _ _ => .int _) rfl mc_MOST_DAYS ⟨_, rfl⟩))) (vss_one (vs_ret (ve_tup (va_cons ve_str (va_cons ve_int va_nil))))) vss_nil)
    (vss_cons (vs_set (i := 6) scfirst_wrong.nd rfl (.inl rfl) (ve_tup (va_cons (ve_tup (va_cons ve_str (va_cons (ve_call G_wrong_shut (hr.mono (by omega)) (by rfl) m_wrong_shut k_wrong_shut b_wrong_shut (va_cons (ve_var 2) (va_cons (ve_var 1) va_nil))) va_nil))) (va_cons (ve_tup (va_cons ve_str (va_cons (ve_call G_wrong_stuff (hr.mono (by omega)) (by rfl) m_wrong_stuff k_wrong_stuff b_wrong_stuff (va_cons (ve_var 3) (va_cons (ve_var 1) va_nil))) va_nil))) (va_cons (ve_tup (va_cons ve_str (va_cons (ve_call G_wrong_work (hr.mono (by omega)) (by rfl) m_wrong_work k_wrong_work b_wrong_work (va_cons (ve_var 4) (va_cons (ve_var 1) (va_cons (VF.ve (vf_callB c_len call_len_seq (by rfl) m_len PySem.boot_len (va_cons (ve_var 3) va_nil))) va_nil)))) va_nil))) (va_cons (ve_tup (va_cons ve_str (va_cons (ve_call G_wrong_tie (hr.mono (by omega)) (by rfl) m_wrong_tie k_wrong_tie b_wrong_tie (va_cons (ve_var 5) (va_cons (VF.ve (vf_callB c_len call_len_seq (by rfl) m_len PySem.boot_len (va_cons (ve_var 4) va_nil))) va_nil))) va_nil))) va_nil))))))
    (vss_cons (vs_for (.tp [(.nm 7), (.nm 8)]) PassesOwn.never rfl (vi_tup (ve_var 6)) (pg_tup rfl (pgs_cons (pg_name (i := 7) scfirst_wrong.nd rfl (.inl rfl)) (pgs_cons (pg_name (i := 8) scfirst_wrong.nd rfl (.inl rfl)) pgs_nil)))
      (vss_one (vs_if (vt_cmp op_notN r_notN (ve_var 8) ve_non (nomark _)) (vss_one (vs_ret (ve_tup (va_cons (ve_var 7) (va_cons (ve_var 8) va_nil))))) vss_nil)))
    (vss_one (vs_ret ve_non))))))) (fun as Q h => ?_)
  · obtain ⟨y, rfl, ho, q⟩ := h
    rfl
  · obtain ⟨y, rfl, ho, q⟩ := h
    have d1 := ho.d1; have d20 := ho.d20; have s3 := ho.s3; have w6 := ho.w6
    refine s_asg ev_v rfl ?_
    refine s_if0 (EvTs.eq (et_not (et_B (ev_chain ev_k ev_v fun _ => ev_k))) (by rw [decide_eq_true d1, decide_eq_true d20]; rfl)) ?_
    refine s_set (ev_tup (ea_cons (ev_tup (ea_cons ev_k (ea_cons (ev_call (d := .none) (ea_cons ev_v (ea_cons ev_v ea_nil)) fun Q q => ⟨_, _, rfl, ho.sh, q⟩) ea_nil))) (ea_cons (ev_tup (ea_cons ev_k (ea_cons (ev_call (d := .none) (ea_cons ev_v (ea_cons ev_v ea_nil)) fun Q q => ⟨_, _, rfl, by omega, s3, ho.st, q⟩) ea_nil))) (ea_cons (ev_tup (ea_cons ev_k (ea_cons (ev_call (d := .none) (ea_cons ev_v (ea_cons ev_v (ea_cons (ev_len ev_v rfl) ea_nil))) fun Q q => ⟨_, _, y.stuffs.length, by rw [List.length_map], by omega, w6, ho.ws, q⟩) ea_nil))) (ea_cons (ev_tup (ea_cons ev_k (ea_cons (ev_call (d := .none) (ea_cons ev_v (ea_cons (ev_len ev_v rfl) ea_nil)) fun Q q => ⟨_, y.works.length, by rw [List.length_map], ho.t12, ho.ts, q⟩) ea_nil))) ea_nil))))) ?_
    generalize Str.ofString "shut" = z1
    generalize Str.ofString "stuffs" = z2
    generalize Str.ofString "works" = z3
    generalize Str.ofString "ties" = z4
    refine s_for (I := fun n ρ μ => ∃ s7 s8, ρ = [some (.dat y.e), some (.dat (.int y.days)), some (.dat (eI y.shut)), some (.dat (.tuple (y.stuffs.map eI))), some (.dat (.tuple (y.works.map Wrk.e))), some (.dat (.tuple (y.ties.map Tie.e))), some (.dat (.tuple [.tuple [.str z1, .none], .tuple [.str z2, .none], .tuple [.str z3, .none], .tuple [.str z4, .none]])), s7, s8]) (ei_T ev_v) ⟨_, _, rfl⟩ ?_ ?_
    · rintro n d ρ μ N hd ⟨s7, s8, rfl⟩ hN
      obtain ⟨x, hx⟩ : ∃ x, d = .tuple [.str x, .none] := by
        match n, hd with
        | 0, h => exact ⟨_, (Option.some.inj h).symm⟩
        | 1, h => exact ⟨_, (Option.some.inj h).symm⟩
        | 2, h => exact ⟨_, (Option.some.inj h).symm⟩
        | 3, h => exact ⟨_, (Option.some.inj h).symm⟩
        | k + 4, h => cases h
      subst hx
      exact ⟨_, rfl, x_if (k := false) (EvTs.eq (et_B (ev_notN ev_v)) rfl) (fun z => nomatch z) fun _ => hN _ _ ⟨_, _, rfl⟩⟩
    · rintro ρ μ ⟨s7, s8, rfl⟩
      exact q

theorem d_first_wrong {f : Addr} {fd : FuncData} (Bq : Bl mg) (Cq : Cs mg) (R : Raw K mg "first_wrong" sfirst_wrong psfirst_wrong f fd) (D_wrong_shut : Dfn P w K mg base 1 "wrong_shut" pswrong_shut (spD K false Fwshut)) (D_wrong_stuff : Dfn P w K mg base 2 "wrong_stuff" pswrong_stuff (spD K false Fwstuff)) (D_wrong_work : Dfn P w K mg base 4 "wrong_work" pswrong_work (spD K false Fwwork)) (D_wrong_tie : Dfn P w K mg base 2 "wrong_tie" pswrong_tie (spD K false Fwtie)) : Dfn P w K mg base 5 "first_wrong" psfirst_wrong (spD K false Fyard) := ⟨f, fd, okd_first_wrong Bq Cq R D_wrong_shut D_wrong_stuff D_wrong_work D_wrong_tie, R.2.1, R.1.kp, R.2.2⟩

/-! check_yard: 0:yard 1:wrong 2:part 3:at -/
abbrev scheck_yard : Stmt := topS 16
theorem sccheck_yard : FnScope ["yard", "wrong", "part", "at"] ["yard"] (defScope scheck_yard) := ⟨rfl, rfl, rfl, by decide +kernel, rfl, by decide +kernel, by decide +kernel⟩
abbrev Ncheck_yard : List Str := ["yard", "wrong", "part", "at"]
abbrev pscheck_yard : List Str := ["yard"]
theorem okd_check_yard {f : Addr} {fd : FuncData} (Bq : Bl mg) (Cq : Cs mg) (R : Raw K mg "check_yard" scheck_yard pscheck_yard f fd) (D_first_wrong : Dfn P w K mg base 5 "first_wrong" psfirst_wrong (spD K false Fyard)) : FnOk P w K mg base CX0 6 f fd pscheck_yard (spD K false Fyard) := by
  obtain ⟨m_len, m_list, m_tuple, m_range, m_enumerate, m_isinstance, m_int, m_bool, m_str, m_all, m_min, m_max, m_sum⟩ := Bq
  obtain ⟨⟨t1, mc_MOST_DAYS⟩, ⟨t2, mc_MOST_STUFFS⟩, ⟨t3, mc_MOST_WORKS⟩, ⟨t4, mc_MOST_WAYS⟩, ⟨t5, mc_MOST_TIES⟩, ⟨t6, mc_MOST_LONG⟩, ⟨t7, mc_MOST_MANY⟩, ⟨t8, mc_MOST_GAP⟩, ⟨t9, mc_START⟩, ⟨t10, mc_END⟩⟩ := Cq
  obtain ⟨f_first_wrong, fd_first_wrong, G_first_wrong, m_first_wrong, k_first_wrong, b_first_wrong⟩ := D_first_wrong
  refine fnD R.1 sccheck_yard (fun as Q h => ?_) (fun cdv Ar outer s H E hr => (vss_cons (vs_set (i := 1) sccheck_yard.nd rfl (.inl rfl) (ve_call G_first_wrong (hr.mono (by omega)) (by rfl) m_first_wrong k_first_wrong b_first_wrong (va_cons (ve_var 0) va_nil)))
    (vss_one (vs_if (vt_cmp op_notN r_notN (ve_var 1) ve_non (nomark _)) (vss_cons (vs_asg (.tp [(.nm 2), (.nm 3)]) (ve_var 1) (pg_tup rfl (pgs_cons (pg_name (i := 2) sccheck_yard.nd rfl (.inl rfl)) (pgs_cons (pg_name (i := 3) sccheck_yard.nd rfl (.inl rfl)) pgs_nil))))
    (vss_one vs_never)) vss_nil)))) (fun as Q h => ?_)
  · obtain ⟨y, rfl, ho, q⟩ := h
    rfl
  · obtain ⟨y, rfl, ho, q⟩ := h
    refine s_set (ev_call (d := .none) (ea_cons ev_v ea_nil) fun Q q => ⟨y, rfl, ho, q⟩) ?_
    exact x_if (k := false) (EvTs.eq (et_B (ev_notN ev_v)) rfl) (fun z => nomatch z) fun _ => q

theorem d_check_yard {f : Addr} {fd : FuncData} (Bq : Bl mg) (Cq : Cs mg) (R : Raw K mg "check_yard" scheck_yard pscheck_yard f fd) (D_first_wrong : Dfn P w K mg base 5 "first_wrong" psfirst_wrong (spD K false Fyard)) : Dfn P w K mg base 6 "check_yard" pscheck_yard (spD K false Fyard) := ⟨f, fd, okd_check_yard Bq Cq R D_first_wrong, R.2.1, R.1.kp, R.2.2⟩

end
end HLaw

set_option Elab.async false
set_option linter.all false
set_option maxRecDepth 100000
set_option maxHeartbeats 1000000
namespace HLaw
open PySem PySem.Spec PyProof.Rows L2 Hod Hv
section
variable {P : Program} {w : World} {K : PySem.W.Frag} {mg : Str → Option Value} {base : Heap}
/-! ordered: 0:sayings -/
abbrev sordered : Stmt := topS 36
theorem scordered : FnScope ["sayings"] ["sayings"] (defScope sordered) := ⟨rfl, rfl, rfl, by decide +kernel, rfl, by decide +kernel, by decide +kernel⟩
abbrev Nordered : List Str := ["sayings"]
abbrev psordered : List Str := ["sayings"]
theorem d_ordered {f : Addr} {fd : FuncData} (Bq : Bl mg) (m_sorted : mg "sorted" = none) (m_set : mg "set" = none) (R : Raw K mg "ordered" sordered psordered f fd) : Dfn P w K mg base 1 "ordered" psordered (spD K false Fordered) := by
  obtain ⟨m_len, m_list, m_tuple, m_range, m_enumerate, m_isinstance, m_int, m_bool, m_str, m_all, m_min, m_max, m_sum⟩ := Bq
  refine ⟨f, fd, fnD R.1 scordered (fun as Q h => ?_) (fun cdv Ar outer s H E hr => (vss_one (vs_retF (vf_callTy c_tuple call_tuple_of (by rfl) m_tuple (by decide +kernel) (va_cons (VF.ve (vf_sortedSetK rfl hr.units (by rfl) m_sorted (by rfl) m_set (va_cons (ve_var 0) va_nil))) va_nil))))) (fun as Q h => ?_), R.2.1, R.1.kp, R.2.2⟩
  · obtain ⟨ss, rfl, hl, q⟩ := h
    rfl
  · obtain ⟨ss, rfl, hl, q⟩ := h
    exact x_retF (ev_tuple (a := .dat (.list ((lineK ss).map keyT))) (ev_sortedSetK (kss := ss.map Say.k) (Evs.eq ev_v (by rw [map_kT])) (by rw [List.length_map]; exact hl) (ne_says ss) (alike_says ss)) rfl) q
end
section
variable {P : Program} {w : World} {K : PySem.W.Frag} {mg : Str → Option Value} {base : Heap}

/-! check_plan: 0:yard 1:plan 2:works -/
abbrev scheck_plan : Stmt := topS 27
theorem sccheck_plan : FnScope ["yard", "plan", "works"] ["yard", "plan"] (defScope scheck_plan) := ⟨rfl, rfl, rfl, by decide +kernel, rfl, by decide +kernel, by decide +kernel⟩
abbrev Ncheck_plan : List Str := ["yard", "plan", "works"]
abbrev pscheck_plan : List Str := ["yard", "plan"]
theorem okd_check_plan {f : Addr} {fd : FuncData} (Bq : Bl mg) (Cq : Cs mg) (R : Raw K mg "check_plan" scheck_plan pscheck_plan f fd) (D_check_yard : Dfn P w K mg base 6 "check_yard" pscheck_yard (spD K false Fyard)) : FnOk P w K mg base CX0 7 f fd pscheck_plan (spD K false Fplan) := by
  obtain ⟨m_len, m_list, m_tuple, m_range, m_enumerate, m_isinstance, m_int, m_bool, m_str, m_all, m_min, m_max, m_sum⟩ := Bq
  obtain ⟨⟨t1, mc_MOST_DAYS⟩, ⟨t2, mc_MOST_STUFFS⟩, ⟨t3, mc_MOST_WORKS⟩, ⟨t4, mc_MOST_WAYS⟩, ⟨t5, mc_MOST_TIES⟩, ⟨t6, mc_MOST_LONG⟩, ⟨t7, mc_MOST_MANY⟩, ⟨t8, mc_MOST_GAP⟩, ⟨t9, mc_START⟩, ⟨t10, mc_END⟩⟩ := Cq
  obtain ⟨f_check_yard, fd_check_yard, G_check_yard, m_check_yard, k_check_yard, b_check_yard⟩ := D_check_yard
  refine fnD R.1 sccheck_plan (fun as Q h => ?_) (fun cdv Ar outer s H E hr => (vss_cons (vs_expr (ve_call G_check_yard (hr.mono (by omega)) (by rfl) m_check_yard k_check_yard b_check_yard (va_cons (ve_var 0) va_nil)))
    (vss_cons (vs_set (i := 2) sccheck_plan.nd rfl (.inl rfl) (VF.ve (vf_callB c_len call_len_seq (by rfl) m_len PySem.boot_len (va_cons (ve_ix ix_seq r_ix (ve_var 0) ve_int (fun _ _ => rfl)) va_nil))))
    (vss_one (vs_if (vt_cmp op_ne r_ne (VF.ve (vf_callB c_len call_len_seq (by rfl) m_len PySem.boot_len (va_cons (ve_var 1) va_nil))) (ve_var 2) (nomark _)) (vss_one vs_never) vss_nil))))) (fun as Q h => ?_)
  · obtain ⟨y, pl, rfl, ho, hl, q⟩ := h
    rfl
  · obtain ⟨y, pl, rfl, ho, hl, q⟩ := h
    refine s_drop (ev_call (d := .none) (ea_cons ev_v ea_nil) fun Q q => ⟨y, rfl, ho, q⟩) ?_
    refine s_set (ev_len (ev_ixT ev_v ev_k rfl) rfl) ?_
    refine x_if (k := false) (EvTs.eq (et_B (ev_neI (ev_len ev_v rfl) ev_v)) ?_) (fun z => nomatch z) fun _ => q
    rw [List.length_map, List.length_map, hl, decide_eq_true rfl]; rfl

theorem d_check_plan {f : Addr} {fd : FuncData} (Bq : Bl mg) (Cq : Cs mg) (R : Raw K mg "check_plan" scheck_plan pscheck_plan f fd) (D_check_yard : Dfn P w K mg base 6 "check_yard" pscheck_yard (spD K false Fyard)) : Dfn P w K mg base 7 "check_plan" pscheck_plan (spD K false Fplan) := ⟨f, fd, okd_check_plan Bq Cq R D_check_yard, R.2.1, R.1.kp, R.2.2⟩
end
section
variable {P : Program} {w : World} {K : PySem.W.Frag} {mg : Str → Option Value} {base : Heap}
/-! holds_of: 0:plan 1:kept 2:saying 3:word 4:work 5:number 6:begin 7:way 8:stays -/
abbrev sholds_of : Stmt := topS 37
theorem scholds_of : FnScope ["plan", "kept", "saying", "word", "work", "number", "begin", "way", "stays"] ["plan", "kept", "saying"] (defScope sholds_of) := ⟨rfl, rfl, rfl, by decide +kernel, rfl, by decide +kernel, by decide +kernel⟩
abbrev Nholds_of : List Str := ["plan", "kept", "saying", "word", "work", "number", "begin", "way", "stays"]
abbrev psholds_of : List Str := ["plan", "kept", "saying"]
theorem d_holds_of {f : Addr} {fd : FuncData} (Bq : Bl mg) (R : Raw K mg "holds_of" sholds_of psholds_of f fd) : Dfn P w K mg base 1 "holds_of" psholds_of (spD K false FholdsOf) := by
  obtain ⟨m_len, m_list, m_tuple, m_range, m_enumerate, m_isinstance, m_int, m_bool, m_str, m_all, m_min, m_max, m_sum⟩ := Bq
  refine ⟨f, fd, fnD R.1 scholds_of (fun as Q h => ?_) (fun cdv Ar outer s H E hr => (vss_cons (vs_asg (.tp [(.nm 3), (.nm 4), (.nm 5)]) (ve_var 2) (pg_tup rfl (pgs_cons (pg_name (i := 3) scholds_of.nd rfl (.inl rfl)) (pgs_cons (pg_name (i := 4) scholds_of.nd rfl (.inl rfl)) (pgs_cons (pg_name (i := 5) scholds_of.nd rfl (.inl rfl)) pgs_nil)))))
    (vss_cons (vs_asg (.tp [(.nm 6), (.nm 7)]) (ve_ix ix_seq r_ix (ve_var 0) (ve_var 4) (fun _ _ => rfl)) (pg_tup rfl (pgs_cons (pg_name (i := 6) scholds_of.nd rfl (.inl rfl)) (pgs_cons (pg_name (i := 7) scholds_of.nd rfl (.inl rfl)) pgs_nil))))
    (vss_cons (vs_if (vt_cmp op_eq r_eq (ve_var 3) ve_str (nomark _)) (vss_one (vs_ret (ve_cmp op_ge r_ge (ve_var 6) (ve_var 5) (nomark _)))) vss_nil)
    (vss_cons (vs_if (vt_cmp op_eq r_eq (ve_var 3) ve_str (nomark _)) (vss_one (vs_ret (ve_cmp op_lt r_lt (ve_var 6) (ve_var 5) (nomark _)))) vss_nil)
    (vss_cons (vs_if (vt_cmp op_eq r_eq (ve_var 3) ve_str (nomark _)) (vss_one (vs_ret (ve_cmp op_eq r_eq (ve_var 7) (ve_var 5) (nomark _)))) vss_nil)
    (vss_cons (vs_if (vt_cmp op_eq r_eq (ve_var 3) ve_str (nomark _)) (vss_one (vs_ret (ve_cmp op_ne r_ne (ve_var 7) (ve_var 5) (nomark _)))) vss_nil)
    (vss_cons (vs_set (i := 8) scholds_of.nd rfl (.inl rfl) (ve_and (ve_cmp op_gt r_gt (VF.ve (vf_callB c_len call_len_seq (by rfl) m_len PySem.boot_len (va_cons (ve_var 1) va_nil))) ve_int (nomark _)) (ve_one (ve_cmp (op_eqD hr.units) r_eqD (ve_ix ix_seq r_ix (ve_var 1) (ve_var 4) (fun _ _ => rfl)) (ve_tup (va_cons (ve_var 6) (va_cons (ve_var 7) va_nil))) (nomark _)))))
    (vss_one (vs_ret (ve_if (vt_cmp op_eq r_eq (ve_var 3) ve_str (nomark _)) (ve_var 8) (ve_not (ve_var 8))))))))))))) (fun as Q h => ?_), R.2.1, R.1.kp, R.2.2⟩
  · obtain ⟨y, pl, old, s, rfl, hs, hl, hO, q⟩ := h
    rfl
  · obtain ⟨y, pl, old, ⟨wd, k, n⟩, rfl, hs, hl, hO, q⟩ := h
    have hst := stay_at (pl := pl) hs hO
    obtain ⟨v, hv, hn⟩ := hs
    have hk : k < y.works.length := lt_of_get hv
    obtain ⟨b, hb⟩ : ∃ b, pl[k]? = some b := ⟨_, List.getElem?_eq_getElem (by omega)⟩
    have eb : pl.getD k (0, 0) = b := by rw [List.getD, hb]; rfl
    refine s_asg (d := .tuple [.str wd.s, .int k, .int n]) ev_v rfl ?_
    refine s_asg (d := prP b) (ev_ixL (ds := pl.map prP) ev_v ev_v (at_map (f := prP) hb)) rfl ?_
    have hE : ∀ (z : Str) (j : Bool), eqF (.str wd.s) (.str z) = some j → True := fun _ _ _ => trivial
    cases wd with
    | frm => exact s_if (k := true) (EvTs.eq (et_B (ev_eq (k := true) ev_v ev_k (by decide +kernel))) rfl) (fun _ => x_ret (a := .dat (.bool (hold pl old ⟨.frm, k, n⟩))) (Evs.eq (ev_I ev_v ev_v) (by show A.dat (.bool (decide (b.1 ≥ n))) = .dat (.bool (decide ((pl.getD k (0, 0)).1 ≥ n))); rw [eb])) q) fun z => nomatch z
    | ahd => exact s_if0 (EvTs.eq (et_B (ev_eq (k := false) ev_v ev_k (by decide +kernel))) rfl) (s_if (k := true) (EvTs.eq (et_B (ev_eq (k := true) ev_v ev_k (by decide +kernel))) rfl) (fun _ => x_ret (a := .dat (.bool (hold pl old ⟨.ahd, k, n⟩))) (Evs.eq (ev_I ev_v ev_v) (by show A.dat (.bool (decide (b.1 < n))) = .dat (.bool (decide ((pl.getD k (0, 0)).1 < n))); rw [eb])) q) fun z => nomatch z)
    | way => exact s_if0 (EvTs.eq (et_B (ev_eq (k := false) ev_v ev_k (by decide +kernel))) rfl) (s_if0 (EvTs.eq (et_B (ev_eq (k := false) ev_v ev_k (by decide +kernel))) rfl) (s_if (k := true) (EvTs.eq (et_B (ev_eq (k := true) ev_v ev_k (by decide +kernel))) rfl) (fun _ => x_ret (a := .dat (.bool (hold pl old ⟨.way, k, n⟩))) (Evs.eq (ev_eqI ev_v ev_v) (by show A.dat (.bool (decide (b.2 = n))) = .dat (.bool (decide ((pl.getD k (0, 0)).2 = n))); rw [eb])) q) fun z => nomatch z))
    | nt => exact s_if0 (EvTs.eq (et_B (ev_eq (k := false) ev_v ev_k (by decide +kernel))) rfl) (s_if0 (EvTs.eq (et_B (ev_eq (k := false) ev_v ev_k (by decide +kernel))) rfl) (s_if0 (EvTs.eq (et_B (ev_eq (k := false) ev_v ev_k (by decide +kernel))) rfl) (s_if (k := true) (EvTs.eq (et_B (ev_eq (k := true) ev_v ev_k (by decide +kernel))) rfl) (fun _ => x_ret (a := .dat (.bool (hold pl old ⟨.nt, k, n⟩))) (Evs.eq (ev_neI ev_v ev_v) (by show A.dat (.bool (!decide (b.2 = n))) = .dat (.bool (!decide ((pl.getD k (0, 0)).2 = n))); rw [eb])) q) fun z => nomatch z)))
    | sty =>
      refine s_if0 (EvTs.eq (et_B (ev_eq (k := false) ev_v ev_k (by decide +kernel))) rfl) (s_if0 (EvTs.eq (et_B (ev_eq (k := false) ev_v ev_k (by decide +kernel))) rfl) (s_if0 (EvTs.eq (et_B (ev_eq (k := false) ev_v ev_k (by decide +kernel))) rfl) (s_if0 (EvTs.eq (et_B (ev_eq (k := false) ev_v ev_k (by decide +kernel))) rfl) (s_set (a := .dat (.bool (stay pl old ⟨.sty, k, n⟩))) ?_ ?_))))
      · rcases hst with ⟨rfl, e⟩ | ⟨o, ho2, e⟩
        · rw [e]
          exact Evs.eq (ev_and (k := false) (l := false) (Evs.eq (ev_I (ev_len (n := 0) ev_v rfl) ev_k) rfl) fun z => nomatch z) rfl
        · rw [e]
          have hlt := lt_of_get ho2
          refine Evs.eq (ev_and (k := true) (Evs.eq (ev_I (ev_len (n := old.length) ev_v (by simp [lenA, eOld])) ev_k) (by rw [decide_eq_true (show ((old.length : Nat) : Int) > 0 by exact Int.ofNat_lt.mpr (Nat.lt_of_le_of_lt (Nat.zero_le _) hlt))])) fun _ => ev_eqD (d := eOp o) (e := prP b) (ev_ixT (ds := old.map eOp) ev_v ev_v (at_map (f := eOp) ho2)) (ev_tup (as := [.dat (.int b.1), .dat (.int b.2)]) (ea_cons ev_v (ea_cons ev_v ea_nil))) rfl rfl (shaped_of (shp_eop o) (by decide)) (shaped_of (shp_prp b) (by decide))) ?_
          show A.dat (.bool (true && _)) = .dat (.bool (PyData.eqv (eOp o) (prP (pl.getD k (0, 0)))))
          rw [eb, Bool.true_and]
      · exact x_ret (a := .dat (.bool (hold pl old ⟨.sty, k, n⟩))) (ev_if (k := true) (EvTs.eq (et_B (ev_eq (k := true) ev_v ev_k (by decide +kernel))) rfl) (fun _ => ev_v) fun z => nomatch z) q
    | mov =>
      refine s_if0 (EvTs.eq (et_B (ev_eq (k := false) ev_v ev_k (by decide +kernel))) rfl) (s_if0 (EvTs.eq (et_B (ev_eq (k := false) ev_v ev_k (by decide +kernel))) rfl) (s_if0 (EvTs.eq (et_B (ev_eq (k := false) ev_v ev_k (by decide +kernel))) rfl) (s_if0 (EvTs.eq (et_B (ev_eq (k := false) ev_v ev_k (by decide +kernel))) rfl) (s_set (a := .dat (.bool (stay pl old ⟨.mov, k, n⟩))) ?_ ?_))))
      · rcases hst with ⟨rfl, e⟩ | ⟨o, ho2, e⟩
        · rw [e]
          exact Evs.eq (ev_and (k := false) (l := false) (Evs.eq (ev_I (ev_len (n := 0) ev_v rfl) ev_k) rfl) fun z => nomatch z) rfl
        · rw [e]
          have hlt := lt_of_get ho2
          refine Evs.eq (ev_and (k := true) (Evs.eq (ev_I (ev_len (n := old.length) ev_v (by simp [lenA, eOld])) ev_k) (by rw [decide_eq_true (show ((old.length : Nat) : Int) > 0 by exact Int.ofNat_lt.mpr (Nat.lt_of_le_of_lt (Nat.zero_le _) hlt))])) fun _ => ev_eqD (d := eOp o) (e := prP b) (ev_ixT (ds := old.map eOp) ev_v ev_v (at_map (f := eOp) ho2)) (ev_tup (as := [.dat (.int b.1), .dat (.int b.2)]) (ea_cons ev_v (ea_cons ev_v ea_nil))) rfl rfl (shaped_of (shp_eop o) (by decide)) (shaped_of (shp_prp b) (by decide))) ?_
          show A.dat (.bool (true && _)) = .dat (.bool (PyData.eqv (eOp o) (prP (pl.getD k (0, 0)))))
          rw [eb, Bool.true_and]
      · exact x_ret (a := .dat (.bool (hold pl old ⟨.mov, k, n⟩))) (ev_if (k := false) (EvTs.eq (et_B (ev_eq (k := false) ev_v ev_k (by decide +kernel))) rfl) (fun z => nomatch z) fun _ => ev_not ev_v) q

end
end HLaw

set_option Elab.async false
set_option linter.all false
set_option maxRecDepth 100000
set_option maxHeartbeats 1000000
namespace HLaw
open PySem PySem.Spec PyProof.Rows L2 Hod Hv
abbrev iBadSaying : Stmt := clsInit (topS 4)
theorem nsBadSaying : NdefX.NScope ["self", "at", "__class__"] ["self", "at"] ["__class__"] (defScope iBadSaying) := NdefX.nscope_by (by decide +kernel)
theorem x_BadSaying {P : Program} {w : World} {K : PySem.W.Frag} {mg : Str → Option Value} {base : Heap} {C fI cc cd : Addr} {kV doc pm ct oc : Value} {an od : Option Addr} {osl : Array (Option Value)} (hm : mg "BadSaying" = some (.ref C)) (T : OexC K C) (iC : PySem.W.findIn K (.ref C) "__init__" = some (some (.ref fI))) (tI : PySem.W.typeIn K (.ref fI) = some (.type "function"))
    (lk : K.lookup fI = some ⟨oc, od, .func (PySem.W.fnX "__init__" "BadSaying.__init__" (defArgs iBadSaying) (defBody iBadSaying) (defScope iBadSaying) [("__class__", cc)] .none kV doc pm an (.ref cd) ct), osl⟩) (F : SupF P K C cc cd "BadSaying.__init__" (defScope iBadSaying) "ValueError" "ValueError.__init__") (hsu : mg "super" = none) (f_word : PySem.W.findIn K (.ref C) "word" = some none) (f_at : PySem.W.findIn K (.ref C) "at" = some none) : ExcD P w K mg base "BadSaying" "badsaying" ["at"] := by
  obtain ⟨nm, q, N, bs, bm, sn, sub, ab, col, dd, k0, k1, k2, k3, k5, hC, hbm⟩ := T.cls
  refine ⟨C, fI, _, hm, T, iC, tI, fn_sup (k := 0) lk F PySem.F.excBase_ValueError PySem.W.kxs_ValueError ⟨nm, q, N, bs, bm, sn, sub, ab, col, dd, k0, k1, k2, k3, k5, hC⟩ nsBadSaying rfl rfl rfl hsu (fun vs H Q E h => ?_) (fun A outer s H vs Q E hr h => ?_), .all fun us hl => match us, hl with | [_, _], _ => rfl⟩
  · obtain ⟨a, ws, rfl, hl, _⟩ := h
    simp [hl]
  · obtain ⟨a, ws, rfl, hl, hf, ha, q⟩ := h
    match ws, hl with
    | [w1], _ =>
    refine ⟨a, _, _, _, rfl, ha, pa_cons (pe_joined (.cons pe_str (.cons (pe_fmt (pv 1)) .nil))) pa_nil, (pss_cons (ps_ost (pv 0) pe_str) (pss_one (ps_ost (pv 0) (pv 1)))), ?_⟩
    refine (show JsOk _ _ _ 0 from (js_c (js_v 1 rfl (hf _ (by simp)) js_nil))) Str.empty _ (Nat.zero_le _) fun out => ⟨by simp, ha, ⟨.ref a, rfl, a, C, rfl, T, f_word, .inl ⟨ha, fun dx n1 n2 => ?_⟩⟩⟩
    have m0 := made_new (H := H) (C := C) (fs := [("word", V.str "badsaying")]) n2
    refine ⟨w1, rfl, .ref a, rfl, a, C, rfl, T, f_at, .inr ⟨dx, _, m0.1, m0.2.1, by decide, ?_⟩⟩
    have m1 := made_put (gs := (("at" : Str), w1) :: [("word", V.str "badsaying")]) n2 m0
    exact q dx _ _ n1 n2 m1.1 m1.2.1 (lk1 (by decide)) m1.2.2
end HLaw

set_option Elab.async false
set_option linter.all false
set_option maxRecDepth 100000
/-! dicts of one's own -/
namespace Hv
open PySem PySem.Spec PyProof.Rows L2 Hod
theorem u1 {k : Nat} {A : Around} (r : Room k A) : A.units + 1 < cLine := by have := r.un; omega
/-! ### a new cell that is no list -/
theorem off_plus_put {B : Hid} {μ : Mem} {H : Hp} {p : Addr} {xs : List A} : off B (put μ p xs) H = off (plus B p) μ H := by
  funext a
  unfold off plus
  by_cases e : a = p
  · subst e; simp
  · rw [put_ne e, decide_eq_false e, Bool.or_false]
theorem put_L' {μ : Mem} {p a : Addr} {ys : List A} (hp : μ p = none) (h : isL μ a = true) : isL (put μ p ys) a = true := by
  have ne : a ≠ p := fun e => by unfold isL at h; rw [e, hp] at h; cases h
  unfold isL; rw [put_ne ne]; exact h
theorem put_O' {μ : Mem} {p a : Addr} {ys : List A} (hp : μ p = none) (h : isO μ a = true) : isO (put μ p ys) a = true := put_O (isO_none hp) h
theorem cell_new {K : PySem.W.Frag} {xl : XLT K} {S : Hs} {B : Hid} {H0 G0 H H1 : Hp} {σ : L2.St} {ρ : Rho} {μ : Mem} {p : Addr} {o : HO} {vs : List V} {xs : List A} (s : Sts K xl S B H0 G0 σ H ρ μ) (e : Ex S H H1) (g : Good K S (plus B p) μ H1) (n : H p = none) (hp : H1 p = some o) (hh : Hol xs vs o) (r : Ras K S μ (off (plus B p) μ H1) vs (vals xs)) :
    Sts K xl S B H0 G0 σ H1 ρ (put μ p xs) := by
  obtain ⟨b1, b2⟩ := s.st.gd.free n
  have gw : Gw μ (put μ p xs) (off (plus B p) μ H1) (off B (put μ p xs) H1) := ⟨by rw [off_plus_put]; exact Same.refl _, fun a h => put_L' b2 h, fun a h => put_O' b2 h⟩
  have so : Same (off B μ H) (off (plus B p) μ H1) := fun a u h => by
    obtain ⟨h1, h2, h3⟩ := off_some h
    have ne : a ≠ p := ne_of_none h3 n
    rw [off_of (by simp [plus, h1, ne]) h2]
    exact e.keep a u (s.st.gd.sb h1) h3
  have gw2 : Gw μ (put μ p xs) (off B μ H) (off B (put μ p xs) H1) := ⟨by rw [off_plus_put]; exact so, gw.m, gw.o⟩
  refine .of ⟨fun a sa => ?_, fun a sa => ⟨(s.st.gd.tb a sa).1, (g.tb a sa).2⟩, fun a ba => g.bd a (by simp [plus, ba]), fun a ys q => ?_⟩ (s.st.sl.gw gw2) (s.old.trans e) (fun a h => ?_) (fun a u h => gw2.g a u (s.vis a u h)) s.xs
  · obtain ⟨_, h2⟩ := g.dr a sa
    rw [← off_plus_put (xs := xs)] at h2
    exact ⟨(s.st.gd.dr a sa).1, h2⟩
  · by_cases ea : a = p
    · subst ea
      rw [put_same] at q
      cases q
      exact ⟨b1, o, vs, hp, hh, r.gw gw⟩
    · rw [put_ne ea] at q
      obtain ⟨h1, u, ws, h2, h3, h4⟩ := g.ce a ys q
      have h1 : (B a || decide (a = p)) = false := h1
      rw [Bool.or_eq_false_iff] at h1
      exact ⟨h1.1, u, ws, h2, h3, h4.gw gw⟩
  · have ne : a ≠ p := fun z => h (by rw [z]; exact s.old.dom _ n)
    rw [put_ne ne]
    exact s.fre a h
/-! ### the pairs of a display -/
abbrev WP := Rho → Mem → (List (A × A) → Prop) → Prop
def wpN : WP := fun _ _ Q => Q []
def wpC (wk wv : WE) (u : WP) : WP := fun ρ μ Q => wk ρ μ fun k => wv ρ μ fun v => u ρ μ fun ps => Q ((k, v) :: ps)
inductive Prs (K : PySem.W.Frag) (S : Hs) (μ : Mem) (G : Hp) : List (V × V) → List (A × A) → Prop
  | nil : Prs K S μ G [] []
  | cons {k v : V} {vs : List (V × V)} {a b : A} {ps : List (A × A)} : Ra K S μ G k a → Ra K S μ G v b → Prs K S μ G vs ps → Prs K S μ G ((k, v) :: vs) ((a, b) :: ps)
structure VPs (X : Cx) (pos : Pos) (keys : List (Option Expr)) (values : List Expr) (wp : WP) : Prop where
  ex : ∃ trs, PPs X pos keys values trs ∧ ∀ S B ρ μ σ H Q Q2, Sta X.K xl0 S B σ H ρ μ → wp ρ μ Q2 → (∀ vs H' ps, Ex S H H' → Good X.K S B μ H' → Prs X.K S μ (off B μ H') vs ps → Q2 ps → Q vs H') → tPairs trs σ H Q
theorem vps_nil {X : Cx} {pos : Pos} : VPs X pos [] [] wpN := ⟨[], pps_nil, fun S B ρ μ σ H Q Q2 st w k => k [] H [] .refl st.gd .nil w⟩
theorem vps_cons {X : Cx} {pos : Pos} {k v : Expr} {ks : List (Option Expr)} {vs : List Expr} {wk wv : WE} {u : WP} (hk : VE X xl0 k wk) (hv : VE X xl0 v wv) (hr : VPs X pos ks vs u) : VPs X pos (some k :: ks) (v :: vs) (wpC wk wv u) := by
  obtain ⟨trs, h1, h2⟩ := hr.ex
  refine ⟨_, pps_cons hk hv h1, fun S B ρ μ σ H Q Q2 st w k => ?_⟩
  refine ⟨S, B, ρ, μ, _, st, w, fun x H1 a e1 g1 ra q1 => ⟨S, B, ρ, μ, _, st.ex e1 g1, q1, fun y H2 b e2 g2 rb q2 => ?_⟩⟩
  refine h2 S B ρ μ σ H2 _ _ ((st.ex e1 g1).ex e2 g2) q2 fun vs H3 ps e3 g3 r3 q3 => ?_
  exact k _ H3 _ (e1.trans (e2.trans e3)) g3 (.cons ((ra.mono (e2.off g1)).mono (e3.off g2)) (rb.mono (e3.off g2)) r3) q3
def keyA : Key → A
  | .inl i => .dat (.int i)
  | .inr x => .dat (.str x)
theorem key_v {K : PySem.W.Frag} {S : Hs} {μ : Mem} {G : Hp} {v : V} {k : Key} (r : Ra K S μ G v (keyA k)) : v = kV k := by
  cases k with
  | inl i =>
    cases r with
    | dat r => cases r; rfl
  | inr x =>
    cases r with
    | dat r => cases r; rfl
theorem prs_zip {K : PySem.W.Frag} {S : Hs} {μ : Mem} {G : Hp} : ∀ {vs : List (V × V)} {ps : List (A × A)} {ks : List Key}, Prs K S μ G vs ps → ps.map (·.1) = ks.map keyA → ∃ ws, vs = (ks.zip ws).map (fun kv => (kV kv.1, kv.2)) ∧ ws.length = ks.length ∧ Ras K S μ G ws (ps.map (·.2))
  | _, _, [], h, e => by cases h with
    | nil => exact ⟨[], rfl, rfl, .nil⟩
    | cons _ _ _ => cases e
  | _, _, k :: ks, h, e => by cases h with
    | nil => cases e
    | @cons kv v vs a b ps h1 h2 h3 =>
      obtain ⟨e1, e2⟩ := List.cons.inj e
      have e1 : a = keyA k := e1
      subst e1
      obtain ⟨ws, w1, w2, w3⟩ := prs_zip h3 e2
      exact ⟨v :: ws, by rw [w1, key_v h1]; rfl, by simp [w2], .cons h2 w3⟩
theorem merge_app : ∀ (more acc : List (Key × V)), ((acc ++ more).map (·.1)).Nodup → mergeK acc more = acc ++ more
  | [], acc, _ => by rw [List.append_nil]; rfl
  | p :: more, acc, nd => by
    have e : putK acc p.1 p.2 = acc ++ [p] := by
      unfold putK
      rw [if_neg]
      rw [List.any_eq_true]
      rintro ⟨q, hq, he⟩
      have he := of_decide_eq_true he
      rw [List.map_append, List.nodup_append] at nd
      exact nd.2.2 q.1 (List.mem_map.mpr ⟨q, hq, rfl⟩) p.1 (by simp) he
    show mergeK (putK acc p.1 p.2) more = _
    rw [e, merge_app more (acc ++ [p]) (by rw [List.append_assoc]; exact nd), List.append_assoc]
    rfl
theorem zip_fst {α : Type} : ∀ {ks : List α} {ws : List V}, ws.length = ks.length → (ks.zip ws).map (·.1) = ks
  | [], [], _ => rfl
  | k :: ks, w :: ws, h => by
    show k :: (ks.zip ws).map (·.1) = _
    rw [zip_fst (by simpa using h)]
/-- a display, its pairs made -/
theorem disp_core {X : Cx} {pos : Pos} {keys : List (Option Expr)} {values : List Expr} {wp : WP} {trs : List (TE × TE)} {S : Hs} {B : Hid} {ρ : Rho} {μ : Mem} {σ : L2.St} {H : Hp} {Q : VK} {R : List Key → List A → Prop}
    (h2 : ∀ S B ρ μ σ H Q Q2, Sta X.K xl0 S B σ H ρ μ → wp ρ μ Q2 → (∀ vs H' ps, Ex S H H' → Good X.K S B μ H' → Prs X.K S μ (off B μ H') vs ps → Q2 ps → Q vs H') → tPairs trs σ H Q)
    (gd : Good X.K S B μ H) (sl : Sls X.K S μ (off B μ H) σ ρ) (w : wp ρ μ fun ps => ∃ ks : List Key, ps.map (·.1) = ks.map keyA ∧ ks.Nodup ∧ ks.length ≤ 15 ∧ R ks (ps.map (·.2)))
    (k : ∀ p H3 ks ws as, H p = none → Ex S H H3 → Good X.K S (plus B p) μ H3 → H3 p = some (.dK (ks.zip ws)) → ws.length = ks.length → Ras X.K S μ (off (plus B p) μ H3) ws as → R ks as → Q (.ref p) H3) : tDisp trs σ H Q := by
  intro p np
  obtain ⟨b1, b2⟩ := gd.free np
  have g1 := gd.plus_new (o := .dK []) np
  have so : Same (off B μ H) (off (plus B p) μ (upd H p (.dK []))) := fun a u h => by
    obtain ⟨h1, h2, h3⟩ := off_some h
    have ne : a ≠ p := ne_of_none h3 np
    rw [off_of (by simp [plus, h1, ne]) h2, upd_ne ne]
    exact h3
  refine h2 S (plus B p) ρ μ σ _ _ _ ⟨g1, sl.mono so, trivial⟩ w fun vs H2 ps e2 g2 r2 ⟨ks, q1, q2, q3, q4⟩ => ?_
  have sp : S p = false := gd.sb b1
  have hp2 : H2 p = some (.dK []) := e2.keep p _ sp upd_same
  obtain ⟨ws, w1, w2, w3⟩ := prs_zip r2 q1
  have lz : (ks.zip ws).length = ks.length := by rw [List.length_zip, w2]; exact Nat.min_self _
  refine ⟨hp2, ks.zip ws, w1, by omega, ?_⟩
  have em : mergeK [] (ks.zip ws) = ks.zip ws := merge_app _ [] (by rw [List.nil_append, zip_fst w2]; exact q2)
  rw [em]
  have oo : off (plus B p) μ (upd H2 p (.dK (ks.zip ws))) = off (plus B p) μ H2 := plus_off
  have ex : Ex S H (upd H2 p (.dK (ks.zip ws))) := by
    have e1 : Ex S H (upd H p (.dK [])) := .new np
    have e12 := e1.trans e2
    refine ⟨fun a u sa ha => ?_, fun a ha => ?_, fun a c r sa ha => ?_⟩
    · rw [upd_ne (ne_of_none ha np)]
      exact e12.keep a u sa ha
    · by_cases ea : a = p
      · rw [ea]; exact np
      · rw [upd_ne ea] at ha; exact e12.dom a ha
    · obtain ⟨r', z⟩ := e12.dr a c r sa ha
      exact ⟨r', by rw [upd_ne (ne_of_none ha np)]; exact z⟩
  have gd3 : Good X.K S (plus B p) μ (upd H2 p (.dK (ks.zip ws))) := by
    refine ⟨fun a sa => ?_, fun a sa => ⟨(g2.tb a sa).1, ?_⟩, fun a ba => ?_, fun a xs q => ?_⟩
    · obtain ⟨h1, c, ns, i, big, seed, h3, h4⟩ := g2.dr a sa
      have ne : a ≠ p := fun z => by rw [z, Hs.of_d sp] at sa; cases sa
      exact ⟨h1, c, ns, i, big, seed, by rw [upd_ne ne]; exact h3, by rw [oo]; exact h4⟩
    · obtain ⟨ps2, k1, k2, k3⟩ := (g2.tb a sa).2
      have dif : ∀ {b : Addr} {u : HO}, H2 b = some u → u ≠ .dK [] → upd H2 p (.dK (ks.zip ws)) b = some u := fun {b u} hb hu => by rw [upd_ne (ne_of hb hp2 hu)]; exact hb
      refine ⟨ps2, dif k1 (fun z => nomatch z), k2, fun pos cv hc => ?_⟩
      obtain ⟨c, c1, c2⟩ := k3 pos cv hc
      exact ⟨c, c1, dif c2 (fun z => by unfold LamX.CodeO at z; cases z)⟩
    · by_cases ea : a = p
      · rw [ea, upd_same]; exact fun z => nomatch z
      · rw [upd_ne ea]; exact g2.bd a ba
    · obtain ⟨h1, o, vs2, h3, h4, h5⟩ := g2.ce a xs q
      have ne : a ≠ p := fun z => by rw [z, b2] at q; cases q
      exact ⟨h1, o, vs2, by rw [upd_ne ne]; exact h3, h4, by rw [oo]; exact h5⟩
  exact k p _ ks ws _ np ex gd3 upd_same w2 (by rw [oo]; exact w3) q4
section
variable {X : Cx} {xl : XLT X.K} {pos : Pos} {keys : List (Option Expr)} {values : List Expr} {wp : WP}
/-- x = {k: v, ..} -/
def wDict (i : Nat) (wp : WP) : WS := fun E ρ μ => wp ρ μ fun ps => ∃ ks : List Key, ps.map (·.1) = ks.map keyA ∧ ks.Nodup ∧ ks.length ≤ 15 ∧ ∀ p, μ p = none → E.nx (ρ.set i (some (.obj p))) (put μ p (.tag (.dic ks) :: ps.map (·.2)))
theorem vs_dict {i : Nat} {x : Str} {pos' pos2 : Pos} (hN : X.N.Nodup) (hi : X.N[i]? = some x) (hx : Loc X.env.scope x) (hp : VPs X pos keys values wp) (hall : keys.all (·.isSome) = true) (hl : keys.length = values.length) (h0 : keys ≠ []) (h15 : keys.length ≤ 15)
    (hs : swapsWith (.Dict keys values pos) (some (.Name x pos')) pos2.line X.env = pure false := by rfl) (hf : X.fn x = true ∨ X.env.scope.names.lookup x = some .local := by first | exact .inl rfl | exact .inr rfl | assumption) :
    VS X xl (.Assign [.Name x pos'] (.Dict keys values pos) pos2) (wDict i wp) := by
  obtain ⟨trs, h1, h2⟩ := hp.ex
  refine ps_weak (ps_set hN hi hx (pe_disp h1 hall hl h0 h15) hs hf) fun D σ H ⟨S, B, H0, G0, ρ, μ, E, s, w, r⟩ => ?_
  refine disp_core (pos := pos) (keys := keys) (values := values) (R := fun ks as => ∀ p, μ p = none → E.nx (ρ.set i (some (.obj p))) (put μ p (.tag (.dic ks) :: as))) h2 s.st.gd s.st.sl w fun p H3 ks ws as np e3 g3 hp3 hw r3 q => ?_
  have mp := (s.st.gd.free np).2
  have s3 := cell_new (xs := .tag (.dic ks) :: as) s e3 g3 np hp3 ⟨rfl, hw⟩ r3
  exact r.nx _ _ _ _ (s3.set i (.obj (isO_of put_same))) (q p mp)
/-! ### d.get(k, x) -/
def valA (ks : List Key) (as : List A) (k : Key) : Option A := ((ks.zip as).find? fun p => decide (p.1 = k)).map (·.2)
theorem val_ra {K : PySem.W.Frag} {S : Hs} {μ : Mem} {G : Hp} {k : Key} : ∀ {ks : List Key} {ws : List V} {as : List A}, ws.length = ks.length → Ras K S μ G ws as → (valA ks as k = none ∧ valV (ks.zip ws) k = none) ∨ ∃ a v, valA ks as k = some a ∧ valV (ks.zip ws) k = some v ∧ Ra K S μ G v a
  | [], [], _, _, h => .inl ⟨rfl, rfl⟩
  | k0 :: ks, w0 :: ws, _, hl, h => by
    cases h with
    | @cons _ _ a as h1 h2 =>
      by_cases e : k0 = k
      · exact .inr ⟨a, w0, by simp [valA, List.find?_cons, e], by simp [valV, List.find?_cons, e], h1⟩
      · have := val_ra (k := k) (ks := ks) (ws := ws) (as := as) (by simpa using hl) h2
        have e1 : valA (k0 :: ks) (a :: as) k = valA ks as k := by simp [valA, List.find?_cons, e]
        have e2 : valV ((k0 :: ks).zip (w0 :: ws)) k = valV (ks.zip ws) k := by simp [valV, List.find?_cons, e]
        rw [e1, e2]
        exact this
def kOf : A → Option Key
  | .dat (.int i) => some (.inl i)
  | .dat (.str x) => some (.inr x)
  | _ => none
theorem kOf_v {K : PySem.W.Frag} {S : Hs} {μ : Mem} {G : Hp} {v : V} {a : A} {k : Key} (r : Ra K S μ G v a) (h : kOf a = some k) : v = kV k := by
  cases r with
  | dat r =>
    cases r with
    | int i => cases h; rfl
    | str x => cases h; rfl
    | _ => cases h
  | _ => cases h
def wDGet2 (wo wk wd : WE) : WE := fun ρ μ Q => wo ρ μ fun o => match o with
  | .obj p => (match μ p with
    | some (.tag (.dic ks) :: as) => wk ρ μ fun k => wd ρ μ fun d => (match kOf k with | some k => Q ((valA ks as k).getD d) | none => False)
    | _ => False)
  | _ => False
theorem ve_dget2 {o e f : Expr} {apos cpos : Pos} {wo wk wd : WE} (hu : X.A.units + 1 < cLine) (ho : VE X xl o wo) (he : VE X xl e wk) (hf : VE X xl f wd) (m : M2 X o "get" apos e f cpos) : VE X xl (.Call (.Attribute o "get" apos) [e, f] [] cpos) (wDGet2 wo wk wd) := by
  refine pe_weak (pe_dget2 hu ho he hf m) fun σ H Q ⟨S, B, ρ, μ, Q2, st, w, k⟩ => ⟨S, B, ρ, μ, _, st, w, fun v H1 a e1 g1 ra q1 => ?_⟩
  cases ra with
  | @obj p hO =>
    dsimp only at q1
    split at q1
    · rename_i ks as hm
      obtain ⟨_, o1, ws, h1, ⟨rfl, h2⟩, h3⟩ := g1.ce p _ hm
      refine ⟨p, rfl, .inl ⟨_, .inl h1⟩, S, B, ρ, μ, _, st.ex e1 g1, q1, fun y H2 b e2 g2 rb q2 => ⟨S, B, ρ, μ, _, (st.ex e1 g1).ex e2 g2, q2, fun z H3 c e3 g3 rc q3 => ?_⟩⟩
      split at q3
      · rename_i kk hk
        obtain ⟨_, o3, ws3, h4, ⟨rfl, h5⟩, h6⟩ := g3.ce p _ hm
        have ek := kOf_v rb hk
        subst ek
        refine ⟨_, DGet.k h4, ?_⟩
        rcases val_ra (k := kk) (as := as) h5 h6 with ⟨z1, z2⟩ | ⟨a2, v2, z1, z2, z3⟩
        · rw [z2]
          rw [z1] at q3
          exact k _ H3 _ (e1.trans (e2.trans e3)) g3 rc q3
        · rw [z2]
          rw [z1] at q3
          exact k _ H3 _ (e1.trans (e2.trans e3)) g3 z3 q3
      · exact q3.elim
    · exact q1.elim
  | _ => exact q1.elim
/-- {k: v, ..}.get(k, x) -/
def wDispGet (wp : WP) (wk wd : WE) : WE := fun ρ μ Q => wp ρ μ fun ps => ∃ ks : List Key, ps.map (·.1) = ks.map keyA ∧ ks.Nodup ∧ ks.length ≤ 15 ∧ wk ρ μ fun k => wd ρ μ fun d => (match kOf k with | some k => Q ((valA ks (ps.map (·.2)) k).getD d) | none => False)
theorem ve_dispGet {e f : Expr} {apos cpos : Pos} {wk wd : WE} (hu : X.A.units + 1 < cLine) (hp : VPs X pos keys values wp) (hall : keys.all (·.isSome) = true) (hl : keys.length = values.length) (h0 : keys ≠ []) (h15 : keys.length ≤ 15) (he : VE X xl e wk) (hf : VE X xl f wd) (m : M2 X (.Dict keys values pos) "get" apos e f cpos) : VE X xl (.Call (.Attribute (.Dict keys values pos) "get" apos) [e, f] [] cpos) (wDispGet wp wk wd) := by
  obtain ⟨trs, h1, h2⟩ := hp.ex
  refine pe_weak (pe_dget2 hu (pe_disp h1 hall hl h0 h15) he hf m) fun σ H Q ⟨S, B, ρ, μ, Q2, st, w, k⟩ => ?_
  refine disp_core (pos := pos) (keys := keys) (values := values) (R := fun ks as => wk ρ μ fun k => wd ρ μ fun d => (match kOf k with | some k => Q2 ((valA ks as k).getD d) | none => False)) h2 st.gd st.sl w fun p H3 ks ws as np e3 g3 hp3 hw r3 q => ?_
  have g3' : Good X.K S B μ H3 := st.gd.step e3 g3
  have sp : S p = false := st.gd.sb (st.gd.free np).1
  refine ⟨p, rfl, .inl ⟨_, .inl hp3⟩, S, B, ρ, μ, _, st.ex e3 g3', q, fun y H4 b e4 g4 rb q4 => ⟨S, B, ρ, μ, _, (st.ex e3 g3').ex e4 g4, q4, fun z H5 c e5 g5 rc q5 => ?_⟩⟩
  split at q5
  · rename_i kk hk
    have ek := kOf_v rb hk
    subst ek
    have hp5 : H5 p = some (.dK (ks.zip ws)) := e5.keep p _ sp (e4.keep p _ sp hp3)
    refine ⟨_, DGet.k hp5, ?_⟩
    have r5 : Ras X.K S μ (off B μ H5) ws as := ((r3.mono plus_sub).mono (e4.off g3')).mono (e5.off g4)
    rcases val_ra (k := kk) hw r5 with ⟨z1, z2⟩ | ⟨a2, v2, z1, z2, z3⟩
    · rw [z2]
      rw [z1] at q5
      exact k _ H5 _ (e3.trans (e4.trans e5)) g5 rc q5
    · rw [z2]
      rw [z1] at q5
      exact k _ H5 _ (e3.trans (e4.trans e5)) g5 z3 q5
  · exact q5.elim
end
section
variable {ρ : Rho} {μ : Mem}
def EvPs (w : WP) (ρ : Rho) (μ : Mem) (ps : List (A × A)) : Prop := ∀ Q : List (A × A) → Prop, Q ps → w ρ μ Q
theorem ep_nil : EvPs wpN ρ μ [] := fun Q q => q
theorem ep_cons {wk wv : WE} {u : WP} {a b : A} {ps : List (A × A)} (h1 : Evs wk ρ μ a) (h2 : Evs wv ρ μ b) (h3 : EvPs u ρ μ ps) : EvPs (wpC wk wv u) ρ μ ((a, b) :: ps) := fun Q q => h1 _ (h2 _ (h3 _ q))
theorem s_dict {i : Nat} {wp : WP} {ps : List (A × A)} {ks : List Key} {E : Ends2} {W2 : WS} (h : EvPs wp ρ μ ps) (e : ps.map (·.1) = ks.map keyA) (nd : ks.Nodup) (h15 : ks.length ≤ 15) (q : ∀ p, μ p = none → W2 E (ρ.set i (some (.obj p))) (put μ p (.tag (.dic ks) :: ps.map (·.2)))) : wSeq (wDict i wp) W2 E ρ μ := h _ ⟨ks, e, nd, h15, q⟩
theorem ev_dget2 {wo wk wd : WE} {p : Addr} {ks : List Key} {as : List A} {k d : A} {kk : Key} (ho : Evs wo ρ μ (.obj p)) (hm : μ p = some (.tag (.dic ks) :: as)) (hk : Evs wk ρ μ k) (hd : Evs wd ρ μ d) (e : kOf k = some kk) : Evs (wDGet2 wo wk wd) ρ μ ((valA ks as kk).getD d) := fun Q q => ho _ (by
  show (match μ p with
    | some (.tag (.dic ks) :: as) => wk ρ μ fun k => wd ρ μ fun d => (match kOf k with | some k => Q ((valA ks as k).getD d) | none => False)
    | _ => False)
  rw [hm]
  refine hk _ (hd _ ?_)
  show (match kOf k with | some k => Q ((valA ks as k).getD d) | none => False)
  rw [e]
  exact q)
theorem ev_dispGet {wp : WP} {wk wd : WE} {ps : List (A × A)} {ks : List Key} {k d : A} {kk : Key} (h : EvPs wp ρ μ ps) (e : ps.map (·.1) = ks.map keyA) (nd : ks.Nodup) (h15 : ks.length ≤ 15) (hk : Evs wk ρ μ k) (hd : Evs wd ρ μ d) (ek : kOf k = some kk) : Evs (wDispGet wp wk wd) ρ μ ((valA ks (ps.map (·.2)) kk).getD d) := fun Q q => h _ ⟨ks, e, nd, h15, hk _ (hd _ (by
  show (match kOf k with | some k => Q ((valA ks (ps.map (·.2)) k).getD d) | none => False)
  rw [ek]
  exact q))⟩
end
end Hv

set_option Elab.async false
set_option linter.all false
set_option maxRecDepth 100000
/-! triples that may be sayings -/
namespace Hv
open PySem PySem.Spec PyProof.Rows L2 Hod
structure KD2 (K : PySem.W.Frag) (w : World) (d : Addr) (ks ns : List Str) : Prop where
  dict : ∃ es n, KDict K w d es n
  keys : ∀ z ∈ ks, ∃ u, PySem.W.nsIn K d z = some (some u)
  none : ∀ z ∈ ns, PySem.W.nsIn K d z = some none
def wNotKd2 (ks ns : List Str) (wa : WE) : WT := fun ρ μ Q => wa ρ μ fun a => match a with | .dat (.str z) => (z ∈ ks ∧ Q false) ∨ (z ∈ ns ∧ Q true) | _ => False
theorem vt_notKd2 {X : Cx} {xl : XLT X.K} {a : Expr} {wa : WE} {x : Str} {d : Addr} {ks ns : List Str} {p pos : Pos} (D : KD2 X.K X.w d ks ns) (ha : VE X xl a wa) (hg : Gl X x) (hm : X.mg x = some (.ref d)) (hdb : (x == ("__debug__" : Str)) = false := by decide) (hb : behindInMarks .NotIn (.Name x p) = false := by rfl) : VT X xl (.Compare a [.NotIn] [.Name x p] pos) (wNotKd2 ks ns wa) := by
  obtain ⟨es, n, kd⟩ := D.dict
  refine pt_weak (pt_cmpR (op_notIn_kd kd) ha (pe_glob (v := .ref d) hg hm rfl hdb) hb) fun σ H Q ⟨S, B, ρ, μ, Q2, st, w, k⟩ => ⟨S, B, ρ, μ, _, st, w, fun v H1 a e1 g1 ra q1 => ?_⟩
  cases ra with
  | dat ra =>
    cases ra with
    | str z =>
      rcases q1 with ⟨q1, q2⟩ | ⟨q1, q2⟩
      · obtain ⟨u, hu⟩ := D.keys z q1
        exact ⟨z, some u, rfl, rfl, hu, false, rfl, k _ H1 e1 g1 q2⟩
      · exact ⟨z, none, rfl, rfl, D.none z q1, true, rfl, k _ H1 e1 g1 q2⟩
    | _ => exact q1.elim
  | _ => exact q1.elim
theorem et_notKd2 {ρ : Rho} {μ : Mem} {ks ns : List Str} {w : WE} {z : Str} (h : Evs w ρ μ (.dat (.str z))) (hz : z ∈ ks ∨ z ∈ ns) (hd : z ∈ ks → z ∉ ns) : EvTs (wNotKd2 ks ns w) ρ μ (decide (z ∉ ks)) := fun Q q => h _ (by
  by_cases hk : z ∈ ks
  · rw [decide_eq_false (by simpa using hk)] at q
    exact .inl ⟨hk, q⟩
  · rw [decide_eq_true hk] at q
    exact .inr ⟨hz.resolve_left hk, q⟩)
structure Sy where
  word : Str
  work : Int
  num : Int
def Sy.e (s : Sy) : PyData := .tuple [.str s.word, .int s.work, .int s.num]
def badWords : List Str := ["From", ""]
def waysL (y : Yard) (k : Int) : Int := match y.works[k.toNat]? with | some v => (v.ways.length : Nat) | none => 0
def numOk (y : Yard) (s : Sy) : Bool :=
  if s.word = "from" ∨ s.word = "ahead" then decide (0 ≤ s.num) && decide (s.num ≤ y.days) else
  if s.word = "way" ∨ s.word = "not" then decide (0 ≤ s.num) && decide (s.num < waysL y s.work) else decide (s.num = 0)
def okS (y : Yard) (s : Sy) : Bool := decide (s.word ∈ wordsL) && (decide (0 ≤ s.work) && decide (s.work < (y.works.length : Nat))) && numOk y s
def Sy.w (s : Sy) : Prop := s.word ∈ wordsL ∨ s.word ∈ badWords
theorem words_apart {z : Str} (h : z ∈ wordsL) : z ∉ badWords := by
  simp only [wordsL, List.mem_cons, List.not_mem_nil, or_false] at h
  rcases h with rfl | rfl | rfl | rfl | rfl | rfl <;> decide
theorem word_of {z : Str} (h : z ∈ wordsL) : ∃ wd : Wd, wd.s = z := by
  simp only [wordsL, List.mem_cons, List.not_mem_nil, or_false] at h
  rcases h with h | h | h | h | h | h
  · exact ⟨.frm, h.symm⟩
  · exact ⟨.ahd, h.symm⟩
  · exact ⟨.way, h.symm⟩
  · exact ⟨.nt, h.symm⟩
  · exact ⟨.sty, h.symm⟩
  · exact ⟨.mov, h.symm⟩
/-- a good triple is a saying -/
theorem okS_say {y : Yard} {s : Sy} (h : okS y s = true) : ∃ t : Say, t.ok y ∧ s.e = t.e := by
  unfold okS at h
  rw [Bool.and_eq_true, Bool.and_eq_true, Bool.and_eq_true] at h
  obtain ⟨⟨h1, h2, h3⟩, h4⟩ := h
  obtain ⟨wd, hw⟩ := word_of (of_decide_eq_true h1)
  have h2 := of_decide_eq_true h2
  have h3 := of_decide_eq_true h3
  obtain ⟨v, hv⟩ : ∃ v, y.works[s.work.toNat]? = some v := ⟨_, List.getElem?_eq_getElem (by omega)⟩
  have ew : ((s.work.toNat : Nat) : Int) = s.work := by omega
  have hl : waysL y s.work = (v.ways.length : Nat) := by unfold waysL; rw [hv]
  unfold numOk at h4
  rw [← hw, hl] at h4
  refine ⟨⟨wd, s.work.toNat, s.num⟩, ⟨v, hv, ?_⟩, ?_⟩
  · cases wd with
    | frm => rw [if_pos (.inl rfl), Bool.and_eq_true] at h4; exact ⟨of_decide_eq_true h4.1, of_decide_eq_true h4.2⟩
    | ahd => rw [if_pos (.inr rfl), Bool.and_eq_true] at h4; exact ⟨of_decide_eq_true h4.1, of_decide_eq_true h4.2⟩
    | way => rw [if_neg (by decide), if_pos (.inl rfl), Bool.and_eq_true] at h4; exact ⟨of_decide_eq_true h4.1, of_decide_eq_true h4.2⟩
    | nt => rw [if_neg (by decide), if_pos (.inr rfl), Bool.and_eq_true] at h4; exact ⟨of_decide_eq_true h4.1, of_decide_eq_true h4.2⟩
    | sty => rw [if_neg (by decide), if_neg (by decide)] at h4; exact of_decide_eq_true h4
    | mov => rw [if_neg (by decide), if_neg (by decide)] at h4; exact of_decide_eq_true h4
  · show PyData.tuple [.str s.word, .int s.work, .int s.num] = .tuple [.str wd.s, .int (s.work.toNat : Nat), .int s.num]
    rw [hw, ew]
theorem okS_all {y : Yard} : ∀ {l : List Sy}, (∀ s ∈ l, okS y s = true) → ∃ ss : List Say, l.map Sy.e = ss.map Say.e ∧ (∀ t ∈ ss, t.ok y) ∧ ss.length = l.length
  | [], _ => ⟨[], rfl, (fun _ h => nomatch h), rfl⟩
  | s :: l, h => by
    obtain ⟨t, t1, t2⟩ := okS_say (h s (by simp))
    obtain ⟨ss, s1, s2, s3⟩ := okS_all fun x hx => h x (List.mem_cons_of_mem _ hx)
    refine ⟨t :: ss, by rw [List.map_cons, List.map_cons, t2, s1], fun x hx => ?_, by simp [s3]⟩
    rcases List.mem_cons.mp hx with rfl | hx
    · exact t1
    · exact s2 x hx
/-- the first bad one -/
def BadAt (y : Yard) (l : List Sy) (k : Nat) : Prop := (∃ s, l[k]? = some s ∧ okS y s = false) ∧ ∀ (j : Nat) (s : Sy), j < k → l[j]? = some s → okS y s = true
def FisSy : FS := fun as Q => ∃ (y : Yard) (s : Sy), as = [.dat y.e, .dat s.e] ∧ y.ok ∧ s.w ∧ Q (.bool (okS y s))
def FcsyX : FSX := fun as Q E => ∃ (y : Yard) (l : List Sy), as = [.dat y.e, .dat (.list (l.map Sy.e))] ∧ y.ok ∧ (∀ s ∈ l, s.w) ∧ l.length ≤ 60 ∧ ((∀ s ∈ l, okS y s = true) → Q .none) ∧ ∀ k, BadAt y l k → E "BadSaying" [("word", .str "badsaying"), ("at", .int k)]
def FlineX : FSX := fun as Q E => ∃ (y : Yard) (l : List Sy), as = [.dat y.e, .dat (.list (l.map Sy.e))] ∧ y.ok ∧ (∀ s ∈ l, s.w) ∧ l.length ≤ 60 ∧ ((∀ s ∈ l, okS y s = true) → ∀ d, Q d) ∧ ∀ k, BadAt y l k → E "BadSaying" [("word", .str "badsaying"), ("at", .int k)]
def FholdX : FSX := fun as Q E => ∃ (y : Yard) (pl : List (Int × Int)) (l : List Sy), as = [.dat y.e, .dat (.list (pl.map prP)), .dat (.list (l.map Sy.e)), .dat (.tuple [])] ∧ y.ok ∧ pl.length = y.works.length ∧ (∀ s ∈ l, s.w) ∧ l.length ≤ 60 ∧ ((∀ s ∈ l, okS y s = true) → ∀ d, Q d) ∧ ∀ k, BadAt y l k → E "BadSaying" [("word", .str "badsaying"), ("at", .int k)]
def FoppY : FSX := fun as Q E => ∃ (y : Yard) (s : Sy), as = [.dat y.e, .dat s.e] ∧ y.ok ∧ s.w ∧ (okS y s = true → ∀ d, Q d) ∧ (okS y s = false → E "BadSaying" [("word", .str "badsaying"), ("at", .int 0)])
def FsayGood : FS := fun as Q => ∃ (y : Yard) (s : Sy), as = [.dat y.e, .dat s.e] ∧ y.ok ∧ s.w ∧ Q (.bool (okS y s))
theorem bad_or {y : Yard} {l : List Sy} : (∀ s ∈ l, okS y s = true) ∨ ∃ k, BadAt y l k := by
  have gen : ∀ n : Nat, (∀ (j : Nat) (s : Sy), j < n → l[j]? = some s → okS y s = true) ∨ ∃ k, BadAt y l k := by
    intro n
    induction n with
    | zero => exact .inl fun j s h => absurd h (Nat.not_lt_zero _)
    | succ n ih =>
      rcases ih with ih | ih
      · cases hn : l[n]? with
        | none =>
          left
          intro j s h1 h2
          by_cases e : j = n
          · rw [e, hn] at h2; cases h2
          · exact ih j s (by omega) h2
        | some s =>
          cases hs : okS y s with
          | true =>
            left
            intro j t h1 h2
            by_cases e : j = n
            · rw [e, hn] at h2; cases h2; exact hs
            · exact ih j t (by omega) h2
          | false => exact .inr ⟨n, ⟨s, hn, hs⟩, ih⟩
      · exact .inr ih
  rcases gen l.length with h | h
  · left
    intro s hs
    obtain ⟨j, hj⟩ := List.getElem?_of_mem hs
    exact h j s (lt_of_get hj) hj
  · exact .inr h
theorem bad_lt {y : Yard} {l : List Sy} {k : Nat} (h : BadAt y l k) : k < l.length := by obtain ⟨⟨s, h1, _⟩, _⟩ := h; exact lt_of_get h1
end Hv
namespace Hv
open PySem PySem.Spec PyProof.Rows L2 Hod
def erS : ErF := fun x flds => if x = ("BadSaying" : Str) then (match flds.lookup ("at" : Str) with | some (.int i) => some (.int i) | _ => none) else none
def toSy (t : Say) : Sy := ⟨t.word.s, t.work, t.num⟩
theorem toSy_e (t : Say) : (toSy t).e = t.e := rfl
theorem toSy_w (t : Say) : (toSy t).w := .inl t.word.mem
def FbentS : FS := fun as Q => ∃ (y : Yard) (s : Sy), as = [.drw, .dat y.e, .dat s.e] ∧ y.ok ∧ s.w ∧ ∀ t : Sy, t.w → Q t.e
/-- what a look at sayings tells: nothing, or the first bad place -/
def dueD : Option Nat → PyData
  | none => .none
  | some k => .int k
def Due (y : Yard) (l : List Sy) : Option Nat → Prop
  | none => ∀ s ∈ l, okS y s = true
  | some k => BadAt y l k
theorem due_ex (y : Yard) (l : List Sy) : ∃ r, Due y l r := by
  rcases bad_or (y := y) (l := l) with h | ⟨k, h⟩
  · exact ⟨none, h⟩
  · exact ⟨some k, h⟩
def toldM (r : Option Nat) (Q : PyData → Prop) (E : XW) : Prop := match r with
  | none => ∀ d, Q d
  | some k => E "BadSaying" [("word", .str "badsaying"), ("at", .int (k : Nat))]
theorem ev_spot {ρ : Rho} {μ : Mem} {F : FSX} {u : WA} {as : List A} {r : Option Nat} (h : EvAs u ρ μ as) (hF : ∀ (Q : PyData → Prop) (E : XW), toldM r Q E → F as Q E) (hn : noOwn as = true := by rfl) : Evs (wLamF erS (fun xw => wCallX xw F u)) ρ μ (.dat (dueD r)) := fun Q q => x_callX h (hF _ _ (by
  cases r with
  | none => exact fun d => q
  | some k => exact ⟨.int k, rfl, rfl, q⟩)) hn
theorem ev_spotK {ρ : Rho} {μ : Mem} {F : FSX} {gA : List A → List A → List A} {u v : WA} {as bs cs : List A} {r : Option Nat} (h : EvAs u ρ μ as) (h2 : EvAs v ρ μ bs) (hF : ∀ (Q : PyData → Prop) (E : XW), toldM r Q E → F cs Q E) (hc : gA as bs = cs := by rfl) (hn : noOwn cs = true := by rfl) : Evs (wLamF erS (fun xw => wCallKX xw F gA u v)) ρ μ (.dat (dueD r)) := fun Q q => x_callKX h h2 (hF _ _ (by
  cases r with
  | none => exact fun d => q
  | some k => exact ⟨.int k, rfl, rfl, q⟩)) hc hn
/-- the places of the bad ones -/
def badsL (y : Yard) (l : List Sy) : List Nat := (List.range l.length).filter fun k => match l[k]? with | some s => !okS y s | none => false
theorem bads_none {y : Yard} {l : List Sy} (h : Due y l none) : badsL y l = [] := by
  unfold badsL
  rw [List.filter_eq_nil_iff]
  intro k hk
  obtain ⟨s, hs⟩ : ∃ s, l[k]? = some s := ⟨_, List.getElem?_eq_getElem (List.mem_range.mp hk)⟩
  rw [hs]
  dsimp only
  rw [h s (List.mem_of_getElem? hs)]
  exact Bool.false_ne_true
theorem head_filter {p : Nat → Bool} {k : Nat} (hp : p k = true) (hlt : ∀ j, j < k → p j = false) : ∀ {n : Nat}, k < n → ∃ r, (List.range n).filter p = k :: r
  | 0, h => absurd h (Nat.not_lt_zero _)
  | n + 1, h => by
    rw [List.range_succ, List.filter_append]
    by_cases e : k = n
    · subst e
      have : (List.range k).filter p = [] := by
        rw [List.filter_eq_nil_iff]
        intro j hj
        rw [hlt j (List.mem_range.mp hj)]
        exact Bool.false_ne_true
      exact ⟨[], by rw [this]; simp [hp]⟩
    · obtain ⟨r, hr⟩ := head_filter hp hlt (n := n) (by omega)
      exact ⟨_, by rw [hr]; rfl⟩
theorem bads_some {y : Yard} {l : List Sy} {k : Nat} (h : Due y l (some k)) : ∃ r, badsL y l = k :: r := by
  obtain ⟨⟨s, h1, h2⟩, h3⟩ := h
  refine head_filter (by rw [h1]; dsimp only; rw [h2]; rfl) (fun j hj => ?_) (lt_of_get h1)
  obtain ⟨t, ht⟩ : ∃ t, l[j]? = some t := ⟨_, List.getElem?_eq_getElem (by have := lt_of_get h1; omega)⟩
  rw [ht]
  dsimp only
  rw [h3 j t hj ht]
  rfl
end Hv
namespace Hv
open PySem PySem.Spec PyProof.Rows L2 Hod
theorem forW_of {p : Pat} {W : WS} {E : Ends2} {ρ : Rho} {μ : Mem} {ds : List PyData} (I : Nat → Rho → Mem → Prop) (h0 : I 0 ρ μ) (hs : ∀ n d ρ μ (N : Rho → Mem → Prop), ds[n]? = some d → I n ρ μ → (∀ ρ μ, I (n + 1) ρ μ → N ρ μ) → ∃ ρ', bindP p d ρ = some ρ' ∧ W { E with nx := N, ct := N, bk := E.nx } ρ' μ) (hd : ∀ ρ μ, I ds.length ρ μ → E.nx ρ μ) : forW p W ds E ρ μ :=
  x_for (wi := fun _ _ Q => Q ds) I (fun _ q => q) h0 hs hd
theorem rep_map {α : Type} {f : α → PyData} (q : α) : ∀ n : Nat, (List.replicate n [f q]).flatten = (List.replicate n q).map f
  | 0 => rfl
  | n + 1 => by
    rw [List.replicate_succ, List.replicate_succ, List.flatten_cons, rep_map q n]
    rfl
theorem strOk_w {z : Str} (h : z ∈ wordsL ∨ z ∈ badWords) : (PyData.str z).canLay0 = true := by
  unfold PyData.canLay0
  simp only [wordsL, badWords, List.mem_cons, List.not_mem_nil, or_false] at h
  rcases h with (rfl | rfl | rfl | rfl | rfl | rfl) | rfl | rfl <;> decide +kernel
theorem shp_sy {s : Sy} (hw : s.w) : s.e.canLay0 = true ∧ s.e.depth ≤ 60 := by
  obtain ⟨h1, h2⟩ := shp_tup (ds := [.str s.word, .int s.work, .int s.num]) (n := 0) fun d hd => by
    rcases List.mem_cons.mp hd with rfl | hd
    · exact ⟨strOk_w hw, by unfold PyData.depth; exact Nat.le_refl _⟩
    rcases List.mem_cons.mp hd with rfl | hd
    · exact shp_int _
    rcases List.mem_cons.mp hd with rfl | hd
    · exact shp_int _
    · cases hd
  exact ⟨h1, Nat.le_trans h2 (by decide)⟩
end Hv

set_option Elab.async false
set_option linter.all false
set_option maxRecDepth 100000
set_option maxHeartbeats 1000000
namespace HLaw
open PySem PySem.Spec PyProof.Rows L2 Hod Hv
section
variable {P : Program} {w : World} {K : PySem.W.Frag} {mg : Str → Option Value} {base : Heap}
/-! is_saying: 0:yard 1:saying 2:word 3:work 4:number -/
abbrev sis_saying : Stmt := topS 34
theorem scis_saying : FnScope ["yard", "saying", "word", "work", "number"] ["yard", "saying"] (defScope sis_saying) := ⟨rfl, rfl, rfl, by decide +kernel, rfl, by decide +kernel, by decide +kernel⟩
abbrev Nis_saying : List Str := ["yard", "saying", "word", "work", "number"]
abbrev psis_saying : List Str := ["yard", "saying"]
theorem in_from (z : Str) : (if false then !([PyData.str "from", PyData.str "ahead"].any fun x => PyData.eqv x (.str z)) else [PyData.str "from", PyData.str "ahead"].any fun x => PyData.eqv x (.str z)) = decide (z = "from" ∨ z = "ahead") := by
  show ((("from" : Str) == z) || ((("ahead" : Str) == z) || false)) = _
  by_cases h1 : z = "from"
  · subst h1; simp
  · by_cases h2 : z = "ahead"
    · subst h2; simp
    · simp [h1, h2, Ne.symm h1, Ne.symm h2]
theorem in_way (z : Str) : (if false then !([PyData.str "way", PyData.str "not"].any fun x => PyData.eqv x (.str z)) else [PyData.str "way", PyData.str "not"].any fun x => PyData.eqv x (.str z)) = decide (z = "way" ∨ z = "not") := by
  show ((("way" : Str) == z) || ((("not" : Str) == z) || false)) = _
  by_cases h1 : z = "way"
  · subst h1; simp
  · by_cases h2 : z = "not"
    · subst h2; simp
    · simp [h1, h2, Ne.symm h1, Ne.symm h2]
theorem x_retB {ρ : Rho} {μ : Mem} {w : WE} {E : Ends2} {b c : Bool} (h : Evs w ρ μ (.dat (.bool b))) (e : b = c) (q : E.rt (.bool c)) : wRet w E ρ μ := x_ret (a := .dat (.bool b)) h (by rw [e]; exact q)
theorem d_is_saying {f dO : Addr} {fd : FuncData} (Bq : Bl mg) (D2_OPPOSITES : KD2 K w dO wordsL badWords) (m_OPPOSITES : mg "OPPOSITES" = some (.ref dO)) (R : Raw K mg "is_saying" sis_saying psis_saying f fd) : Dfn P w K mg base 1 "is_saying" psis_saying (spD K false FisSy) := by
  obtain ⟨m_len, m_list, m_tuple, m_range, m_enumerate, m_isinstance, m_int, m_bool, m_str, m_all, m_min, m_max, m_sum⟩ := Bq
  refine ⟨f, fd, fnD R.1 scis_saying (fun as Q h => ?_) (fun cdv Ar outer s H E hr => (vss_cons (vs_if (VW.vt (vw_or (vt_cmp op_ne r_ne (VF.ve (vf_callB c_len call_len_seq (by rfl) m_len PySem.boot_len (va_cons (ve_var 1) va_nil))) ve_int (nomark _)) (vw_or1 (vt_notKd2 D2_OPPOSITES (ve_ix ix_seq r_ix (ve_var 1) ve_int (fun _ _ => rfl)) (by rfl) m_OPPOSITES)))) (vss_one (vs_ret ve_bl)) vss_nil)
    (vss_cons (vs_asg (.tp [(.nm 2), (.nm 3), (.nm 4)]) (ve_var 1) (pg_tup rfl (pgs_cons (pg_name (i := 2) scis_saying.nd rfl (.inl rfl)) (pgs_cons (pg_name (i := 3) scis_saying.nd rfl (.inl rfl)) (pgs_cons (pg_name (i := 4) scis_saying.nd rfl (.inl rfl)) pgs_nil)))))
    (vss_cons (vs_if (vt_not (vt_chain op_le r_le op_lt r_lt ve_int (ve_var 3) (VF.ve (vf_callB c_len call_len_seq (by rfl) m_len PySem.boot_len (va_cons (ve_ix ix_seq r_ix (ve_var 0) ve_int (fun _ _ => rfl)) va_nil))))) (vss_one (vs_ret ve_bl)) vss_nil)
    (vss_cons (vs_if (vt_cmp op_in_seq r_in (ve_var 2) (ve_tup (va_cons ve_str (va_cons ve_str va_nil))) (by rfl)) (vss_one (vs_ret (ve_chain op_le r_le op_le r_le ve_int (ve_var 4) (ve_ix ix_seq r_ix (ve_var 0) ve_int (fun _ _ => rfl))))) vss_nil)
    (vss_cons (vs_if (vt_cmp op_in_seq r_in (ve_var 2) (ve_tup (va_cons ve_str (va_cons ve_str va_nil))) (by rfl)) (vss_one (vs_ret (ve_chain op_le r_le op_lt r_lt ve_int (ve_var 4) (VF.ve (vf_callB c_len call_len_seq (by rfl) m_len PySem.boot_len (va_cons (ve_ix ix_seq r_ix (ve_ix ix_seq r_ix (ve_ix ix_seq r_ix (ve_var 0) ve_int (fun _ _ => rfl)) (ve_var 3) (fun _ _ => rfl)) ve_int (fun _ _ => rfl)) va_nil)))))) vss_nil)
    (vss_one (vs_ret (ve_cmp op_eq r_eq (ve_var 4) ve_int (nomark _)))))))))) (fun as Q h => ?_), R.2.1, R.1.kp, R.2.2⟩
  · obtain ⟨y, s, rfl, ho, hw, q⟩ := h
    rfl
  · obtain ⟨y, ⟨wd, k, n⟩, rfl, ho, hw, q⟩ := h
    have lw : ((y.works.map Wrk.e).length : Int) = (y.works.length : Nat) := by rw [List.length_map]
    refine s_if (k := decide (wd ∉ wordsL)) (EvTs.eq (et_or (k := false) (EvTs.eq (et_B (ev_neI (ev_len ev_v rfl) ev_k)) rfl) fun _ => et_notKd2 (ev_ixT (ds := [.str wd, .int k, .int n]) ev_v ev_k rfl) hw words_apart) (Bool.false_or _)) (fun hb => x_retB (c := false) ev_k rfl ?_) fun hb => ?_
    · have : okS y ⟨wd, k, n⟩ = false := by unfold okS; rw [decide_eq_false (of_decide_eq_true hb)]; rfl
      rw [this] at q; exact q
    have hwd : wd ∈ wordsL := by simpa using hb
    refine s_asg (d := .tuple [.str wd, .int k, .int n]) ev_v rfl ?_
    refine s_if (k := !(decide (0 ≤ k) && decide (k < (y.works.length : Nat)))) (EvTs.eq (et_not (et_B (ev_chain ev_k ev_v fun _ => ev_len (ev_ixT ev_v ev_k rfl) rfl))) (by rw [lw])) (fun hb => x_retB (c := false) ev_k rfl ?_) fun hb => ?_
    · have : okS y ⟨wd, k, n⟩ = false := by unfold okS; rw [show (decide (0 ≤ k) && decide (k < (y.works.length : Nat))) = false by cases z : (decide (0 ≤ k) && decide (k < ((y.works.length : Nat) : Int))) with | false => rfl | true => (rw [z] at hb; cases hb), Bool.and_false]; rfl
      rw [this] at q; exact q
    have hb : (decide (0 ≤ k) && decide (k < (y.works.length : Nat))) = true := by simpa using hb
    have hk := hb
    rw [Bool.and_eq_true] at hk
    have k0 := of_decide_eq_true hk.1
    have k1 := of_decide_eq_true hk.2
    obtain ⟨j, rfl⟩ : ∃ j : Nat, k = (j : Int) := ⟨k.toNat, by omega⟩
    obtain ⟨v, hv⟩ : ∃ v, y.works[j]? = some v := ⟨_, List.getElem?_eq_getElem (by omega)⟩
    have hl : waysL y (j : Int) = (v.ways.length : Nat) := by unfold waysL; rw [Int.toNat_natCast, hv]
    have e0 : okS y ⟨wd, j, n⟩ = numOk y ⟨wd, j, n⟩ := by unfold okS; rw [decide_eq_true hwd, hb]; rfl
    rw [e0] at q
    unfold numOk at q
    dsimp only at q
    refine s_if (k := decide (wd = "from" ∨ wd = "ahead")) (EvTs.eq (et_B (ev_in (neg := false) (ds := [.str "from", .str "ahead"]) ev_v (ev_tup (ea_cons ev_k (ea_cons ev_k ea_nil))) rfl rfl rfl)) (in_from wd)) (fun hb => ?_) fun hb => ?_
    · rw [if_pos (of_decide_eq_true hb)] at q
      exact x_retB (ev_chain ev_k ev_v fun _ => ev_ixT ev_v ev_k rfl) rfl q
    rw [if_neg (of_decide_eq_false hb)] at q
    refine s_if (k := decide (wd = "way" ∨ wd = "not")) (EvTs.eq (et_B (ev_in (neg := false) (ds := [.str "way", .str "not"]) ev_v (ev_tup (ea_cons ev_k (ea_cons ev_k ea_nil))) rfl rfl rfl)) (in_way wd)) (fun hb => ?_) fun hb => ?_
    · rw [if_pos (of_decide_eq_true hb), hl] at q
      exact x_retB (ev_chain ev_k ev_v fun _ => ev_len (n := v.ways.length) (ev_ixT (ds := [.int v.low, .int v.high, .tuple (v.ways.map Way.e)]) (ev_ixT (ds := y.works.map Wrk.e) (ev_ixT ev_v ev_k rfl) ev_v (at_map (f := Wrk.e) hv)) ev_k rfl) (by show some (v.ways.map Way.e).length = _; rw [List.length_map])) rfl q
    · rw [if_neg (of_decide_eq_false hb)] at q
      exact x_retB (ev_eqI ev_v ev_k) rfl q
/-! check_sayings: 0:yard 1:sayings 2:at 3:saying -/
abbrev scheck_sayings : Stmt := topS 33
theorem sccheck_sayings : FnScope ["yard", "sayings", "at", "saying"] ["yard", "sayings"] (defScope scheck_sayings) := ⟨rfl, rfl, rfl, by decide +kernel, rfl, by decide +kernel, by decide +kernel⟩
abbrev Ncheck_sayings : List Str := ["yard", "sayings", "at", "saying"]
abbrev pscheck_sayings : List Str := ["yard", "sayings"]
theorem d_check_sayingsX {f : Addr} {fd : FuncData} (Bq : Bl mg) (X_BadSaying : ExcD P w K mg base "BadSaying" "badsaying" ["at"]) (R : Raw K mg "check_sayings" scheck_sayings pscheck_sayings f fd) (D_is_saying : Dfn P w K mg base 1 "is_saying" psis_saying (spD K false FisSy)) : DfnX P w K mg base 3 "check_sayings" pscheck_sayings FcsyX := by
  obtain ⟨m_len, m_list, m_tuple, m_range, m_enumerate, m_isinstance, m_int, m_bool, m_str, m_all, m_min, m_max, m_sum⟩ := Bq
  obtain ⟨f_is_saying, fd_is_saying, G_is_saying, m_is_saying, k_is_saying, b_is_saying⟩ := D_is_saying
  refine ⟨f, fd, (fnX (k := 2) R.1 sccheck_sayings (fun as Q E h => ?_) (fun xw cdv Ar outer s H E hr => (vss_one (vs_for (.tp [(.nm 2), (.nm 3)]) (passes_of rfl) rfl (vi_enum (by rfl) m_enumerate (va_cons (ve_var 1) va_nil)) (pg_tup rfl (pgs_cons (pg_name (i := 2) sccheck_sayings.nd rfl (.inl rfl)) (pgs_cons (pg_name (i := 3) sccheck_sayings.nd rfl (.inl rfl)) pgs_nil)))
      (vss_one (vs_if (vt_not (vt_val (ve_call G_is_saying (hr.mono (by omega)) (by rfl) m_is_saying k_is_saying b_is_saying (va_cons (ve_var 0) (va_cons (ve_var 3) va_nil))))) (vss_one (vs_raise (by rfl) X_BadSaying (hr.mono (by omega)) (by rfl) (va_cons (ve_var 2) va_nil))) vss_nil))))) (fun as Q E h => ?_)), R.2.1, R.1.kp, R.2.2⟩
  · obtain ⟨y, l, rfl, _⟩ := h
    rfl
  · obtain ⟨y, l, rfl, ho, hw, h60, q1, q2⟩ := h
    refine x_for (fun n ρ μ => (∀ (j : Nat) (s : Sy), j < n → l[j]? = some s → okS y s = true) ∧ ∃ x2 x3, ρ = [some (.dat y.e), some (.dat (.list (l.map Sy.e))), x2, x3]) (ei_E ev_v) ⟨(fun j s h => absurd h (Nat.not_lt_zero _)), _, _, rfl⟩ ?_ (fun ρ μ h => q1 fun s hs => by
      obtain ⟨j, hj⟩ := List.getElem?_of_mem hs
      exact h.1 j s (by have := lt_of_get hj; simpa [enumD] using this) hj)
    rintro n d ρ μ N hd ⟨hall, x2, x3, rfl⟩ hN
    have hn : n < l.length := by simpa [enumD] using lt_of_get hd
    obtain ⟨s, hs⟩ : ∃ s, l[n]? = some s := ⟨_, List.getElem?_eq_getElem hn⟩
    have ed : d = .tuple [.int n, s.e] := by
      have := enumD_at (ds := l.map Sy.e) (i := n) (d := s.e) (by rw [List.getElem?_map, hs]; rfl)
      rw [hd] at this
      exact Option.some.inj this
    subst ed
    refine ⟨_, rfl, x_if (k := !okS y s) (et_not (et_B (ev_call (d := .bool (okS y s)) (ea_cons ev_v (ea_cons ev_v ea_nil)) fun Q q => ⟨y, s, rfl, ho, hw s (List.mem_of_getElem? hs), q⟩))) (fun hb => ?_) fun hb => ?_⟩
    · exact x_raise (ds := [.int n]) (ea_cons ev_v ea_nil) (q2 n ⟨⟨s, hs, by simpa using hb⟩, hall⟩) (fun d hd => by rw [List.mem_singleton.mp hd]; refine fmt_lt ?_; rw [Int.natAbs_natCast]; exact Nat.lt_of_lt_of_le (show n < 64 by omega) (by decide +kernel))
    · refine hN _ _ ⟨fun j t h1 h2 => ?_, _, _, rfl⟩
      by_cases e : j = n
      · rw [e, hs] at h2; cases h2; simpa using hb
      · exact hall j t (by omega) h2
/-! line: 0:yard 1:sayings -/
abbrev sline : Stmt := topS 31
theorem scline : FnScope ["yard", "sayings"] ["yard", "sayings"] (defScope sline) := ⟨rfl, rfl, rfl, by decide +kernel, rfl, by decide +kernel, by decide +kernel⟩
abbrev Nline : List Str := ["yard", "sayings"]
abbrev psline : List Str := ["yard", "sayings"]
theorem okx_line {f : Addr} {fd : FuncData} (R : Raw K mg "line" sline psline f fd) (D_check_yard : Dfn P w K mg base 6 "check_yard" pscheck_yard (spD K false Fyard)) (D_check_sayings : DfnX P w K mg base 3 "check_sayings" pscheck_sayings FcsyX) (D_ordered : Dfn P w K mg base 1 "ordered" psordered (spD K false Fordered)) : DfnX P w K mg base 8 "line" psline FlineX := by
  obtain ⟨f_check_yard, fd_check_yard, G_check_yard, m_check_yard, k_check_yard, b_check_yard⟩ := D_check_yard
  obtain ⟨f_check_sayings, fd_check_sayings, G_check_sayings, m_check_sayings, k_check_sayings, b_check_sayings⟩ := D_check_sayings
  obtain ⟨f_ordered, fd_ordered, G_ordered, m_ordered, k_ordered, b_ordered⟩ := D_ordered
  refine ⟨f, fd, (fnX (k := 7) R.1 scline (fun as Q E h => ?_) (fun xw cdv Ar outer s H E hr => (vss_cons (vs_expr (ve_call G_check_yard (hr.mono (by omega)) (by rfl) m_check_yard k_check_yard b_check_yard (va_cons (ve_var 0) va_nil)))
    (vss_cons (vs_expr (ve_callX G_check_sayings (hr.mono (by omega)) (by rfl) m_check_sayings k_check_sayings b_check_sayings (va_cons (ve_var 0) (va_cons (ve_var 1) va_nil))))
    (vss_one (vs_ret (ve_call G_ordered (hr.mono (by omega)) (by rfl) m_ordered k_ordered b_ordered (va_cons (ve_var 1) va_nil))))))) (fun as Q E h => ?_)), R.2.1, R.1.kp, R.2.2⟩
  · obtain ⟨y, l, rfl, _⟩ := h
    rfl
  · obtain ⟨y, l, rfl, ho, hw, h60, q1, q2⟩ := h
    refine s_drop (ev_call (d := .none) (ea_cons ev_v ea_nil) fun Q q => ⟨y, rfl, ho, q⟩) ?_
    refine s_dropX (ea_cons ev_v (ea_cons ev_v ea_nil)) ⟨y, l, rfl, ho, hw, h60, fun hall => ?_, q2⟩ rfl
    obtain ⟨ss, s1, s2, s3⟩ := okS_all hall
    exact x_ret (a := .dat (lineE ss)) (ev_call (ea_cons (Evs.eq ev_v (by show A.dat (.list (l.map Sy.e)) = A.dat (.list (ss.map Say.e)); rw [s1])) ea_nil) fun Q q => ⟨ss, rfl, by omega, q⟩) (q1 hall _)
/-! holds: 0:yard 1:plan 2:sayings 3:kept 4:saying -/
abbrev sholds : Stmt := topS 32
theorem scholds : FnScope ["yard", "plan", "sayings", "kept", "saying"] ["yard", "plan", "sayings", "kept"] (defScope sholds) := ⟨rfl, rfl, rfl, by decide +kernel, rfl, by decide +kernel, by decide +kernel⟩
abbrev Nholds : List Str := ["yard", "plan", "sayings", "kept", "saying"]
abbrev psholds : List Str := ["yard", "plan", "sayings", "kept"]
theorem okx_holds {f : Addr} {fd : FuncData} (Bq : Bl mg) (m_any : mg "any" = none) (Fn : Fun K "holds" "holds" sholds f fd) (D_check_plan : Dfn P w K mg base 7 "check_plan" pscheck_plan (spD K false Fplan)) (D_check_sayings : DfnX P w K mg base 3 "check_sayings" pscheck_sayings FcsyX) (D_holds_of : Dfn P w K mg base 1 "holds_of" psholds_of (spD K false FholdsOf)) : FnOk P w K mg base (L2.CX P w) 8 f fd psholds (spX K mg false FholdX) := by
  obtain ⟨m_len, m_list, m_tuple, m_range, m_enumerate, m_isinstance, m_int, m_bool, m_str, m_all, m_min, m_max, m_sum⟩ := Bq
  obtain ⟨f_check_plan, fd_check_plan, G_check_plan, m_check_plan, k_check_plan, b_check_plan⟩ := D_check_plan
  obtain ⟨f_check_sayings, fd_check_sayings, G_check_sayings, m_check_sayings, k_check_sayings, b_check_sayings⟩ := D_check_sayings
  obtain ⟨f_holds_of, fd_holds_of, G_holds_of, m_holds_of, k_holds_of, b_holds_of⟩ := D_holds_of
  refine fnX (k := 7) Fn scholds (fun as Q E h => ?_) (fun xw cdv Ar outer s H E hr => (vss_cons (vs_expr (ve_call G_check_plan (hr.mono (by omega)) (by rfl) m_check_plan k_check_plan b_check_plan (va_cons (ve_var 0) (va_cons (ve_var 1) va_nil))))
    (vss_cons (vs_expr (ve_callX G_check_sayings (hr.mono (by omega)) (by rfl) m_check_sayings k_check_sayings b_check_sayings (va_cons (ve_var 0) (va_cons (ve_var 2) va_nil))))
    (vss_one (vs_retF (vf_callB c_any (cr_any rfl) (by rfl) m_any (by decide +kernel) (va_cons (VF.ve (vf_lc (own := [("saying", 4)]) (.nm 4) (by rfl) scholds.nd (vi_list (ve_var 2)) (blkOk_by (own := [("saying", 4)]) (N := ["yard", "plan", "sayings", "kept", "saying"]) (sc := defScope sholds) (by decide +kernel)) (fun _ _ _ _ _ => (pg_name (i := 4) scholds.nd rfl (.inl rfl))) (fun _ _ _ _ _ => vts_nil) (fun _ _ _ _ _ => (ve_call G_holds_of (hr.mono (by omega)) (by rfl) m_holds_of k_holds_of b_holds_of (va_cons (ve_var 1) (va_cons (ve_var 3) (va_cons (ve_var 4) va_nil))))))) va_nil))))))) (fun as Q E h => ?_)
  · obtain ⟨y, pl, l, rfl, _⟩ := h
    rfl
  · obtain ⟨y, pl, l, rfl, ho, hpl, hw, h60, q1, q2⟩ := h
    refine s_drop (ev_call (d := .none) (ea_cons ev_v (ea_cons ev_v ea_nil)) fun Q q => ⟨y, pl, rfl, ho, hpl, q⟩) ?_
    refine s_dropX (ea_cons ev_v (ea_cons ev_v ea_nil)) ⟨y, l, rfl, ho, hw, h60, fun hall => ?_, q2⟩ rfl
    obtain ⟨ss, s1, s2, s3⟩ := okS_all hall
    exact x_retF (ev_anym (l := ss) (b := hold pl []) (ev_lcg (f := Say.e) (g := fun s => .bool (hold pl [] s)) (l := ss) (EvIs.eq (ei_L ev_v) s1) (by omega) fun s hsm => ⟨_, rfl, ev_call (ea_cons ev_v (ea_cons ev_v (ea_cons ev_v ea_nil))) fun Q q => ⟨y, pl, [], s, rfl, s2 s hsm, hpl, .inl rfl, q⟩⟩)) (q1 hall _)
/-! turned: 0:saying 1:word 2:work 3:number -/
abbrev sturned : Stmt := topS 35
theorem scturned : FnScope ["saying", "word", "work", "number"] ["saying"] (defScope sturned) := ⟨rfl, rfl, rfl, by decide +kernel, rfl, by decide +kernel, by decide +kernel⟩
abbrev Nturned : List Str := ["saying", "word", "work", "number"]
abbrev psturned : List Str := ["saying"]
theorem d_turned {f dO : Addr} {fd : FuncData} (D : KTx K w dO oppF) (m_OPPOSITES : mg "OPPOSITES" = some (.ref dO)) (R : Raw K mg "turned" sturned psturned f fd) : Dfn P w K mg base 1 "turned" psturned (spD K false Fturned) := by
  refine ⟨f, fd, fnD R.1 scturned (fun as Q h => ?_) (fun cdv Ar outer s H E hr => (vss_cons (vs_asg (.tp [(.nm 1), (.nm 2), (.nm 3)]) (ve_var 0) (pg_tup rfl (pgs_cons (pg_name (i := 1) scturned.nd rfl (.inl rfl)) (pgs_cons (pg_name (i := 2) scturned.nd rfl (.inl rfl)) (pgs_cons (pg_name (i := 3) scturned.nd rfl (.inl rfl)) pgs_nil)))))
    (vss_one (vs_ret (ve_tup (va_cons (ve_itKd D (ve_var 1) (by rfl) m_OPPOSITES) (va_cons (ve_var 2) (va_cons (ve_var 3) va_nil)))))))) (fun as Q h => ?_), R.2.1, R.1.kp, R.2.2⟩
  · obtain ⟨s, rfl, q⟩ := h
    rfl
  · obtain ⟨s, rfl, q⟩ := h
    refine s_asg (d := .tuple [.str s.word.s, .int s.work, .int s.num]) ev_v rfl ?_
    exact x_ret (a := .dat s.opp.e) (ev_tup (as := [.dat (.str s.opp.word.s), .dat (.int s.work), .dat (.int s.num)]) (ea_cons (ev_itKd ev_v (oppF_of s.word)) (ea_cons ev_v (ea_cons ev_v ea_nil)))) q
/-! opposite: 0:yard 1:saying -/
abbrev sopposite : Stmt := topS 30
theorem scopposite : FnScope ["yard", "saying"] ["yard", "saying"] (defScope sopposite) := ⟨rfl, rfl, rfl, by decide +kernel, rfl, by decide +kernel, by decide +kernel⟩
abbrev Nopposite : List Str := ["yard", "saying"]
abbrev psopposite : List Str := ["yard", "saying"]
theorem okx_opposite {f : Addr} {fd : FuncData} (R : Raw K mg "opposite" sopposite psopposite f fd) (D_check_yard : Dfn P w K mg base 6 "check_yard" pscheck_yard (spD K false Fyard)) (D_check_sayings : DfnX P w K mg base 3 "check_sayings" pscheck_sayings FcsyX) (D_turned : Dfn P w K mg base 1 "turned" psturned (spD K false Fturned)) : DfnX P w K mg base 8 "opposite" psopposite FoppY := by
  obtain ⟨f_check_yard, fd_check_yard, G_check_yard, m_check_yard, k_check_yard, b_check_yard⟩ := D_check_yard
  obtain ⟨f_check_sayings, fd_check_sayings, G_check_sayings, m_check_sayings, k_check_sayings, b_check_sayings⟩ := D_check_sayings
  obtain ⟨f_turned, fd_turned, G_turned, m_turned, k_turned, b_turned⟩ := D_turned
  refine ⟨f, fd, (fnX (k := 7) R.1 scopposite (fun as Q E h => ?_) (fun xw cdv Ar outer s H E hr => (vss_cons (vs_expr (ve_call G_check_yard (hr.mono (by omega)) (by rfl) m_check_yard k_check_yard b_check_yard (va_cons (ve_var 0) va_nil)))
    (vss_cons (vs_expr (ve_callX G_check_sayings (hr.mono (by omega)) (by rfl) m_check_sayings k_check_sayings b_check_sayings (va_cons (ve_var 0) (va_cons (VF.ve (vf_lst (va_cons (ve_var 1) va_nil))) va_nil))))
    (vss_one (vs_ret (ve_call G_turned (hr.mono (by omega)) (by rfl) m_turned k_turned b_turned (va_cons (ve_var 1) va_nil))))))) (fun as Q E h => ?_)), R.2.1, R.1.kp, R.2.2⟩
  · obtain ⟨y, s, rfl, _⟩ := h
    rfl
  · obtain ⟨y, s, rfl, ho, hw, q1, q2⟩ := h
    refine s_drop (ev_call (d := .none) (ea_cons ev_v ea_nil) fun Q q => ⟨y, rfl, ho, q⟩) ?_
    refine s_dropX (as := [.dat y.e, .dat (.list [s.e])]) (ea_cons ev_v (ea_cons (ev_lst (as := [.dat s.e]) (ea_cons ev_v ea_nil)) ea_nil)) ⟨y, [s], rfl, ho, (fun t ht => by rw [List.mem_singleton.mp ht]; exact hw), by show 1 ≤ 60; decide, fun hall => ?_, fun k hk => ?_⟩ rfl
    · obtain ⟨t, t1, t2⟩ := okS_say (hall s (by simp))
      exact x_ret (a := .dat t.opp.e) (ev_call (ea_cons (Evs.eq ev_v (by show A.dat s.e = A.dat t.e; rw [t2])) ea_nil) fun Q q => ⟨t, rfl, q⟩) (q1 (hall s (by simp)) _)
    · obtain ⟨⟨t, h1, h2⟩, _⟩ := hk
      have := lt_of_get h1
      obtain rfl : k = 0 := by have : k < 1 := this; omega
      cases h1
      exact q2 h2
end
end HLaw

set_option Elab.async false
set_option linter.all false
set_option maxRecDepth 100000
set_option maxHeartbeats 1000000
namespace HLaw
open PySem PySem.Spec PyProof.Rows L2 Hod Hv
section
variable {P : Program} {w : World} {K : PySem.W.Frag} {mg : Str → Option Value} {base : Heap}

/-! _law_good_row: 0:_law_draw 1:_law_span 2:_law_base 3:_law_date -/
abbrev s_law_good_row : Stmt := topS 44
theorem sc_law_good_row : FnScope ["_law_draw", "_law_span", "_law_base", "_law_date"] ["_law_draw", "_law_span"] (defScope s_law_good_row) := ⟨rfl, rfl, rfl, by decide +kernel, rfl, by decide +kernel, by decide +kernel⟩
abbrev N_law_good_row : List Str := ["_law_draw", "_law_span", "_law_base", "_law_date"]
abbrev ps_law_good_row : List Str := ["_law_draw", "_law_span"]
theorem okd__law_good_row {f : Addr} {fd : FuncData} (Bq : Bl mg) (R : Raw K mg "_law_good_row" s_law_good_row ps_law_good_row f fd) (D__law_pull : Dfn P w K mg base 1 "_law_pull" ps_law_pull (spD K false Fpull)) : FnOk P w K mg base CX0 2 f fd ps_law_good_row (spD K false FgoodRow) := by
  obtain ⟨m_len, m_list, m_tuple, m_range, m_enumerate, m_isinstance, m_int, m_bool, m_str, m_all, m_min, m_max, m_sum⟩ := Bq
  obtain ⟨f__law_pull, fd__law_pull, G__law_pull, m__law_pull, k__law_pull, b__law_pull⟩ := D__law_pull
  refine fnD R.1 sc_law_good_row (fun as Q h => ?_) (fun cdv Ar outer s H E hr => (vss_cons (vs_set (i := 2) sc_law_good_row.nd rfl (.inr rfl) (ve_op op_add r_add ve_int (ve_call G__law_pull (hr.mono (by omega)) (by rfl) m__law_pull k__law_pull b__law_pull (va_cons (ve_var 0) (va_cons ve_int va_nil)))))
    (vss_one (vs_retF (vf_callTy c_tuple call_tuple_of (by rfl) m_tuple (by decide +kernel) (va_cons (VF.ve (vf_lc (own := [("_law_date", 3)]) (.nm 3) (by rfl) sc_law_good_row.nd (vi_range1 (by rfl) m_range (va_cons (ve_var 1) va_nil)) (blkOk_by (own := [("_law_date", 3)]) (N := ["_law_draw", "_law_span", "_law_base", "_law_date"]) (sc := defScope s_law_good_row) (by decide +kernel)) (fun _ _ _ _ _ => (pg_name (i := 3) sc_law_good_row.nd rfl (.inl rfl))) (fun _ _ _ _ _ => vts_nil) (fun _ _ _ _ _ => (ve_ix ix_seq r_ix (VF.ve (vf_lst (va_cons (ve_var 2) (va_cons (ve_var 2) (va_cons (ve_var 2) (va_cons (ve_call G__law_pull (hr.mono (by omega)) (by rfl) m__law_pull k__law_pull b__law_pull (va_cons (ve_var 0) (va_cons ve_int va_nil))) va_nil)))))) (ve_call G__law_pull (hr.mono (by omega)) (by rfl) m__law_pull k__law_pull b__law_pull (va_cons (ve_var 0) (va_cons ve_int va_nil))) (fun _ _ => rfl))))) va_nil)))))) (fun as Q h => ?_)
  · obtain ⟨n, rfl, n0, n1, q⟩ := h
    rfl
  · obtain ⟨n, rfl, n0, n1, q⟩ := h
    refine s_setN (x_addP (n := 4) ev_k fun b b0 b1 => ?_)
    refine x_retFN (x_cb (x_ac (x_lca (P := fun e => ∃ x : Int, e = .int x ∧ 0 ≤ x ∧ x ≤ 9) (ei_R1 ev_v (by omega) (by omega)) (by rw [rng_len]; omega) (fun d hd => ⟨_, rfl, fun R hR => ?_⟩) fun es hl hP => ?_)))
    · refine x_opN (x_lst (x_ac (x_ev ev_v (x_ac (x_ev ev_v (x_ac (x_ev ev_v (x_ac (x_pull (n := 10) fun r r0 r1 => ?_)))))))))
      refine ⟨Nat.le_of_ble_eq_true rfl, x_pull (n := 4) fun k k0 k1 => ?_⟩
      rcases (show k = 0 ∨ k = 1 ∨ k = 2 ∨ k = 3 by omega) with rfl | rfl | rfl | rfl
      · exact hR _ ⟨1 + b, rfl, by omega, by omega⟩
      · exact hR _ ⟨1 + b, rfl, by omega, by omega⟩
      · exact hR _ ⟨1 + b, rfl, by omega, by omega⟩
      · exact hR _ ⟨r, rfl, by omega, by omega⟩
    · obtain ⟨l, rfl, hf⟩ := list_of' hP
      refine q l ?_ hf
      rw [List.length_map, rng_len] at hl
      omega

theorem d__law_good_row {f : Addr} {fd : FuncData} (Bq : Bl mg) (R : Raw K mg "_law_good_row" s_law_good_row ps_law_good_row f fd) (D__law_pull : Dfn P w K mg base 1 "_law_pull" ps_law_pull (spD K false Fpull)) : Dfn P w K mg base 2 "_law_good_row" ps_law_good_row (spD K false FgoodRow) := ⟨f, fd, okd__law_good_row Bq R D__law_pull, R.2.1, R.1.kp, R.2.2⟩

/-! _law_mode: 0:_law_draw 1:_law_span 2:_law_goods 3:_law_long_of 4:_law_some 5:_law_k -/
abbrev s_law_mode : Stmt := topS 45
theorem sc_law_mode : FnScope ["_law_draw", "_law_span", "_law_goods", "_law_long_of", "_law_some", "_law_k"] ["_law_draw", "_law_span", "_law_goods"] (defScope s_law_mode) := ⟨rfl, rfl, rfl, by decide +kernel, rfl, by decide +kernel, by decide +kernel⟩
abbrev N_law_mode : List Str := ["_law_draw", "_law_span", "_law_goods", "_law_long_of", "_law_some", "_law_k"]
abbrev ps_law_mode : List Str := ["_law_draw", "_law_span", "_law_goods"]
theorem okd__law_mode {f : Addr} {fd : FuncData} (Bq : Bl mg) (R : Raw K mg "_law_mode" s_law_mode ps_law_mode f fd) (D__law_pull : Dfn P w K mg base 1 "_law_pull" ps_law_pull (spD K false Fpull)) : FnOk P w K mg base CX0 2 f fd ps_law_mode (spD K false Fmode) := by
  obtain ⟨m_len, m_list, m_tuple, m_range, m_enumerate, m_isinstance, m_int, m_bool, m_str, m_all, m_min, m_max, m_sum⟩ := Bq
  obtain ⟨f__law_pull, fd__law_pull, G__law_pull, m__law_pull, k__law_pull, b__law_pull⟩ := D__law_pull
  refine fnD R.1 sc_law_mode (fun as Q h => ?_) (fun cdv Ar outer s H E hr => (vss_cons (vs_set (i := 3) sc_law_mode.nd rfl (.inl rfl) (ve_op op_add r_add ve_int (ve_call G__law_pull (hr.mono (by omega)) (by rfl) m__law_pull k__law_pull b__law_pull (va_cons (ve_var 0) (va_cons (VF.ve (vf_callB c_min2 (call_min2 rfl) (by rfl) m_min (by decide +kernel) (va_cons ve_int (va_cons (ve_var 1) va_nil)))) va_nil)))))
    (vss_cons (vs_if (vt_cmp op_eq r_eq (ve_call G__law_pull (hr.mono (by omega)) (by rfl) m__law_pull k__law_pull b__law_pull (va_cons (ve_var 0) (va_cons ve_int va_nil))) ve_int (nomark _)) (vss_one (vs_set (i := 3) sc_law_mode.nd rfl (.inl rfl) (ve_op op_add r_add ve_int (ve_call G__law_pull (hr.mono (by omega)) (by rfl) m__law_pull k__law_pull b__law_pull (va_cons (ve_var 0) (va_cons ve_int va_nil)))))) vss_nil)
    (vss_cons (vs_ownLc (i := 4) (own := [("_law_k", 5)]) (.nm 5) (by rfl) sc_law_mode.nd rfl rfl (sw_true rfl rfl rfl (by decide +kernel)) (vi_range1 (by rfl) m_range (va_cons (ve_var 2) va_nil)) (blkOk_by (own := [("_law_k", 5)]) (N := ["_law_draw", "_law_span", "_law_goods", "_law_long_of", "_law_some", "_law_k"]) (sc := defScope s_law_mode) (by decide +kernel)) (fun _ _ _ _ _ => (pg_name (i := 5) sc_law_mode.nd rfl (.inl rfl))) (fun _ _ _ _ _ => vts_nil) (fun _ _ _ _ _ => (ve_ix ix_seq r_ix (VF.ve (vf_lst (va_cons ve_int (va_cons ve_int (va_cons ve_int (va_cons ve_int (va_cons ve_int va_nil))))))) (ve_call G__law_pull (hr.mono (by omega)) (by rfl) m__law_pull k__law_pull b__law_pull (va_cons (ve_var 0) (va_cons ve_int va_nil))) (fun _ _ => rfl))))
    (vss_cons (vs_if (VW.vt (vw_and (vt_cmp op_gt r_gt (ve_var 2) ve_int (nomark _)) (vw_and1 (vt_cmp op_eq r_eq (ve_call G__law_pull (hr.mono (by omega)) (by rfl) m__law_pull k__law_pull b__law_pull (va_cons (ve_var 0) (va_cons ve_int va_nil))) ve_int (nomark _))))) (vss_one (vs_sto (ve_call G__law_pull (hr.mono (by omega)) (by rfl) m__law_pull k__law_pull b__law_pull (va_cons (ve_var 0) (va_cons ve_int va_nil))) (ve_var 4) (ve_call G__law_pull (hr.mono (by omega)) (by rfl) m__law_pull k__law_pull b__law_pull (va_cons (ve_var 0) (va_cons (ve_var 2) va_nil))) (fun a b c => pg_sub a b c))) vss_nil)
    (vss_one (vs_ret (ve_tup (va_cons (ve_var 3) (va_cons (ve_call G__law_pull (hr.mono (by omega)) (by rfl) m__law_pull k__law_pull b__law_pull (va_cons (ve_var 0) (va_cons ve_int va_nil))) (va_cons (VF.ve (vf_callTy c_tuple call_tuple_of (by rfl) m_tuple (by decide +kernel) (va_cons (ve_var 4) va_nil))) va_nil))))))))))) (fun as Q h => ?_)
  · obtain ⟨n, g, rfl, n1, g1, q⟩ := h
    rfl
  · obtain ⟨n, g, rfl, n1, g1, q⟩ := h
    refine s_setN (x_addP (n := if n < 4 then n else 4) (w := wCB gMin2 (waCons (wC (.int 4)) (waCons (wVar 1) waNil))) ev_k (fun b b0 b1 => ?_) (by split <;> omega) (by split <;> omega) (ev_min ev_k ev_v))
    have hb : 1 ≤ 1 + b ∧ 1 + b ≤ 9 := by split at b1 <;> omega
    generalize 1 + b = l at hb
    refine s_coin (n := 12) (x_setN (x_addP (n := 9) ev_k fun b b0 b1 => ?_)) ?_
    · have hb2 : 1 ≤ 1 + b ∧ 1 + b ≤ 9 := by omega
      clear hb
      generalize 1 + b = l2 at hb2
      dsimp only
      refine s_ownLc (P := fun e => ∃ x : Int, e = .int x ∧ 0 ≤ x ∧ x ≤ 9) (ei_R1 ev_v (by omega) (by omega)) (by rw [rng_len]; omega) (fun d hd => ⟨_, rfl, fun R hR => ?_⟩) (fun e ⟨x, hx, _⟩ => by rw [hx]; rfl) fun es hl hP p np => ?_
      · refine x_op (ev_lst (ea_cons ev_k (ea_cons ev_k (ea_cons ev_k (ea_cons ev_k (ea_cons ev_k ea_nil)))))) (x_pull (n := 5) fun k k0 k1 => ?_)
        rcases (show k = 0 ∨ k = 1 ∨ k = 2 ∨ k = 3 ∨ k = 4 by omega) with rfl | rfl | rfl | rfl | rfl
        · exact hR _ ⟨0, rfl, by omega, by omega⟩
        · exact hR _ ⟨1, rfl, by omega, by omega⟩
        · exact hR _ ⟨1, rfl, by omega, by omega⟩
        · exact hR _ ⟨2, rfl, by omega, by omega⟩
        · exact hR _ ⟨3, rfl, by omega, by omega⟩
      obtain ⟨row, rfl, hf⟩ := list_of' hP
      have hrl : row.length = g := by
        rw [List.length_map, rng_len] at hl
        omega
      have fin : ∀ (row : List Int) (μ : Mem), row.length = g → Few row → μ p = some ((row.map PyData.int).map .dat) → wRet (wTup (waCons (wVar 3) (waCons (wCall Fpull (waCons (wVar 0) (waCons (wC (.int 2)) waNil))) (waCons (wCB gTuple (waCons (wVar 4) waNil)) waNil)))) { nx := fun _ _ => Q .none, rt := Q, fr := false } [some .drw, some (.dat (.int n)), some (.dat (.int g)), some (.dat (.int l2)), some (.own p), none] μ := by
        intro row μ h1 h2 h3
        refine x_retN (x_tup (x_ac (x_ev ev_v (x_ac (x_pull (n := 2) fun r r0 r1 => x_ac (x_ev (ev_tuple ev_v (seqA_own h3)) ?_))))))
        exact ⟨Nat.le_of_ble_eq_true rfl, q ⟨l2, r, row⟩ ⟨hb2.1, hb2.2, by show r = 0 ∨ r = 1; omega, h1, h2⟩⟩
      refine s_andCoin (n := 12) (et_B (ev_I ev_v ev_k)) (fun hk => ?_) (fin row _ hrl hf put_same)
      have hg : (0 : Int) < g := of_decide_eq_true hk
      refine x_stoN (x_pull (n := 10) fun x x0 x9 => x_ev ev_v (x_pull (n := g) (fun k k0 k1 => ?_) hg (by omega) ev_v))
      refine x_stoE (a := .dat (.int x)) (R := True) put_same k0 (by simp; omega) (fin (row.set k.toNat x) _ (by simp [hrl]) (few_set hf x0 (by omega)) ?_)
      rw [put_same, List.map_set, List.map_set]
    · have hb2 := hb
      clear hb
      revert hb2
      generalize l = l2
      intro hb2
      refine s_ownLc (P := fun e => ∃ x : Int, e = .int x ∧ 0 ≤ x ∧ x ≤ 9) (ei_R1 ev_v (by omega) (by omega)) (by rw [rng_len]; omega) (fun d hd => ⟨_, rfl, fun R hR => ?_⟩) (fun e ⟨x, hx, _⟩ => by rw [hx]; rfl) fun es hl hP p np => ?_
      · refine x_op (ev_lst (ea_cons ev_k (ea_cons ev_k (ea_cons ev_k (ea_cons ev_k (ea_cons ev_k ea_nil)))))) (x_pull (n := 5) fun k k0 k1 => ?_)
        rcases (show k = 0 ∨ k = 1 ∨ k = 2 ∨ k = 3 ∨ k = 4 by omega) with rfl | rfl | rfl | rfl | rfl
        · exact hR _ ⟨0, rfl, by omega, by omega⟩
        · exact hR _ ⟨1, rfl, by omega, by omega⟩
        · exact hR _ ⟨1, rfl, by omega, by omega⟩
        · exact hR _ ⟨2, rfl, by omega, by omega⟩
        · exact hR _ ⟨3, rfl, by omega, by omega⟩
      obtain ⟨row, rfl, hf⟩ := list_of' hP
      have hrl : row.length = g := by
        rw [List.length_map, rng_len] at hl
        omega
      have fin : ∀ (row : List Int) (μ : Mem), row.length = g → Few row → μ p = some ((row.map PyData.int).map .dat) → wRet (wTup (waCons (wVar 3) (waCons (wCall Fpull (waCons (wVar 0) (waCons (wC (.int 2)) waNil))) (waCons (wCB gTuple (waCons (wVar 4) waNil)) waNil)))) { nx := fun _ _ => Q .none, rt := Q, fr := false } [some .drw, some (.dat (.int n)), some (.dat (.int g)), some (.dat (.int l2)), some (.own p), none] μ := by
        intro row μ h1 h2 h3
        refine x_retN (x_tup (x_ac (x_ev ev_v (x_ac (x_pull (n := 2) fun r r0 r1 => x_ac (x_ev (ev_tuple ev_v (seqA_own h3)) ?_))))))
        exact ⟨Nat.le_of_ble_eq_true rfl, q ⟨l2, r, row⟩ ⟨hb2.1, hb2.2, by show r = 0 ∨ r = 1; omega, h1, h2⟩⟩
      refine s_andCoin (n := 12) (et_B (ev_I ev_v ev_k)) (fun hk => ?_) (fin row _ hrl hf put_same)
      have hg : (0 : Int) < g := of_decide_eq_true hk
      refine x_stoN (x_pull (n := 10) fun x x0 x9 => x_ev ev_v (x_pull (n := g) (fun k k0 k1 => ?_) hg (by omega) ev_v))
      refine x_stoE (a := .dat (.int x)) (R := True) put_same k0 (by simp; omega) (fin (row.set k.toNat x) _ (by simp [hrl]) (few_set hf x0 (by omega)) ?_)
      rw [put_same, List.map_set, List.map_set]

theorem d__law_mode {f : Addr} {fd : FuncData} (Bq : Bl mg) (R : Raw K mg "_law_mode" s_law_mode ps_law_mode f fd) (D__law_pull : Dfn P w K mg base 1 "_law_pull" ps_law_pull (spD K false Fpull)) : Dfn P w K mg base 2 "_law_mode" ps_law_mode (spD K false Fmode) := ⟨f, fd, okd__law_mode Bq R D__law_pull, R.2.1, R.1.kp, R.2.2⟩

/-! _law_job: 0:_law_draw 1:_law_span 2:_law_goods 3:_law_modes 4:_law_floor 5:_law_roof 6:_law_k -/
abbrev s_law_job : Stmt := topS 46
theorem sc_law_job : FnScope ["_law_draw", "_law_span", "_law_goods", "_law_modes", "_law_floor", "_law_roof", "_law_k"] ["_law_draw", "_law_span", "_law_goods", "_law_modes"] (defScope s_law_job) := ⟨rfl, rfl, rfl, by decide +kernel, rfl, by decide +kernel, by decide +kernel⟩
abbrev N_law_job : List Str := ["_law_draw", "_law_span", "_law_goods", "_law_modes", "_law_floor", "_law_roof", "_law_k"]
abbrev ps_law_job : List Str := ["_law_draw", "_law_span", "_law_goods", "_law_modes"]
theorem okd__law_job {f : Addr} {fd : FuncData} (Bq : Bl mg) (R : Raw K mg "_law_job" s_law_job ps_law_job f fd) (D__law_pull : Dfn P w K mg base 1 "_law_pull" ps_law_pull (spD K false Fpull)) (D__law_mode : Dfn P w K mg base 2 "_law_mode" ps_law_mode (spD K false Fmode)) : FnOk P w K mg base CX0 3 f fd ps_law_job (spD K false Fjob) := by
  obtain ⟨m_len, m_list, m_tuple, m_range, m_enumerate, m_isinstance, m_int, m_bool, m_str, m_all, m_min, m_max, m_sum⟩ := Bq
  obtain ⟨f__law_pull, fd__law_pull, G__law_pull, m__law_pull, k__law_pull, b__law_pull⟩ := D__law_pull
  obtain ⟨f__law_mode, fd__law_mode, G__law_mode, m__law_mode, k__law_mode, b__law_mode⟩ := D__law_mode
  refine fnD R.1 sc_law_job (fun as Q h => ?_) (fun cdv Ar outer s H E hr => (vss_cons (vs_par (by rfl) sc_law_job.nd (i := 4) (j := 5) rfl rfl (by decide) rfl rfl (va_cons ve_int (va_cons (ve_var 1) va_nil)) (by rfl))
    (vss_cons (vs_if (vt_cmp op_eq r_eq (ve_call G__law_pull (hr.mono (by omega)) (by rfl) m__law_pull k__law_pull b__law_pull (va_cons (ve_var 0) (va_cons ve_int va_nil))) ve_int (nomark _)) (vss_cons (vs_set (i := 4) sc_law_job.nd rfl (.inl rfl) (ve_call G__law_pull (hr.mono (by omega)) (by rfl) m__law_pull k__law_pull b__law_pull (va_cons (ve_var 0) (va_cons (ve_var 1) va_nil))))
    (vss_one (vs_set (i := 5) sc_law_job.nd rfl (.inl rfl) (ve_op op_add r_add (ve_op op_add r_add (ve_var 4) ve_int) (ve_call G__law_pull (hr.mono (by omega)) (by rfl) m__law_pull k__law_pull b__law_pull (va_cons (ve_var 0) (va_cons (ve_op op_sub r_sub (ve_var 1) (ve_var 4)) va_nil))))))) vss_nil)
    (vss_one (vs_ret (ve_tup (va_cons (ve_var 4) (va_cons (ve_var 5) (va_cons (VF.ve (vf_callTy c_tuple call_tuple_of (by rfl) m_tuple (by decide +kernel) (va_cons (VF.ve (vf_lc (own := [("_law_k", 6)]) (.nm 6) (by rfl) sc_law_job.nd (vi_range1 (by rfl) m_range (va_cons (ve_op op_add r_add ve_int (ve_call G__law_pull (hr.mono (by omega)) (by rfl) m__law_pull k__law_pull b__law_pull (va_cons (ve_var 0) (va_cons (ve_var 3) va_nil)))) va_nil)) (blkOk_by (own := [("_law_k", 6)]) (N := ["_law_draw", "_law_span", "_law_goods", "_law_modes", "_law_floor", "_law_roof", "_law_k"]) (sc := defScope s_law_job) (by decide +kernel)) (fun _ _ _ _ _ => (pg_name (i := 6) sc_law_job.nd rfl (.inl rfl))) (fun _ _ _ _ _ => vts_nil) (fun _ _ _ _ _ => (ve_call G__law_mode (hr.mono (by omega)) (by rfl) m__law_mode k__law_mode b__law_mode (va_cons (ve_var 0) (va_cons (ve_var 1) (va_cons (ve_var 2) va_nil))))))) va_nil))) va_nil))))))))) (fun as Q h => ?_)
  · obtain ⟨n, g, m, rfl, n1, n2, g1, m1, m3, q⟩ := h
    rfl
  · obtain ⟨n, g, m, rfl, n1, n2, g1, m1, m3, q⟩ := h
    have fin : ∀ lo hi : Int, 0 ≤ lo → lo < hi → hi ≤ n → wRet (wTup (waCons (wVar 4) (waCons (wVar 5) (waCons (wCB gTuple (waCons (wLc (wiR1 (waCons (wOp gAdd (wC (.int 1)) (wCall Fpull (waCons (wVar 0) (waCons (wVar 3) waNil)))) waNil)) (.nm 6) wYes (wCall Fmode (waCons (wVar 0) (waCons (wVar 1) (waCons (wVar 2) waNil)))) [6]) waNil)) waNil)))) { nx := fun _ _ => Q .none, rt := Q, fr := false } [some .drw, some (.dat (.int n)), some (.dat (.int g)), some (.dat (.int m)), some (.dat (.int lo)), some (.dat (.int hi)), none] emp := by
      intro lo hi h1 h2 h3
      refine x_retN (x_tup (x_ac (x_ev ev_v (x_ac (x_ev ev_v (x_ac (x_cb (x_ac (x_lc (x_r1 (x_ac (x_addP (n := m) ev_k (fun r r0 r1 => ⟨⟨by omega, by omega⟩, by rw [rng_len]; omega, lcW_all (P := fun e => ∃ w : Way, e = w.e ∧ w.ok g) (fun d hd R hR => ?_) fun es hl hP => ?_⟩) (by omega) (by omega) ev_v))))))))))))
      · exact lcF_yes rfl (x_call (ea_cons ev_v (ea_cons ev_v (ea_cons ev_v ea_nil))) ⟨n, g, rfl, n1, g1, fun w hw => hR _ ⟨w, rfl, hw⟩⟩)
      · obtain ⟨ws, rfl, hws⟩ := list_of' hP
        rw [List.length_map, rng_len] at hl
        exact ⟨Nat.le_of_ble_eq_true rfl, q ⟨lo, hi, ws⟩ ⟨h1, h2, h3, by show 1 ≤ ws.length; omega, by show ws.length ≤ 3; omega, hws⟩ (by show (ws.length : Int) ≤ m; omega)⟩
    refine x_seq (x_ev2 (ea_cons ev_k (ea_cons ev_v ea_nil)) ?_)
    dsimp only
    refine s_coin (n := 4) (s_setN (x_pull (n := n) (fun lo l0 l1 => ?_) (by omega) (by omega) ev_v)) (fin 0 n (by omega) (by omega) (by omega))
    refine x_setN (x_addP (n := n - lo) (w := wOp gSub (wVar 1) (wVar 4)) (ev_I ev_v ev_k) (fun r r0 r1 => ?_) (by omega) (by omega) (ev_I ev_v ev_v))
    exact fin lo (lo + 1 + r) l0 (by omega) (by omega)

theorem d__law_job {f : Addr} {fd : FuncData} (Bq : Bl mg) (R : Raw K mg "_law_job" s_law_job ps_law_job f fd) (D__law_pull : Dfn P w K mg base 1 "_law_pull" ps_law_pull (spD K false Fpull)) (D__law_mode : Dfn P w K mg base 2 "_law_mode" ps_law_mode (spD K false Fmode)) : Dfn P w K mg base 3 "_law_job" ps_law_job (spD K false Fjob) := ⟨f, fd, okd__law_job Bq R D__law_pull D__law_mode, R.2.1, R.1.kp, R.2.2⟩

/-! _law_link: 0:_law_draw 1:_law_jobs 2:_law_one 3:_law_other 4:_law_room -/
abbrev s_law_link : Stmt := topS 47
theorem sc_law_link : FnScope ["_law_draw", "_law_jobs", "_law_one", "_law_other", "_law_room"] ["_law_draw", "_law_jobs"] (defScope s_law_link) := ⟨rfl, rfl, rfl, by decide +kernel, rfl, by decide +kernel, by decide +kernel⟩
abbrev N_law_link : List Str := ["_law_draw", "_law_jobs", "_law_one", "_law_other", "_law_room"]
abbrev ps_law_link : List Str := ["_law_draw", "_law_jobs"]
theorem okd__law_link {f : Addr} {fd : FuncData} (Bq : Bl mg) (R : Raw K mg "_law_link" s_law_link ps_law_link f fd) (D__law_pull : Dfn P w K mg base 1 "_law_pull" ps_law_pull (spD K false Fpull)) : FnOk P w K mg base CX0 2 f fd ps_law_link (spD K false Flink) := by
  obtain ⟨m_len, m_list, m_tuple, m_range, m_enumerate, m_isinstance, m_int, m_bool, m_str, m_all, m_min, m_max, m_sum⟩ := Bq
  obtain ⟨f__law_pull, fd__law_pull, G__law_pull, m__law_pull, k__law_pull, b__law_pull⟩ := D__law_pull
  refine fnD R.1 sc_law_link (fun as Q h => ?_) (fun cdv Ar outer s H E hr => (vss_cons (vs_set (i := 2) sc_law_link.nd rfl (.inl rfl) (ve_call G__law_pull (hr.mono (by omega)) (by rfl) m__law_pull k__law_pull b__law_pull (va_cons (ve_var 0) (va_cons (ve_var 1) va_nil))))
    (vss_cons (vs_set (i := 3) sc_law_link.nd rfl (.inl rfl) (ve_op op_mod r_mod (ve_op op_add r_add (ve_op op_add r_add (ve_var 2) ve_int) (ve_call G__law_pull (hr.mono (by omega)) (by rfl) m__law_pull k__law_pull b__law_pull (va_cons (ve_var 0) (va_cons (ve_op op_sub r_sub (ve_var 1) ve_int) va_nil)))) (ve_var 1)))
    (vss_cons (vs_set (i := 4) sc_law_link.nd rfl (.inl rfl) (ve_ix ix_seq r_ix (VF.ve (vf_lst (va_cons ve_int (va_cons ve_int (va_cons ve_int (va_cons ve_int (va_cons (ve_neg ve_int) (va_cons (ve_op op_sub r_sub (ve_call G__law_pull (hr.mono (by omega)) (by rfl) m__law_pull k__law_pull b__law_pull (va_cons (ve_var 0) (va_cons ve_int va_nil))) ve_int) (va_cons (ve_op op_sub r_sub (ve_call G__law_pull (hr.mono (by omega)) (by rfl) m__law_pull k__law_pull b__law_pull (va_cons (ve_var 0) (va_cons ve_int va_nil))) ve_int) va_nil))))))))) (ve_call G__law_pull (hr.mono (by omega)) (by rfl) m__law_pull k__law_pull b__law_pull (va_cons (ve_var 0) (va_cons ve_int va_nil))) (fun _ _ => rfl)))
    (vss_one (vs_ret (ve_tup (va_cons (ve_call G__law_pull (hr.mono (by omega)) (by rfl) m__law_pull k__law_pull b__law_pull (va_cons (ve_var 0) (va_cons ve_int va_nil))) (va_cons (ve_var 2) (va_cons (ve_var 3) (va_cons (ve_var 4) va_nil))))))))))) (fun as Q h => ?_)
  · obtain ⟨j, rfl, j2, j1, q⟩ := h
    rfl
  · obtain ⟨j, rfl, j2, j1, q⟩ := h
    refine s_setN (x_pull (n := j) (fun a a0 a1 => ?_) (by omega) (by omega) ev_v)
    refine s_setN (x_opN (x_addP (n := (j : Int) - 1) (w := wOp gSub (wVar 1) (wC (.int 1))) (ev_I ev_v ev_k) (fun b b0 b1 => x_ev ev_v ?_) (by omega) (by omega) (ev_I ev_v ev_k)))
    refine ⟨by show (0 : Int) < j; omega, ?_⟩
    dsimp only
    have hc : (a + 1 + b) % j ≠ a := by
      intro h
      by_cases hlt : a + 1 + b < j
      · rw [Int.emod_eq_of_lt (by omega) hlt] at h; omega
      · have e : (a + 1 + b) % (j : Int) = a + 1 + b - j := by
          rw [← Int.sub_emod_right]
          exact Int.emod_eq_of_lt (by omega) (by omega)
        rw [e] at h; omega
    have hc0 : 0 ≤ (a + 1 + b) % (j : Int) := Int.emod_nonneg _ (by omega)
    have hc1 : (a + 1 + b) % (j : Int) < j := Int.emod_lt_of_pos _ (by omega)
    generalize (a + 1 + b) % (j : Int) = c at hc hc0 hc1
    have fin : ∀ gp : Int, -20 ≤ gp → gp ≤ 20 → wRet (wTup (waCons (wCall Fpull (waCons (wVar 0) (waCons (wC (.int 2)) waNil))) (waCons (wVar 2) (waCons (wVar 3) (waCons (wVar 4) waNil))))) { nx := fun _ _ => Q .none, rt := Q, fr := false } [some .drw, some (.dat (.int j)), some (.dat (.int a)), some (.dat (.int c)), some (.dat (.int gp))] emp := by
      intro gp h1 h2
      refine x_retN (x_tup (x_ac (x_pull (n := 2) fun k k0 k1 => x_ac (x_ev ev_v (x_ac (x_ev ev_v (x_ac (x_ev ev_v ?_))))))))
      exact ⟨Nat.le_of_ble_eq_true rfl, q ⟨k, a, c, gp⟩ ⟨by show k = 0 ∨ k = 1; omega, fun z => hc z.symm, a0, a1, hc0, hc1, h1, h2⟩⟩
    refine s_setN (x_opN (x_lst (x_ac (x_ev ev_k (x_ac (x_ev ev_k (x_ac (x_ev ev_k (x_ac (x_ev ev_k (x_ac (x_ev (ev_neg ev_k) (x_ac (x_subP (n := 7) (fun u u0 u1 => x_ac (x_subP (n := 41) (fun v v0 v1 => ?_) ev_k)) ev_k))))))))))))))
    refine ⟨Nat.le_of_ble_eq_true rfl, x_pull (n := 7) fun k k0 k1 => ?_⟩
    rcases (show k = 0 ∨ k = 1 ∨ k = 2 ∨ k = 3 ∨ k = 4 ∨ k = 5 ∨ k = 6 by omega) with rfl | rfl | rfl | rfl | rfl | rfl | rfl
    · exact fin 0 (by omega) (by omega)
    · exact fin 0 (by omega) (by omega)
    · exact fin 0 (by omega) (by omega)
    · exact fin 1 (by omega) (by omega)
    · exact fin (-1) (by omega) (by omega)
    · exact fin (u - 3) (by omega) (by omega)
    · exact fin (v - 20) (by omega) (by omega)

theorem d__law_link {f : Addr} {fd : FuncData} (Bq : Bl mg) (R : Raw K mg "_law_link" s_law_link ps_law_link f fd) (D__law_pull : Dfn P w K mg base 1 "_law_pull" ps_law_pull (spD K false Fpull)) : Dfn P w K mg base 2 "_law_link" ps_law_link (spD K false Flink) := ⟨f, fd, okd__law_link Bq R D__law_pull, R.2.1, R.1.kp, R.2.2⟩

/-! _law_closed: 0:_law_draw 1:_law_span 2:_law_date -/
abbrev s_law_closed : Stmt := topS 48
theorem sc_law_closed : FnScope ["_law_draw", "_law_span", "_law_date"] ["_law_draw", "_law_span"] (defScope s_law_closed) := ⟨rfl, rfl, rfl, by decide +kernel, rfl, by decide +kernel, by decide +kernel⟩
abbrev N_law_closed : List Str := ["_law_draw", "_law_span", "_law_date"]
abbrev ps_law_closed : List Str := ["_law_draw", "_law_span"]
theorem okd__law_closed {f : Addr} {fd : FuncData} (Bq : Bl mg) (R : Raw K mg "_law_closed" s_law_closed ps_law_closed f fd) (D__law_pull : Dfn P w K mg base 1 "_law_pull" ps_law_pull (spD K false Fpull)) : FnOk P w K mg base CX0 2 f fd ps_law_closed (spD K false Fclosed) := by
  obtain ⟨m_len, m_list, m_tuple, m_range, m_enumerate, m_isinstance, m_int, m_bool, m_str, m_all, m_min, m_max, m_sum⟩ := Bq
  obtain ⟨f__law_pull, fd__law_pull, G__law_pull, m__law_pull, k__law_pull, b__law_pull⟩ := D__law_pull
  refine fnD R.1 sc_law_closed (fun as Q h => ?_) (fun cdv Ar outer s H E hr => (vss_cons (vs_if (vt_cmp op_eq r_eq (ve_call G__law_pull (hr.mono (by omega)) (by rfl) m__law_pull k__law_pull b__law_pull (va_cons (ve_var 0) (va_cons ve_int va_nil))) ve_int (nomark _)) (vss_one (vs_ret (ve_tup va_nil))) vss_nil)
    (vss_one (vs_retF (vf_callTy c_tuple call_tuple_of (by rfl) m_tuple (by decide +kernel) (va_cons (VF.ve (vf_lc (own := [("_law_date", 2)]) (.nm 2) (by rfl) sc_law_closed.nd (vi_range1 (by rfl) m_range (va_cons (ve_var 1) va_nil)) (blkOk_by (own := [("_law_date", 2)]) (N := ["_law_draw", "_law_span", "_law_date"]) (sc := defScope s_law_closed) (by decide +kernel)) (fun _ _ _ _ _ => (pg_name (i := 2) sc_law_closed.nd rfl (.inl rfl))) (fun _ _ _ _ _ => (vts_one (vt_cmp op_eq r_eq (ve_call G__law_pull (hr.mono (by omega)) (by rfl) m__law_pull k__law_pull b__law_pull (va_cons (ve_var 0) (va_cons ve_int va_nil))) ve_int (nomark _)))) (fun _ _ _ _ _ => (ve_var 2)))) va_nil)))))) (fun as Q h => ?_)
  · obtain ⟨n, rfl, n0, n1, q⟩ := h
    rfl
  · obtain ⟨n, rfl, n0, n1, q⟩ := h
    refine s_coin (n := 2) (x_ret (ev_tup ea_nil) (q [] trivial)) ?_
    refine x_retFN (x_cb (x_ac (x_lc (ei_R1 ev_v (by omega) (by omega) _ ⟨by rw [rng_len]; omega, lcW_sub (fun d hd R r1 r2 => lcF_if rfl (x_coin (n := 4) fun b => by
      cases b with
      | true => exact r2
      | false => exact r1)) fun es hs => ?_⟩))))
    rw [rng_eq] at hs
    obtain ⟨l, h1, rfl⟩ := sub_map hs
    refine q l (ris_sub h1 ?_)
    have := ris_rng (n := n.toNat) 0 n.toNat (by omega)
    rw [show ((n.toNat : Nat) : Int) = n by omega] at this
    exact this

theorem d__law_closed {f : Addr} {fd : FuncData} (Bq : Bl mg) (R : Raw K mg "_law_closed" s_law_closed ps_law_closed f fd) (D__law_pull : Dfn P w K mg base 1 "_law_pull" ps_law_pull (spD K false Fpull)) : Dfn P w K mg base 2 "_law_closed" ps_law_closed (spD K false Fclosed) := ⟨f, fd, okd__law_closed Bq R D__law_pull, R.2.1, R.1.kp, R.2.2⟩

/-! _law_net: 0:_law_draw 1:_law_span_most 2:_law_jobs_most 3:_law_modes 4:_law_goods_most 5:_law_links_most 6:_law_span 7:_law_closed_here 8:_law_goods 9:_law_jobs 10:_law_rows 11:_law_links 12:_law_k -/
abbrev s_law_net : Stmt := topS 49
theorem sc_law_net : FnScope ["_law_draw", "_law_span_most", "_law_jobs_most", "_law_modes", "_law_goods_most", "_law_links_most", "_law_span", "_law_closed_here", "_law_goods", "_law_jobs", "_law_rows", "_law_links", "_law_k"] ["_law_draw", "_law_span_most", "_law_jobs_most", "_law_modes", "_law_goods_most", "_law_links_most"] (defScope s_law_net) := ⟨rfl, rfl, rfl, by decide +kernel, rfl, by decide +kernel, by decide +kernel⟩
abbrev N_law_net : List Str := ["_law_draw", "_law_span_most", "_law_jobs_most", "_law_modes", "_law_goods_most", "_law_links_most", "_law_span", "_law_closed_here", "_law_goods", "_law_jobs", "_law_rows", "_law_links", "_law_k"]
abbrev ps_law_net : List Str := ["_law_draw", "_law_span_most", "_law_jobs_most", "_law_modes", "_law_goods_most", "_law_links_most"]
theorem okd__law_net {f : Addr} {fd : FuncData} (Bq : Bl mg) (R : Raw K mg "_law_net" s_law_net ps_law_net f fd) (D__law_pull : Dfn P w K mg base 1 "_law_pull" ps_law_pull (spD K false Fpull)) (D__law_closed : Dfn P w K mg base 2 "_law_closed" ps_law_closed (spD K false Fclosed)) (D__law_good_row : Dfn P w K mg base 2 "_law_good_row" ps_law_good_row (spD K false FgoodRow)) (D__law_job : Dfn P w K mg base 3 "_law_job" ps_law_job (spD K false Fjob)) (D__law_link : Dfn P w K mg base 2 "_law_link" ps_law_link (spD K false Flink)) : FnOk P w K mg base CX0 4 f fd ps_law_net (spD K false Fnet) := by
  obtain ⟨m_len, m_list, m_tuple, m_range, m_enumerate, m_isinstance, m_int, m_bool, m_str, m_all, m_min, m_max, m_sum⟩ := Bq
  obtain ⟨f__law_pull, fd__law_pull, G__law_pull, m__law_pull, k__law_pull, b__law_pull⟩ := D__law_pull
  obtain ⟨f__law_closed, fd__law_closed, G__law_closed, m__law_closed, k__law_closed, b__law_closed⟩ := D__law_closed
  obtain ⟨f__law_good_row, fd__law_good_row, G__law_good_row, m__law_good_row, k__law_good_row, b__law_good_row⟩ := D__law_good_row
  obtain ⟨f__law_job, fd__law_job, G__law_job, m__law_job, k__law_job, b__law_job⟩ := D__law_job
  obtain ⟨f__law_link, fd__law_link, G__law_link, m__law_link, k__law_link, b__law_link⟩ := D__law_link
  refine fnD R.1 sc_law_net (fun as Q h => ?_) (fun cdv Ar outer s H E hr => (vss_cons (vs_set (i := 6) sc_law_net.nd rfl (.inr rfl) (ve_op op_add r_add ve_int (ve_call G__law_pull (hr.mono (by omega)) (by rfl) m__law_pull k__law_pull b__law_pull (va_cons (ve_var 0) (va_cons (ve_var 1) va_nil)))))
    (vss_cons (vs_set (i := 7) sc_law_net.nd rfl (.inl rfl) (ve_call G__law_closed (hr.mono (by omega)) (by rfl) m__law_closed k__law_closed b__law_closed (va_cons (ve_var 0) (va_cons (ve_var 6) va_nil))))
    (vss_cons (vs_set (i := 8) sc_law_net.nd rfl (.inr rfl) (VF.ve (vf_callTy c_tuple call_tuple_of (by rfl) m_tuple (by decide +kernel) (va_cons (VF.ve (vf_lc (own := [("_law_k", 12)]) (.nm 12) (by rfl) sc_law_net.nd (vi_range1 (by rfl) m_range (va_cons (ve_call G__law_pull (hr.mono (by omega)) (by rfl) m__law_pull k__law_pull b__law_pull (va_cons (ve_var 0) (va_cons (ve_op op_add r_add (ve_var 4) ve_int) va_nil))) va_nil)) (blkOk_by (own := [("_law_k", 12)]) (N := ["_law_draw", "_law_span_most", "_law_jobs_most", "_law_modes", "_law_goods_most", "_law_links_most", "_law_span", "_law_closed_here", "_law_goods", "_law_jobs", "_law_rows", "_law_links", "_law_k"]) (sc := defScope s_law_net) (by decide +kernel)) (fun _ _ _ _ _ => (pg_name (i := 12) sc_law_net.nd rfl (.inl rfl))) (fun _ _ _ _ _ => vts_nil) (fun _ _ _ _ _ => (ve_call G__law_good_row (hr.mono (by omega)) (by rfl) m__law_good_row k__law_good_row b__law_good_row (va_cons (ve_var 0) (va_cons (ve_var 6) va_nil)))))) va_nil))))
    (vss_cons (vs_set (i := 9) sc_law_net.nd rfl (.inr rfl) (ve_call G__law_pull (hr.mono (by omega)) (by rfl) m__law_pull k__law_pull b__law_pull (va_cons (ve_var 0) (va_cons (ve_op op_add r_add (ve_var 2) ve_int) va_nil))))
    (vss_cons (vs_set (i := 10) sc_law_net.nd rfl (.inl rfl) (VF.ve (vf_callTy c_tuple call_tuple_of (by rfl) m_tuple (by decide +kernel) (va_cons (VF.ve (vf_lc (own := [("_law_k", 12)]) (.nm 12) (by rfl) sc_law_net.nd (vi_range1 (by rfl) m_range (va_cons (ve_var 9) va_nil)) (blkOk_by (own := [("_law_k", 12)]) (N := ["_law_draw", "_law_span_most", "_law_jobs_most", "_law_modes", "_law_goods_most", "_law_links_most", "_law_span", "_law_closed_here", "_law_goods", "_law_jobs", "_law_rows", "_law_links", "_law_k"]) (sc := defScope s_law_net) (by decide +kernel)) (fun _ _ _ _ _ => (pg_name (i := 12) sc_law_net.nd rfl (.inl rfl))) (fun _ _ _ _ _ => vts_nil) (fun _ _ _ _ _ => (ve_call G__law_job (hr.mono (by omega)) (by rfl) m__law_job k__law_job b__law_job (va_cons (ve_var 0) (va_cons (ve_var 6) (va_cons (VF.ve (vf_callB c_len call_len_seq (by rfl) m_len PySem.boot_len (va_cons (ve_var 8) va_nil))) (va_cons (ve_var 3) va_nil)))))))) va_nil))))
    (vss_cons (vs_set (i := 11) sc_law_net.nd rfl (.inl rfl) (ve_tup va_nil))
    (vss_cons (vs_if (vt_cmp op_gt r_gt (ve_var 9) ve_int (nomark _)) (vss_one (vs_set (i := 11) sc_law_net.nd rfl (.inl rfl) (VF.ve (vf_callTy c_tuple call_tuple_of (by rfl) m_tuple (by decide +kernel) (va_cons (VF.ve (vf_lc (own := [("_law_k", 12)]) (.nm 12) (by rfl) sc_law_net.nd (vi_range1 (by rfl) m_range (va_cons (ve_call G__law_pull (hr.mono (by omega)) (by rfl) m__law_pull k__law_pull b__law_pull (va_cons (ve_var 0) (va_cons (ve_op op_add r_add (ve_var 5) ve_int) va_nil))) va_nil)) (blkOk_by (own := [("_law_k", 12)]) (N := ["_law_draw", "_law_span_most", "_law_jobs_most", "_law_modes", "_law_goods_most", "_law_links_most", "_law_span", "_law_closed_here", "_law_goods", "_law_jobs", "_law_rows", "_law_links", "_law_k"]) (sc := defScope s_law_net) (by decide +kernel)) (fun _ _ _ _ _ => (pg_name (i := 12) sc_law_net.nd rfl (.inl rfl))) (fun _ _ _ _ _ => vts_nil) (fun _ _ _ _ _ => (ve_call G__law_link (hr.mono (by omega)) (by rfl) m__law_link k__law_link b__law_link (va_cons (ve_var 0) (va_cons (ve_var 9) va_nil)))))) va_nil))))) vss_nil)
    (vss_one (vs_ret (ve_tup (va_cons (ve_var 6) (va_cons (ve_var 7) (va_cons (ve_var 8) (va_cons (ve_var 10) (va_cons (ve_var 11) va_nil)))))))))))))))) (fun as Q h => ?_)
  · obtain ⟨d, j, m, g, t, rfl, d1, d20, j0, j6, m1, m3, g0, g3, t0, t12, q⟩ := h
    rfl
  · obtain ⟨d, j, m, g, t, rfl, d1, d20, j0, j6, m1, m3, g0, g3, t0, t12, q⟩ := h
    refine s_setN (x_addP (n := d) ev_k (fun sp s0 s1 => ?_) (by omega) (by omega) ev_v)
    have hs : 1 ≤ 1 + sp ∧ 1 + sp ≤ d := by omega
    generalize 1 + sp = n at hs
    refine s_setN (x_call (ea_cons ev_v (ea_cons ev_v ea_nil)) ⟨n, rfl, by omega, by omega, fun sh hsh => ?_⟩)
    refine s_setN (x_cb (x_ac (x_lc (x_r1 (x_ac (x_pull (n := g + 1) (w := wOp gAdd (wVar 4) (wC (.int 1))) (fun k k0 k1 => ⟨⟨by omega, by omega⟩, by rw [rng_len]; omega, lcW_all (P := fun e => ∃ r : List Int, e = eI r ∧ ((r.length : Int) = n ∧ Few r)) (fun dd hd R hR => lcF_yes rfl (x_call (ea_cons ev_v (ea_cons ev_v ea_nil)) ⟨n, rfl, by omega, by omega, fun r h1 h2 => hR _ ⟨r, rfl, h1, h2⟩⟩)) fun es hl hP => x_an (x_tupleL ?_)⟩) (by omega) (by omega) (ev_I ev_v ev_k)))))))
    obtain ⟨st, rfl, hst⟩ := list_of' hP
    have hstl : (st.length : Int) ≤ g := by
      rw [List.length_map, rng_len] at hl
      omega
    clear hl hP
    refine s_setN (x_pull (n := j + 1) (w := wOp gAdd (wVar 2) (wC (.int 1))) (fun nj nj0 nj1 => ?_) (by omega) (by omega) (ev_I ev_v ev_k))
    refine s_setN (x_cb (x_ac (x_lca (P := fun e => ∃ v : Wrk, e = v.e ∧ (v.ok n st.length ∧ (v.ways.length : Int) ≤ m)) (ei_R1 ev_v (by omega) (by omega)) (by rw [rng_len]; omega) (fun dd hd => ⟨_, rfl, fun R hR => x_call (ea_cons ev_v (ea_cons ev_v (ea_cons (ev_len ev_v rfl) (ea_cons ev_v ea_nil)))) ⟨n, st.length, m, by rw [List.length_map], by omega, by omega, by omega, by omega, by omega, fun v h1 h2 => hR _ ⟨v, rfl, h1, h2⟩⟩⟩) fun es hl hP => x_an (x_tupleL ?_))))
    obtain ⟨ws, rfl, hws⟩ := list_of' hP
    have hwl : (ws.length : Int) = nj := by
      rw [List.length_map, rng_len] at hl
      omega
    clear hl hP
    have fin : ∀ ts : List Tie, (ts.length : Int) ≤ t → (∀ x ∈ ts, x.ok ws.length) → Q (Yard.e ⟨n, sh, st, ws, ts⟩) := fun ts h1 h2 =>
      q ⟨n, sh, st, ws, ts⟩ ⟨hs.1, by show n ≤ 20; omega, hsh, by show st.length ≤ 3; omega, hst, by show ws.length ≤ 6; omega, fun w hw => (hws w hw).1, by show ts.length ≤ 12; omega, h2⟩ hs.2 (by show (ws.length : Int) ≤ j; omega) (fun w hw => (hws w hw).2) hstl h1
    refine s_set (ev_tup ea_nil) ?_
    refine s_if (et_B (ev_I ev_v ev_k)) (fun hk => ?_) fun _ => ?_
    · have hk : (1 : Int) < nj := of_decide_eq_true hk
      refine x_setN (x_cb (x_ac (x_lc (x_r1 (x_ac (x_pull (n := t + 1) (w := wOp gAdd (wVar 5) (wC (.int 1))) (fun k k0 k1 => ⟨⟨by omega, by omega⟩, by rw [rng_len]; omega, lcW_all (P := fun e => ∃ r : Tie, e = r.e ∧ r.ok ws.length) (fun dd hd R hR => lcF_yes rfl (x_call (ea_cons ev_v (ea_cons ev_v ea_nil)) ⟨ws.length, by rw [hwl], by omega, by omega, fun r h1 => hR _ ⟨r, rfl, h1⟩⟩)) fun es hl hP => x_an (x_tupleL ?_)⟩) (by omega) (by omega) (ev_I ev_v ev_k)))))))
      obtain ⟨ts, rfl, hts⟩ := list_of' hP
      rw [List.length_map, rng_len] at hl
      dsimp only
      exact x_ret (ev_tup (ea_cons ev_v (ea_cons ev_v (ea_cons ev_v (ea_cons ev_v (ea_cons ev_v ea_nil)))))) (fin ts (by omega) hts)
    · exact x_ret (ev_tup (ea_cons ev_v (ea_cons ev_v (ea_cons ev_v (ea_cons ev_v (ea_cons ev_v ea_nil)))))) (fin [] (by show (0 : Int) ≤ t; omega) (fun _ h => nomatch h))

theorem d__law_net {f : Addr} {fd : FuncData} (Bq : Bl mg) (R : Raw K mg "_law_net" s_law_net ps_law_net f fd) (D__law_pull : Dfn P w K mg base 1 "_law_pull" ps_law_pull (spD K false Fpull)) (D__law_closed : Dfn P w K mg base 2 "_law_closed" ps_law_closed (spD K false Fclosed)) (D__law_good_row : Dfn P w K mg base 2 "_law_good_row" ps_law_good_row (spD K false FgoodRow)) (D__law_job : Dfn P w K mg base 3 "_law_job" ps_law_job (spD K false Fjob)) (D__law_link : Dfn P w K mg base 2 "_law_link" ps_law_link (spD K false Flink)) : Dfn P w K mg base 4 "_law_net" ps_law_net (spD K false Fnet) := ⟨f, fd, okd__law_net Bq R D__law_pull D__law_closed D__law_good_row D__law_job D__law_link, R.2.1, R.1.kp, R.2.2⟩

end
end HLaw

set_option Elab.async false
set_option linter.all false
set_option maxRecDepth 100000
set_option maxHeartbeats 1000000
namespace HLaw
open PySem PySem.Spec PyProof.Rows L2 Hod Hv
section
variable {P : Program} {w : World} {K : PySem.W.Frag} {mg : Str → Option Value} {base : Heap}

/-! _law_far: 0:_law_draw 1:_law_big -/
abbrev s_law_far : Stmt := topS 43
theorem sc_law_far : FnScope ["_law_draw", "_law_big"] ["_law_draw"] (defScope s_law_far) := ⟨rfl, rfl, rfl, by decide +kernel, rfl, by decide +kernel, by decide +kernel⟩
abbrev N_law_far : List Str := ["_law_draw", "_law_big"]
abbrev ps_law_far : List Str := ["_law_draw"]
theorem okd__law_far {f : Addr} {fd : FuncData} (Bq : Bl mg) (R : Raw K mg "_law_far" s_law_far ps_law_far f fd) (D__law_pull : Dfn P w K mg base 1 "_law_pull" ps_law_pull (spD K false Fpull)) : FnOk P w K mg base CX0 2 f fd ps_law_far (spD K false Ffar) := by
  obtain ⟨m_len, m_list, m_tuple, m_range, m_enumerate, m_isinstance, m_int, m_bool, m_str, m_all, m_min, m_max, m_sum⟩ := Bq
  obtain ⟨f__law_pull, fd__law_pull, G__law_pull, m__law_pull, k__law_pull, b__law_pull⟩ := D__law_pull
  refine fnD R.1 sc_law_far (fun as Q h => ?_) (fun cdv Ar outer s H E hr => (vss_cons (vs_set (i := 1) sc_law_far.nd rfl (.inl rfl) (ve_op op_add r_add ve_int (ve_call G__law_pull (hr.mono (by omega)) (by rfl) m__law_pull k__law_pull b__law_pull (va_cons (ve_var 0) (va_cons (ve_op op_pow r_pow ve_int ve_int) va_nil)))))
    (vss_one (vs_ret (ve_ix ix_seq r_ix (VF.ve (vf_lst (va_cons (ve_neg ve_int) (va_cons ve_int (va_cons ve_int (va_cons ve_int (va_cons ve_int (va_cons (ve_neg (ve_var 1)) (va_cons (ve_op op_mul r_mul (ve_var 1) (ve_op op_pow r_pow ve_int ve_int)) (va_cons (ve_op op_sub r_sub ve_int (ve_op op_mul r_mul (ve_var 1) (ve_op op_pow r_pow ve_int ve_int))) va_nil)))))))))) (ve_call G__law_pull (hr.mono (by omega)) (by rfl) m__law_pull k__law_pull b__law_pull (va_cons (ve_var 0) (va_cons ve_int va_nil))) (fun _ _ => rfl)))))) (fun as Q h => ?_)
  · obtain ⟨rfl, q⟩ := h
    rfl
  · obtain ⟨rfl, q⟩ := h
    refine s_setN (x_addP (n := 1000000000) (w := wOp gPow (wC (.int 10)) (wC (.int 9))) ev_k (fun b b0 b1 => ?_) (by decide) (by decide) (Evs.eq (ev_C ev_k ev_k ⟨by decide, by decide, by decide⟩) (congrArg (fun z => A.dat (PyData.int z)) (by decide))))
    have big : CMul (1 + b) (10 ^ (20 : Int).toNat) := .inl ⟨by omega, by omega⟩
    refine x_retN (x_op (ev_lst (ea_cons (ev_neg ev_k) (ea_cons ev_k (ea_cons ev_k (ea_cons ev_k (ea_cons ev_k (ea_cons (ev_neg ev_v) (ea_cons (ev_C ev_v (ev_C ev_k ev_k ⟨by decide, by decide, by decide⟩) big) (ea_cons (ev_I ev_k (ev_C ev_v (ev_C ev_k ev_k ⟨by decide, by decide, by decide⟩) big)) ea_nil))))))))) (x_pull (n := 8) fun k k0 k1 => ?_))
    rcases (show k = 0 ∨ k = 1 ∨ k = 2 ∨ k = 3 ∨ k = 4 ∨ k = 5 ∨ k = 6 ∨ k = 7 by omega) with rfl | rfl | rfl | rfl | rfl | rfl | rfl | rfl <;> exact q _

theorem d__law_far {f : Addr} {fd : FuncData} (Bq : Bl mg) (R : Raw K mg "_law_far" s_law_far ps_law_far f fd) (D__law_pull : Dfn P w K mg base 1 "_law_pull" ps_law_pull (spD K false Fpull)) : Dfn P w K mg base 2 "_law_far" ps_law_far (spD K false Ffar) := ⟨f, fd, okd__law_far Bq R D__law_pull, R.2.1, R.1.kp, R.2.2⟩

end
section
variable {P : Program} {w : World} {K : PySem.W.Frag} {mg : Str → Option Value} {base : Heap}
/-! _law_saying: 0:_law_draw 1:_law_net_here 2:_law_word 3:_law_job_here -/
abbrev s_law_saying : Stmt := topS 50
theorem sc_law_saying : FnScope ["_law_draw", "_law_net_here", "_law_word", "_law_job_here"] ["_law_draw", "_law_net_here"] (defScope s_law_saying) := ⟨rfl, rfl, rfl, by decide +kernel, rfl, by decide +kernel, by decide +kernel⟩
abbrev N_law_saying : List Str := ["_law_draw", "_law_net_here", "_law_word", "_law_job_here"]
abbrev ps_law_saying : List Str := ["_law_draw", "_law_net_here"]
theorem d__law_saying {f : Addr} {fd : FuncData} (Bq : Bl mg) (R : Raw K mg "_law_saying" s_law_saying ps_law_saying f fd) (D__law_pull : Dfn P w K mg base 1 "_law_pull" ps_law_pull (spD K false Fpull)) : Dfn P w K mg base 2 "_law_saying" ps_law_saying (spD K false Fsaying) := by
  obtain ⟨m_len, m_list, m_tuple, m_range, m_enumerate, m_isinstance, m_int, m_bool, m_str, m_all, m_min, m_max, m_sum⟩ := Bq
  obtain ⟨f__law_pull, fd__law_pull, G__law_pull, m__law_pull, k__law_pull, b__law_pull⟩ := D__law_pull
  refine ⟨f, fd, fnD R.1 sc_law_saying (fun as Q h => ?_) (fun cdv Ar outer s H E hr => (vss_cons (vs_set (i := 2) sc_law_saying.nd rfl (.inl rfl) (ve_ix ix_seq r_ix (VF.ve (vf_lst (va_cons ve_str (va_cons ve_str (va_cons ve_str (va_cons ve_str (va_cons ve_str (va_cons ve_str va_nil)))))))) (ve_call G__law_pull (hr.mono (by omega)) (by rfl) m__law_pull k__law_pull b__law_pull (va_cons (ve_var 0) (va_cons ve_int va_nil))) (fun _ _ => rfl)))
    (vss_cons (vs_set (i := 3) sc_law_saying.nd rfl (.inl rfl) (ve_call G__law_pull (hr.mono (by omega)) (by rfl) m__law_pull k__law_pull b__law_pull (va_cons (ve_var 0) (va_cons (VF.ve (vf_callB c_len call_len_seq (by rfl) m_len PySem.boot_len (va_cons (ve_ix ix_seq r_ix (ve_var 1) ve_int (fun _ _ => rfl)) va_nil))) va_nil))))
    (vss_cons (vs_if (vt_cmp op_in_seq r_in (ve_var 2) (ve_tup (va_cons ve_str (va_cons ve_str va_nil))) (by rfl)) (vss_one (vs_ret (ve_tup (va_cons (ve_var 2) (va_cons (ve_var 3) (va_cons (ve_call G__law_pull (hr.mono (by omega)) (by rfl) m__law_pull k__law_pull b__law_pull (va_cons (ve_var 0) (va_cons (ve_op op_add r_add (ve_ix ix_seq r_ix (ve_var 1) ve_int (fun _ _ => rfl)) ve_int) va_nil))) va_nil)))))) vss_nil)
    (vss_cons (vs_if (vt_cmp op_in_seq r_in (ve_var 2) (ve_tup (va_cons ve_str (va_cons ve_str va_nil))) (by rfl)) (vss_one (vs_ret (ve_tup (va_cons (ve_var 2) (va_cons (ve_var 3) (va_cons (ve_call G__law_pull (hr.mono (by omega)) (by rfl) m__law_pull k__law_pull b__law_pull (va_cons (ve_var 0) (va_cons (VF.ve (vf_callB c_len call_len_seq (by rfl) m_len PySem.boot_len (va_cons (ve_ix ix_seq r_ix (ve_ix ix_seq r_ix (ve_ix ix_seq r_ix (ve_var 1) ve_int (fun _ _ => rfl)) (ve_var 3) (fun _ _ => rfl)) ve_int (fun _ _ => rfl)) va_nil))) va_nil))) va_nil)))))) vss_nil)
    (vss_one (vs_ret (ve_tup (va_cons (ve_var 2) (va_cons (ve_var 3) (va_cons ve_int va_nil))))))))))) (fun as Q h => ?_), R.2.1, R.1.kp, R.2.2⟩
  · obtain ⟨y, rfl, ho, h0, q⟩ := h
    rfl
  · obtain ⟨y, rfl, ho, h0, q⟩ := h
    have d1 := ho.d1; have d20 := ho.d20; have w6 := ho.w6
    refine s_setN (x_op (ev_lst (ea_cons ev_k (ea_cons ev_k (ea_cons ev_k (ea_cons ev_k (ea_cons ev_k (ea_cons ev_k ea_nil))))))) (x_pull (n := 6) (fun r r0 r1 => ?_)))
    obtain ⟨wd, hwd⟩ : ∃ wd : Wd, atI ([.str "from", .str "ahead", .str "way", .str "not", .str "stays", .str "moves"] : List PyData) r = some (.str wd.s) := by
      rcases (show r = 0 ∨ r = 1 ∨ r = 2 ∨ r = 3 ∨ r = 4 ∨ r = 5 by omega) with rfl | rfl | rfl | rfl | rfl | rfl
      · exact ⟨.frm, at_nat (i := 0) rfl⟩
      · exact ⟨.ahd, at_nat (i := 1) rfl⟩
      · exact ⟨.way, at_nat (i := 2) rfl⟩
      · exact ⟨.nt, at_nat (i := 3) rfl⟩
      · exact ⟨.sty, at_nat (i := 4) rfl⟩
      · exact ⟨.mov, at_nat (i := 5) rfl⟩
    refine x_ixL hwd ?_
    refine s_setN (x_pull (n := (y.works.length : Nat)) (fun k k0 k1 => ?_) (by omega) (by omega) (Evs.eq (ev_len (ev_ixT ev_v ev_k rfl) rfl) (by rw [List.length_map])))
    obtain ⟨k, rfl⟩ : ∃ k' : Nat, k = k' := ⟨k.toNat, by omega⟩
    obtain ⟨v, hv⟩ : ∃ v, y.works[k]? = some v := ⟨_, List.getElem?_eq_getElem (by omega)⟩
    have vok := ho.ws v (List.mem_of_getElem? hv)
    have v1 := vok.w1; have v3 := vok.w3
    have FA : ∀ wd : Wd, (wd = .frm ∨ wd = .ahd) → ∀ n : Int, 0 ≤ n → n < y.days + 1 → Say.ok y ⟨wd, k, n⟩ := fun wd h n h1 h2 => ⟨v, hv, by rcases h with rfl | rfl <;> exact ⟨h1, by show n ≤ y.days; omega⟩⟩
    have WN : ∀ wd : Wd, (wd = .way ∨ wd = .nt) → ∀ n : Int, 0 ≤ n → n < v.ways.length → Say.ok y ⟨wd, k, n⟩ := fun wd h n h1 h2 => ⟨v, hv, by rcases h with rfl | rfl <;> exact ⟨h1, h2⟩⟩
    cases wd with
    | frm => exact s_if (k := true) (EvTs.eq (et_B (ev_in (neg := false) (ds := [.str "from", .str "ahead"]) ev_v (ev_tup (ea_cons ev_k (ea_cons ev_k ea_nil))) rfl rfl rfl)) (show _ = true by decide +kernel)) (fun _ => x_retN (x_tup (x_ac (x_ev (a := .dat (.str (Wd.s .frm))) ev_v (x_ac (x_ev (a := .dat (.int k)) ev_v (x_ac (x_pull (n := y.days + 1) (fun n n0 n1 => ⟨Nat.le_of_ble_eq_true rfl, q ⟨_, k, n⟩ (FA _ (by first | exact .inl rfl | exact .inr rfl) n n0 n1)⟩) (by omega) (by omega) (ev_I (ev_ixT ev_v ev_k rfl) ev_k))))))))) fun z => nomatch z
    | ahd => exact s_if (k := true) (EvTs.eq (et_B (ev_in (neg := false) (ds := [.str "from", .str "ahead"]) ev_v (ev_tup (ea_cons ev_k (ea_cons ev_k ea_nil))) rfl rfl rfl)) (show _ = true by decide +kernel)) (fun _ => x_retN (x_tup (x_ac (x_ev (a := .dat (.str (Wd.s .ahd))) ev_v (x_ac (x_ev (a := .dat (.int k)) ev_v (x_ac (x_pull (n := y.days + 1) (fun n n0 n1 => ⟨Nat.le_of_ble_eq_true rfl, q ⟨_, k, n⟩ (FA _ (by first | exact .inl rfl | exact .inr rfl) n n0 n1)⟩) (by omega) (by omega) (ev_I (ev_ixT ev_v ev_k rfl) ev_k))))))))) fun z => nomatch z
    | way => exact s_if0 (EvTs.eq (et_B (ev_in (neg := false) (ds := [.str "from", .str "ahead"]) ev_v (ev_tup (ea_cons ev_k (ea_cons ev_k ea_nil))) rfl rfl rfl)) (show _ = false by decide +kernel)) (s_if (k := true) (EvTs.eq (et_B (ev_in (neg := false) (ds := [.str "way", .str "not"]) ev_v (ev_tup (ea_cons ev_k (ea_cons ev_k ea_nil))) rfl rfl rfl)) (show _ = true by decide +kernel)) (fun _ => x_retN (x_tup (x_ac (x_ev (a := .dat (.str (Wd.s .way))) ev_v (x_ac (x_ev (a := .dat (.int k)) ev_v (x_ac (x_pull (n := (v.ways.length : Nat)) (fun n n0 n1 => ⟨Nat.le_of_ble_eq_true rfl, q ⟨_, k, n⟩ (WN _ (by first | exact .inl rfl | exact .inr rfl) n n0 n1)⟩) (by omega) (by omega) (Evs.eq (ev_len (ev_ixT (ev_wrk ev_v ev_v hv) ev_k rfl) rfl) (by rw [List.length_map])))))))))) fun z => nomatch z)
    | nt => exact s_if0 (EvTs.eq (et_B (ev_in (neg := false) (ds := [.str "from", .str "ahead"]) ev_v (ev_tup (ea_cons ev_k (ea_cons ev_k ea_nil))) rfl rfl rfl)) (show _ = false by decide +kernel)) (s_if (k := true) (EvTs.eq (et_B (ev_in (neg := false) (ds := [.str "way", .str "not"]) ev_v (ev_tup (ea_cons ev_k (ea_cons ev_k ea_nil))) rfl rfl rfl)) (show _ = true by decide +kernel)) (fun _ => x_retN (x_tup (x_ac (x_ev (a := .dat (.str (Wd.s .nt))) ev_v (x_ac (x_ev (a := .dat (.int k)) ev_v (x_ac (x_pull (n := (v.ways.length : Nat)) (fun n n0 n1 => ⟨Nat.le_of_ble_eq_true rfl, q ⟨_, k, n⟩ (WN _ (by first | exact .inl rfl | exact .inr rfl) n n0 n1)⟩) (by omega) (by omega) (Evs.eq (ev_len (ev_ixT (ev_wrk ev_v ev_v hv) ev_k rfl) rfl) (by rw [List.length_map])))))))))) fun z => nomatch z)
    | sty => exact s_if0 (EvTs.eq (et_B (ev_in (neg := false) (ds := [.str "from", .str "ahead"]) ev_v (ev_tup (ea_cons ev_k (ea_cons ev_k ea_nil))) rfl rfl rfl)) (show _ = false by decide +kernel)) (s_if0 (EvTs.eq (et_B (ev_in (neg := false) (ds := [.str "way", .str "not"]) ev_v (ev_tup (ea_cons ev_k (ea_cons ev_k ea_nil))) rfl rfl rfl)) (show _ = false by decide +kernel)) (x_ret (ev_tup (as := [.dat (.str Wd.sty.s), .dat (.int k), .dat (.int 0)]) (ea_cons ev_v (ea_cons ev_v (ea_cons ev_k ea_nil)))) (q ⟨.sty, k, 0⟩ ⟨v, hv, rfl⟩)))
    | mov => exact s_if0 (EvTs.eq (et_B (ev_in (neg := false) (ds := [.str "from", .str "ahead"]) ev_v (ev_tup (ea_cons ev_k (ea_cons ev_k ea_nil))) rfl rfl rfl)) (show _ = false by decide +kernel)) (s_if0 (EvTs.eq (et_B (ev_in (neg := false) (ds := [.str "way", .str "not"]) ev_v (ev_tup (ea_cons ev_k (ea_cons ev_k ea_nil))) rfl rfl rfl)) (show _ = false by decide +kernel)) (x_ret (ev_tup (as := [.dat (.str Wd.mov.s), .dat (.int k), .dat (.int 0)]) (ea_cons ev_v (ea_cons ev_v (ea_cons ev_k ea_nil)))) (q ⟨.mov, k, 0⟩ ⟨v, hv, rfl⟩)))
end
section
variable {P : Program} {w : World} {K : PySem.W.Frag} {mg : Str → Option Value} {base : Heap}
/-! _law_bent_saying: 0:_law_draw 1:_law_net_here 2:_law_saying_here 3:_law_word 4:_law_job_here 5:_law_thing 6:_law_some -/
abbrev s_law_bent_saying : Stmt := topS 51
theorem sc_law_bent_saying : FnScope ["_law_draw", "_law_net_here", "_law_saying_here", "_law_word", "_law_job_here", "_law_thing", "_law_some"] ["_law_draw", "_law_net_here", "_law_saying_here"] (defScope s_law_bent_saying) := ⟨rfl, rfl, rfl, by decide +kernel, rfl, by decide +kernel, by decide +kernel⟩
abbrev N_law_bent_saying : List Str := ["_law_draw", "_law_net_here", "_law_saying_here", "_law_word", "_law_job_here", "_law_thing", "_law_some"]
abbrev ps_law_bent_saying : List Str := ["_law_draw", "_law_net_here", "_law_saying_here"]
theorem d__law_bent_saying {f : Addr} {fd : FuncData} (Bq : Bl mg) (R : Raw K mg "_law_bent_saying" s_law_bent_saying ps_law_bent_saying f fd) (D__law_pull : Dfn P w K mg base 1 "_law_pull" ps_law_pull (spD K false Fpull)) (D__law_far : Dfn P w K mg base 2 "_law_far" ps_law_far (spD K false Ffar)) : Dfn P w K mg base 3 "_law_bent_saying" ps_law_bent_saying (spD K false FbentS) := by
  obtain ⟨m_len, m_list, m_tuple, m_range, m_enumerate, m_isinstance, m_int, m_bool, m_str, m_all, m_min, m_max, m_sum⟩ := Bq
  obtain ⟨f__law_pull, fd__law_pull, G__law_pull, m__law_pull, k__law_pull, b__law_pull⟩ := D__law_pull
  obtain ⟨f__law_far, fd__law_far, G__law_far, m__law_far, k__law_far, b__law_far⟩ := D__law_far
  refine ⟨f, fd, fnD R.1 sc_law_bent_saying (fun as Q h => ?_) (fun cdv Ar outer s H E hr => (vss_cons (vs_asg (.tp [(.nm 3), (.nm 4), (.nm 5)]) (ve_var 2) (pg_tup rfl (pgs_cons (pg_name (i := 3) sc_law_bent_saying.nd rfl (.inl rfl)) (pgs_cons (pg_name (i := 4) sc_law_bent_saying.nd rfl (.inl rfl)) (pgs_cons (pg_name (i := 5) sc_law_bent_saying.nd rfl (.inl rfl)) pgs_nil)))))
    (vss_cons (vs_set (i := 6) sc_law_bent_saying.nd rfl (.inl rfl) (VF.ve (vf_lst (va_cons (ve_tup (va_cons ve_str (va_cons (ve_var 4) (va_cons (ve_var 5) va_nil)))) (va_cons (ve_tup (va_cons ve_str (va_cons (ve_var 4) (va_cons (ve_var 5) va_nil)))) (va_cons (ve_tup (va_cons (ve_var 3) (va_cons (VF.ve (vf_callB c_len call_len_seq (by rfl) m_len PySem.boot_len (va_cons (ve_ix ix_seq r_ix (ve_var 1) ve_int (fun _ _ => rfl)) va_nil))) (va_cons (ve_var 5) va_nil)))) (va_cons (ve_tup (va_cons (ve_var 3) (va_cons (ve_neg ve_int) (va_cons (ve_var 5) va_nil)))) (va_cons (ve_tup (va_cons (ve_var 3) (va_cons (ve_var 4) (va_cons (ve_neg ve_int) va_nil)))) va_nil))))))))
    (vss_cons (vs_set (i := 6) sc_law_bent_saying.nd rfl (.inl rfl) (VF.ve (vf_op op_cat r_cat (ve_var 6) (VF.ve (vf_lst (va_cons (ve_tup (va_cons (ve_var 3) (va_cons (ve_var 4) (va_cons (ve_op op_add r_add (ve_ix ix_seq r_ix (ve_var 1) ve_int (fun _ _ => rfl)) ve_int) va_nil)))) (va_cons (ve_tup (va_cons (ve_var 3) (va_cons (ve_call G__law_far (hr.mono (by omega)) (by rfl) m__law_far k__law_far b__law_far (va_cons (ve_var 0) va_nil)) (va_cons (ve_var 5) va_nil)))) (va_cons (ve_tup (va_cons (ve_var 3) (va_cons (ve_var 4) (va_cons (ve_call G__law_far (hr.mono (by omega)) (by rfl) m__law_far k__law_far b__law_far (va_cons (ve_var 0) va_nil)) va_nil)))) (va_cons (ve_var 2) va_nil)))))))))
    (vss_one (vs_ret (ve_ix ix_seq r_ix (ve_var 6) (ve_call G__law_pull (hr.mono (by omega)) (by rfl) m__law_pull k__law_pull b__law_pull (va_cons (ve_var 0) (va_cons ve_int va_nil))) (fun _ _ => rfl)))))))) (fun as Q h => ?_), R.2.1, R.1.kp, R.2.2⟩
  · obtain ⟨y, s, rfl, _⟩ := h
    rfl
  · obtain ⟨y, ⟨wd, j, n⟩, rfl, ho, hw, q⟩ := h
    have hw' : ∀ a b : Int, (Sy.mk wd a b).w := fun _ _ => hw
    refine s_asg (d := .tuple [.str wd, .int j, .int n]) ev_v rfl ?_
    refine s_set (a := .dat (.list [(Sy.mk "From" j n).e, (Sy.mk "" j n).e, (Sy.mk wd (y.works.length : Nat) n).e, (Sy.mk wd (-1) n).e, (Sy.mk wd j (-1)).e])) (ev_lst (as := [.dat (Sy.mk "From" j n).e, .dat (Sy.mk "" j n).e, .dat (Sy.mk wd (y.works.length : Nat) n).e, .dat (Sy.mk wd (-1) n).e, .dat (Sy.mk wd j (-1)).e]) (ea_cons (ev_tup (as := [.dat (.str "From"), .dat (.int j), .dat (.int n)]) (ea_cons ev_k (ea_cons ev_v (ea_cons ev_v ea_nil)))) (ea_cons (ev_tup (as := [.dat (.str ""), .dat (.int j), .dat (.int n)]) (ea_cons ev_k (ea_cons ev_v (ea_cons ev_v ea_nil)))) (ea_cons (ev_tup (as := [.dat (.str wd), .dat (.int (y.works.length : Nat)), .dat (.int n)]) (ea_cons ev_v (ea_cons (ev_len (n := y.works.length) (ev_ixT ev_v ev_k rfl) (by show some (y.works.map Wrk.e).length = _; rw [List.length_map])) (ea_cons ev_v ea_nil)))) (ea_cons (ev_tup (as := [.dat (.str wd), .dat (.int (-1)), .dat (.int n)]) (ea_cons ev_v (ea_cons (ev_neg ev_k) (ea_cons ev_v ea_nil)))) (ea_cons (ev_tup (as := [.dat (.str wd), .dat (.int j), .dat (.int (-1))]) (ea_cons ev_v (ea_cons ev_v (ea_cons (ev_neg ev_k) ea_nil)))) ea_nil)))))) ?_
    refine s_setN (x_op (a := .dat (.list [(Sy.mk "From" j n).e, (Sy.mk "" j n).e, (Sy.mk wd (y.works.length : Nat) n).e, (Sy.mk wd (-1) n).e, (Sy.mk wd j (-1)).e])) ev_v (x_lst (x_ac (x_ev (a := .dat (Sy.mk wd j (y.days + 1)).e) (ev_tup (as := [.dat (.str wd), .dat (.int j), .dat (.int (y.days + 1))]) (ea_cons ev_v (ea_cons ev_v (ea_cons (ev_I (f := fun i j => .int (i + j)) (ev_ixT (d := .int y.days) ev_v ev_k rfl) ev_k) ea_nil)))) (x_ac (x_tup (x_ac (x_ev (a := .dat (.str wd)) ev_v (x_ac (x_call (ea_cons ev_v ea_nil) ⟨rfl, fun x => x_ac (x_ev (a := .dat (.int n)) ev_v (x_an ?_))⟩))))))))))
    refine ⟨Nat.le_of_ble_eq_true rfl, x_ac (x_tup (x_ac (x_ev (a := .dat (.str wd)) ev_v (x_ac (x_ev (a := .dat (.int j)) ev_v (x_ac (x_call (ea_cons ev_v ea_nil) ⟨rfl, fun z => x_an ?_⟩)))))))⟩
    refine ⟨Nat.le_of_ble_eq_true rfl, x_ac (x_ev (a := .dat (Sy.mk wd j n).e) ev_v (x_an ⟨Nat.le_of_ble_eq_true rfl, Nat.le_of_ble_eq_true rfl, ?_⟩))⟩
    refine x_retN (x_op (a := .dat (.list ([Sy.mk "From" j n, Sy.mk "" j n, Sy.mk wd (y.works.length : Nat) n, Sy.mk wd (-1) n, Sy.mk wd j (-1), Sy.mk wd j (y.days + 1), Sy.mk wd x n, Sy.mk wd j z, Sy.mk wd j n].map Sy.e))) ev_v (x_pull (n := 9) fun k k0 k1 => ?_))
    obtain ⟨i, rfl⟩ : ∃ i : Nat, k = (i : Int) := ⟨k.toNat, by omega⟩
    have hall : ∀ t ∈ [Sy.mk "From" j n, Sy.mk "" j n, Sy.mk wd (y.works.length : Nat) n, Sy.mk wd (-1) n, Sy.mk wd j (-1), Sy.mk wd j (y.days + 1), Sy.mk wd x n, Sy.mk wd j z, Sy.mk wd j n], t.w := by
      intro t ht
      simp only [List.mem_cons, List.not_mem_nil, or_false] at ht
      rcases ht with rfl | rfl | rfl | rfl | rfl | rfl | rfl | rfl | rfl
      · exact .inr (by show ("From" : Str) ∈ badWords; decide)
      · exact .inr (by show ("" : Str) ∈ badWords; decide)
      all_goals exact hw
    have h9 : ([Sy.mk "From" j n, Sy.mk "" j n, Sy.mk wd (y.works.length : Nat) n, Sy.mk wd (-1) n, Sy.mk wd j (-1), Sy.mk wd j (y.days + 1), Sy.mk wd x n, Sy.mk wd j z, Sy.mk wd j n]).length = 9 := rfl
    generalize [Sy.mk "From" j n, Sy.mk "" j n, Sy.mk wd (y.works.length : Nat) n, Sy.mk wd (-1) n, Sy.mk wd j (-1), Sy.mk wd j (y.days + 1), Sy.mk wd x n, Sy.mk wd j z, Sy.mk wd j n] = l at hall h9 ⊢
    obtain ⟨t, ht⟩ : ∃ t, l[i]? = some t := ⟨_, List.getElem?_eq_getElem (by omega)⟩
    exact x_ixL (d := t.e) (at_map (f := Sy.e) ht) (q t (hall t (List.mem_of_getElem? ht)))
/-! _law_saying_good: 0:_law_net_here 1:_law_saying_here 2:_law_word 3:_law_job_here 4:_law_thing 5:_law_most_of -/
abbrev s_law_saying_good : Stmt := topS 52
theorem sc_law_saying_good : FnScope ["_law_net_here", "_law_saying_here", "_law_word", "_law_job_here", "_law_thing", "_law_most_of"] ["_law_net_here", "_law_saying_here"] (defScope s_law_saying_good) := ⟨rfl, rfl, rfl, by decide +kernel, rfl, by decide +kernel, by decide +kernel⟩
abbrev N_law_saying_good : List Str := ["_law_net_here", "_law_saying_here", "_law_word", "_law_job_here", "_law_thing", "_law_most_of"]
abbrev ps_law_saying_good : List Str := ["_law_net_here", "_law_saying_here"]
theorem d__law_saying_good {f : Addr} {fd : FuncData} (Bq : Bl mg) (R : Raw K mg "_law_saying_good" s_law_saying_good ps_law_saying_good f fd) : Dfn P w K mg base 1 "_law_saying_good" ps_law_saying_good (spD K false FsayGood) := by
  obtain ⟨m_len, m_list, m_tuple, m_range, m_enumerate, m_isinstance, m_int, m_bool, m_str, m_all, m_min, m_max, m_sum⟩ := Bq
  refine ⟨f, fd, fnD R.1 sc_law_saying_good (fun as Q h => ?_) (fun cdv Ar outer s H E hr => (vss_cons (vs_asg (.tp [(.nm 2), (.nm 3), (.nm 4)]) (ve_var 1) (pg_tup rfl (pgs_cons (pg_name (i := 2) sc_law_saying_good.nd rfl (.inl rfl)) (pgs_cons (pg_name (i := 3) sc_law_saying_good.nd rfl (.inl rfl)) (pgs_cons (pg_name (i := 4) sc_law_saying_good.nd rfl (.inl rfl)) pgs_nil)))))
    (vss_cons (vs_if (vt_not (vt_chain op_le r_le op_lt r_lt ve_int (ve_var 3) (VF.ve (vf_callB c_len call_len_seq (by rfl) m_len PySem.boot_len (va_cons (ve_ix ix_seq r_ix (ve_var 0) ve_int (fun _ _ => rfl)) va_nil))))) (vss_one (vs_ret ve_bl)) vss_nil)
    (vss_cons (vs_dict (i := 5) sc_law_saying_good.nd rfl (.inl rfl) (vps_cons ve_str (ve_op op_add r_add (ve_ix ix_seq r_ix (ve_var 0) ve_int (fun _ _ => rfl)) ve_int) (vps_cons ve_str (ve_op op_add r_add (ve_ix ix_seq r_ix (ve_var 0) ve_int (fun _ _ => rfl)) ve_int) (vps_cons ve_str ve_int (vps_cons ve_str ve_int vps_nil)))) rfl rfl (by simp) (by decide))
    (vss_cons (vs_if (vt_cmp op_in_seq r_in (ve_var 2) (ve_tup (va_cons ve_str (va_cons ve_str va_nil))) (by rfl)) (vss_one (vs_ret (ve_chain op_le r_le op_lt r_lt ve_int (ve_var 4) (VF.ve (vf_callB c_len call_len_seq (by rfl) m_len PySem.boot_len (va_cons (ve_ix ix_seq r_ix (ve_ix ix_seq r_ix (ve_ix ix_seq r_ix (ve_var 0) ve_int (fun _ _ => rfl)) (ve_var 3) (fun _ _ => rfl)) ve_int (fun _ _ => rfl)) va_nil)))))) vss_nil)
    (vss_one (vs_ret (ve_chain op_le r_le op_lt r_lt ve_int (ve_var 4) (ve_dget2 (u1 hr) (ve_var 5) (ve_var 2) ve_int ⟨rfl, rfl, rfl, rfl⟩))))))))) (fun as Q h => ?_), R.2.1, R.1.kp, R.2.2⟩
  · obtain ⟨y, s, rfl, _⟩ := h
    rfl
  · obtain ⟨y, ⟨wd, k, n⟩, rfl, ho, hw, q⟩ := h
    have lw : ((y.works.map Wrk.e).length : Int) = (y.works.length : Nat) := by rw [List.length_map]
    refine s_asg (d := .tuple [.str wd, .int k, .int n]) ev_v rfl ?_
    refine s_if (k := !(decide (0 ≤ k) && decide (k < (y.works.length : Nat)))) (EvTs.eq (et_not (et_B (ev_chain ev_k ev_v fun _ => ev_len (ev_ixT ev_v ev_k rfl) rfl))) (by rw [lw])) (fun hb => x_retB (c := false) ev_k rfl ?_) fun hb => ?_
    · have : okS y ⟨wd, k, n⟩ = false := by unfold okS; rw [show (decide (0 ≤ k) && decide (k < (y.works.length : Nat))) = false by cases z : (decide (0 ≤ k) && decide (k < ((y.works.length : Nat) : Int))) with | false => rfl | true => (rw [z] at hb; cases hb), Bool.and_false]; rfl
      rw [this] at q; exact q
    have hb : (decide (0 ≤ k) && decide (k < (y.works.length : Nat))) = true := by simpa using hb
    have hk := hb
    rw [Bool.and_eq_true] at hk
    have k0 := of_decide_eq_true hk.1
    have k1 := of_decide_eq_true hk.2
    obtain ⟨j, rfl⟩ : ∃ j : Nat, k = (j : Int) := ⟨k.toNat, by omega⟩
    obtain ⟨v, hv⟩ : ∃ v, y.works[j]? = some v := ⟨_, List.getElem?_eq_getElem (by omega)⟩
    have hl : waysL y (j : Int) = (v.ways.length : Nat) := by unfold waysL; rw [Int.toNat_natCast, hv]
    refine s_dict (ps := [(.dat (.str "from"), .dat (.int (y.days + 1))), (.dat (.str "ahead"), .dat (.int (y.days + 1))), (.dat (.str "stays"), .dat (.int 1)), (.dat (.str "moves"), .dat (.int 1))]) (ks := [.inr "from", .inr "ahead", .inr "stays", .inr "moves"]) (ep_cons ev_k (ev_I (f := fun i j => .int (i + j)) (ev_ixT (d := .int y.days) ev_v ev_k rfl) ev_k) (ep_cons ev_k (ev_I (f := fun i j => .int (i + j)) (ev_ixT (d := .int y.days) ev_v ev_k rfl) ev_k) (ep_cons ev_k ev_k (ep_cons ev_k ev_k ep_nil)))) rfl (by decide) (by decide) fun p np => ?_
    refine s_if (k := decide (wd = "way" ∨ wd = "not")) (EvTs.eq (et_B (ev_in (neg := false) (ds := [.str "way", .str "not"]) ev_v (ev_tup (ea_cons ev_k (ea_cons ev_k ea_nil))) rfl rfl rfl)) (in_way wd)) (fun hb2 => ?_) fun hb2 => ?_
    · have e0 : okS y ⟨wd, j, n⟩ = (decide (0 ≤ n) && decide (n < (v.ways.length : Nat))) := by
        have e1 : numOk y ⟨wd, j, n⟩ = (decide (0 ≤ n) && decide (n < (v.ways.length : Nat))) := by
          unfold numOk
          dsimp only
          rw [if_neg (by rcases of_decide_eq_true hb2 with rfl | rfl <;> decide), if_pos (of_decide_eq_true hb2), hl]
        unfold okS
        rw [e1, hb, decide_eq_true (show wd ∈ wordsL by rcases of_decide_eq_true hb2 with rfl | rfl <;> decide)]
        rfl
      rw [e0] at q
      exact x_retB (ev_chain ev_k ev_v fun _ => ev_len (n := v.ways.length) (ev_ixT (ds := [.int v.low, .int v.high, .tuple (v.ways.map Way.e)]) (ev_ixT (ds := y.works.map Wrk.e) (ev_ixT ev_v ev_k rfl) ev_v (at_map (f := Wrk.e) hv)) ev_k rfl) (by show some (v.ways.map Way.e).length = _; rw [List.length_map])) rfl q
    · have hnw := of_decide_eq_false hb2
      obtain ⟨m, e1, e2⟩ : ∃ m : Int, (valA [.inr "from", .inr "ahead", .inr "stays", .inr "moves"] [.dat (.int (y.days + 1)), .dat (.int (y.days + 1)), .dat (.int 1), .dat (.int 1)] (.inr wd)).getD (.dat (.int 0)) = .dat (.int m) ∧ okS y ⟨wd, j, n⟩ = (decide (0 ≤ n) && decide (n < m)) := by
        have ok1 : ∀ m : Int, wd ∈ wordsL → numOk y ⟨wd, j, n⟩ = (decide (0 ≤ n) && decide (n < m)) → okS y ⟨wd, j, n⟩ = (decide (0 ≤ n) && decide (n < m)) := fun m h1 h2 => by
          unfold okS
          rw [h2, hb, decide_eq_true h1]
          rfl
        have num1 : (decide (0 ≤ n) && decide (n ≤ y.days)) = (decide (0 ≤ n) && decide (n < y.days + 1)) := by
          congr 1
          exact decide_eq_decide.mpr (by omega)
        have num0 : decide (n = 0) = (decide (0 ≤ n) && decide (n < 1)) := by
          rw [← Bool.decide_and]
          exact decide_eq_decide.mpr (by omega)
        rcases hw with hw | hw
        · simp only [wordsL, List.mem_cons, List.not_mem_nil, or_false] at hw
          rcases hw with rfl | rfl | rfl | rfl | rfl | rfl
          · exact ⟨y.days + 1, rfl, (ok1 _ (by decide) (by rw [← num1]; rfl))⟩
          · exact ⟨y.days + 1, rfl, (ok1 _ (by decide) (by rw [← num1]; rfl))⟩
          · exact absurd (.inl rfl) hnw
          · exact absurd (.inr rfl) hnw
          · exact ⟨1, rfl, (ok1 _ (by decide) (by rw [← num0]; rfl))⟩
          · exact ⟨1, rfl, (ok1 _ (by decide) (by rw [← num0]; rfl))⟩
        · have hz : (decide (0 ≤ n) && decide (n < 0)) = false := by
            rw [← Bool.decide_and, decide_eq_false]
            omega
          have hbad : wd ∉ wordsL := fun z => words_apart z hw
          have e0 : okS y ⟨wd, j, n⟩ = (decide (0 ≤ n) && decide (n < 0)) := by
            rw [hz]
            unfold okS
            rw [decide_eq_false hbad]
            rfl
          simp only [badWords, List.mem_cons, List.not_mem_nil, or_false] at hw
          rcases hw with rfl | rfl
          · exact ⟨0, rfl, e0⟩
          · exact ⟨0, rfl, e0⟩
      exact x_retB (ev_chain (g := fun i j => decide (i < j)) ev_k ev_v fun _ => Evs.eq (ev_dget2 (kk := .inr wd) ev_v put_same ev_v ev_k rfl) e1) e2.symm q
end
end HLaw

set_option Elab.async false
set_option linter.all false
set_option maxRecDepth 100000
set_option maxHeartbeats 1000000
namespace HLaw
open PySem PySem.Spec PyProof.Rows L2 Hod Hv
section
def CL17 : List (Str × List Str) := [("BadSaying", ["word", "at"])]
def HL17 : List Str := ["BadSaying"]
def sub17 : Str → Str → Bool := fun x y => y == "BadSaying"
/-! _law_spot: 0:_law_ask 1:_law_found 2:e -/
abbrev s_law_spot : Stmt := topS 53
theorem sc_law_spot : FnScope ["_law_ask", "_law_found", "e"] ["_law_ask"] (defScope s_law_spot) := ⟨rfl, rfl, rfl, by decide +kernel, rfl, by decide +kernel, by decide +kernel⟩
abbrev N_law_spot : List Str := ["_law_ask", "_law_found", "e"]
abbrev ps_law_spot : List Str := ["_law_ask"]
theorem g__law_spot {X : Cx} {q : Str} {g : Addr} {fd : FuncData} (R : Raw X.K X.mg "_law_spot" s_law_spot ps_law_spot g fd) (m1 : X.mg "BadSaying" = some (.ref (ctOf X.mg "BadSaying"))) (T : ExTab X.K X.mg CL17 HL17 sub17) : GotD X "_law_spot" "_law_ask" (TTf X.mg erS) q := by
  obtain ⟨⟨⟨oc, od, kV, doc, pm, an, cdv, ct, osl, rfl, lk, hcd⟩, hk⟩, hm, hb⟩ := R
  refine ⟨g, _, _, _, _, _, _, _, cdv, ct, oc, an, od, osl, N_law_spot, hm, hk, lk, hcd, hb, sc_law_spot, rfl, .inl rfl, fun f c' s H Q tl act mono hc h => ?_⟩
  refine ⟨_, pss_cons (ps_set (i := 1) sc_law_spot.nd rfl (.inl rfl) pe_non) (pss_cons (ps_clauses rfl rfl sc_law_spot.nd takes0 (fun W pn xe tk _ => pss_one (ps_expr (act W pn xe _ _ tk)))
    (.cons (i := 2) ⟨rfl, by decide, .inl m1⟩ rfl rfl (fun a oe cls d pn hz hf => pss_one (ps_set (i := 1) sc_law_spot.nd rfl (.inl rfl) (pe_xv 2 hz hf)))
    .nil)) (pss_one (ps_ret (pv 1)))), ?_⟩
  refine ⟨_, ?_, rfl, hc, mono _ _ _ _ _ (fun _ _ _ z => z) (fun v H' z => ⟨.non, rfl, z⟩) h⟩
  rintro cls d H' ⟨x, dd, flds, d', rfl, rfl, fld, he, hok, hres⟩
  by_cases hx : x = ("BadSaying" : Str)
  · subst hx
    unfold erS at he
    rw [if_pos rfl] at he
    cases hl : flds.lookup ("at" : Str) with
    | none => rw [hl] at he; cases he
    | some z =>
      rw [hl] at he
      cases z with
      | int i =>
        cases he
        obtain ⟨fs, hfs, hall⟩ := fld
        have la := hall _ _ hl rfl
        obtain ⟨h1, h2⟩ := T.xf "BadSaying" ["word", "at"] (by decide +kernel)
        exact cl_hit (T.em "BadSaying" ["word", "at"] "BadSaying" (by decide +kernel) (by decide +kernel)) fun z nz => xv_of rfl h1 (h2 _ (by decide +kernel)) hfs la ⟨.int i, rfl, hres⟩
      | _ => cases he
  · unfold erS at he
    rw [if_neg hx] at he
    cases he
end
end HLaw

set_option Elab.async false
set_option linter.all false
set_option maxRecDepth 100000
set_option maxHeartbeats 1000000
namespace HLaw
open PySem PySem.Spec PyProof.Rows L2 Hod Hv
open LamX
section
variable {P : Program} {w : World} {K : PySem.W.Frag} {mg : Str → Option Value} {base : Heap}
theorem x_cbN {ρ : Rho} {μ : Mem} {u : WA} {g : GC} {Q : A → Prop} (h : u ρ μ fun as => g μ as Q) : wCB g u ρ μ Q := h
theorem sy_nols : ∀ l : List Sy, nols (l.map Sy.e) = true
  | [] => rfl
  | s :: l => by
    show (nol s.e && nols (l.map Sy.e)) = true
    rw [sy_nols l]
    rfl
theorem dsys {ds : List PyData} : (∀ d ∈ ds, ∃ s : Sy, s.w ∧ d = s.e) → ∃ l : List Sy, ds = l.map Sy.e ∧ (∀ s ∈ l, s.w) := by
  induction ds with
  | nil => exact fun _ => ⟨[], rfl, fun _ h => nomatch h⟩
  | cons d ds ih =>
    intro h
    obtain ⟨s, h1, h2⟩ := h d (by simp)
    obtain ⟨l, l1, l2⟩ := ih fun x hx => h x (by simp [hx])
    refine ⟨s :: l, by rw [h2, l1]; rfl, fun x hx => ?_⟩
    rcases List.mem_cons.mp hx with rfl | hx
    · exact h1
    · exact l2 x hx
theorem shp_sys {l : List Sy} (hw : ∀ s ∈ l, s.w) : SeqAt.shaped (.list (l.map Sy.e)) = true := shp_list fun d hd => by obtain ⟨s, hs, rfl⟩ := List.mem_map.mp hd; exact shp_sy (hw s hs)
theorem dep_due (r : Option Nat) : dep (dueD r) = 0 := by cases r <;> rfl
theorem due_flat (r : Option Nat) : flatD (dueD r) = true := by cases r <;> rfl
def JS (y : Yard) : Rho → Mem → Prop := fun ρ μ => ∃ (s : Nat → Option A) (p : Addr) (l : List Sy), ρ = [none, some .drw, s 2, s 3, s 4, s 5, s 6, s 7, s 8, some (.dat y.e), s 10, some (.own p), s 12] ∧ μ p = some ((l.map Sy.e).map .dat) ∧ (∀ t ∈ l, t.w) ∧ l.length ≤ 9
/-! law: 0:_law_script 1:_law_draw 2:_law_turn 3:_law_bend 4:_law_spot_here 5:_law_bad 6:_law_due 7:_law_found 8:_law_course 9:_law_net_here 10:_law_saying_here 11:_law_some 12:_law_k -/
abbrev slaw : Stmt := topS 54
theorem sclaw : FnScope ["_law_script", "_law_draw", "_law_turn", "_law_bend", "_law_spot_here", "_law_bad", "_law_due", "_law_found", "_law_course", "_law_net_here", "_law_saying_here", "_law_some", "_law_k"] ["_law_script"] (defScope slaw) := ⟨rfl, rfl, rfl, by decide +kernel, rfl, by decide +kernel, by decide +kernel⟩
abbrev Nlaw : List Str := ["_law_script", "_law_draw", "_law_turn", "_law_bend", "_law_spot_here", "_law_bad", "_law_due", "_law_found", "_law_course", "_law_net_here", "_law_saying_here", "_law_some", "_law_k"]
abbrev pslaw : List Str := ["_law_script"]
set_option maxHeartbeats 8000000 in
theorem law_ok {f c Pt fo fc fh vk : Addr} {fdo fdc fdh : FuncData} {kV doc pm ct oc : Value} {an od : Option Addr} {osl : Array (Option Value)} (Bq : Bl mg) (lk : K.lookup f = some ⟨oc, od, .func (PySem.W.fnOf "law" "law" (defArgs slaw) (defBody slaw) (defScope slaw) .none kV doc pm an (.ref c) ct), osl⟩) (hcd : PySem.W.codeIn K (.ref c) "law" = true) (TB : TabB base mg c Pt) (R_open : Raw K mg "_law_open" s_law_open ps_law_open fo fdo)
    (D__law_pull : Dfn P w K mg base 1 "_law_pull" ps_law_pull (spD K false Fpull)) (D__law_net : Dfn P w K mg base 4 "_law_net" ps_law_net (spD K false Fnet)) (D__law_saying : Dfn P w K mg base 2 "_law_saying" ps_law_saying (spD K false Fsaying)) (D__law_bent_saying : Dfn P w K mg base 3 "_law_bent_saying" ps_law_bent_saying (spD K false FbentS)) (D__law_saying_good : Dfn P w K mg base 1 "_law_saying_good" ps_law_saying_good (spD K false FsayGood)) (D__law_like : Dfn P w K mg base 5 "_law_like" ps_law_like (spD K false (Flike 4)))
    (R_spot : Raw K mg "_law_spot" s_law_spot ps_law_spot fc fdc) (m1 : mg "BadSaying" = some (.ref (ctOf mg "BadSaying"))) (T : ExTab K mg CL17 HL17 sub17)
    (D_line : DfnX P w K mg base 8 "line" psline FlineX) (D_opposite : DfnX P w K mg base 8 "opposite" psopposite FoppY)
    (hvk : ∀ G, Rp K G (.ref vk) (.tuple [])) (FD : FunD K "holds" "holds" (defArgs sholds) (defBody sholds) (defScope sholds) [] [("kept", .ref vk)] fh fdh) (m_holds : mg "holds" = some (.ref fh)) (G_holds : FnOk P w K mg base (L2.CX P w) 8 fh fdh psholds (spX K mg false FholdX)) :
    FnOk P w K mg base CX0 12 f (PySem.W.fnOf "law" "law" (defArgs slaw) (defBody slaw) (defScope slaw) .none kV doc pm an (.ref c) ct) pslaw (spLawT K Pt) := by
  obtain ⟨m_len, m_list, m_tuple, m_range, m_enumerate, m_isinstance, m_int, m_bool, m_str, m_all, m_min, m_max, m_sum⟩ := Bq
  obtain ⟨f0, fd0, G__law_pull, m__law_pull, k__law_pull, b__law_pull⟩ := D__law_pull
  obtain ⟨f1, fd1, G__law_net, m__law_net, k__law_net, b__law_net⟩ := D__law_net
  obtain ⟨f2, fd2, G__law_saying, m__law_saying, k__law_saying, b__law_saying⟩ := D__law_saying
  obtain ⟨f3, fd3, G__law_bent_saying, m__law_bent_saying, k__law_bent_saying, b__law_bent_saying⟩ := D__law_bent_saying
  obtain ⟨f4, fd4, G__law_saying_good, m__law_saying_good, k__law_saying_good, b__law_saying_good⟩ := D__law_saying_good
  obtain ⟨f5, fd5, G__law_like, m__law_like, k__law_like, b__law_like⟩ := D__law_like
  obtain ⟨f6, fd6, G_line, m_line, k_line, b_line⟩ := D_line
  obtain ⟨f7, fd7, G_opposite, m_opposite, k_opposite, b_opposite⟩ := D_opposite
  have k_holds := FD.kp
  obtain ⟨mv3, b_holds__3⟩ := kbD_mk (ps := psholds) (ks := []) (ms := [("kept", .ref vk)]) (π := [0, 1, 2, 3]) (n := 3) (m := 0) FD (by decide) (by simp) (by simp) fun D _ _ _ _ _ us ws mv h1 h2 h3 => match us, ws, mv, h1, h2, h3 with | [_, _, _], [], [_], _, _, _ => ⟨_, _, _, _, _, _, rfl, rfl, rfl⟩
  have ga_holds__3 : GAK K (permD .non [0, 1, 2, 3] 3 0 [.ref vk]) (permD (.dat .none) [0, 1, 2, 3] 3 0 [.dat (.tuple [])]) := gakD_mk fun _ _ G => .cons (.dat (hvk G)) .nil
  have G_open : FnOk P w K mg base CX0 1 fo fdo ps_law_open (Hv.spOpen K) := ok_open R_open.1 m_list
  refine ok_code (k := 11) lk hcd sclaw (fun vs H Q E h => ?_) (fun Ar outer s H vs Q E hr h => ?_)
  · obtain ⟨a, ns, rfl, _⟩ := h
    rfl
  · obtain ⟨a, ns, rfl, hS, hl, hP, q⟩ := h
    have GD__law_spot : GotD (cxOf CX0 P w K mg base Nlaw "law" (defScope slaw) f (.ref c) Ar outer s H E).nox "_law_spot" "_law_ask" (TTf mg erS) := g__law_spot (X := (cxOf CX0 P w K mg base Nlaw "law" (defScope slaw) f (.ref c) Ar outer s H E).nox) R_spot m1 T
    refine ⟨_, pss_cons (ps_set (i := 1) sclaw.nd rfl (.inr rfl) (pe_call G_open (hr.mono (by omega)) (by rfl) R_open.2.1 R_open.1.kp R_open.2.2 .nil pass0 (pa_cons (pv 0) pa_nil)))
      (show VSs _ (xlT Pt) _ _ from (vss_cons (vs_for (.nm 2) PassesOwn.never rfl (vi_range1 (by rfl) m_range (va_cons ve_int va_nil)) (pg_name (i := 2) sclaw.nd rfl (.inl rfl))
      (vss_cons (vs_set (i := 9) sclaw.nd rfl (.inr rfl) (ve_call G__law_net (hr.mono (by omega)) (by rfl) m__law_net k__law_net b__law_net (va_cons (ve_var 1) (va_cons ve_int (va_cons ve_int (va_cons ve_int (va_cons ve_int (va_cons ve_int va_nil))))))))
    (vss_cons (vs_own (i := 11) sclaw.nd rfl (.inr rfl) (vf_op op_rep r_rep (VF.ve (vf_lst (va_cons (ve_tup (va_cons ve_str (va_cons ve_int (va_cons ve_int va_nil)))) va_nil))) (ve_call G__law_pull (hr.mono (by omega)) (by rfl) m__law_pull k__law_pull b__law_pull (va_cons (ve_var 1) (va_cons ve_int va_nil)))))
    (vss_cons (vs_if (vt_cmp (op_neD hr.units) r_neD (ve_ix ix_seq r_ix (ve_var 9) ve_int (fun _ _ => rfl)) (ve_tup va_nil) (nomark _)) (vss_one (vs_own (i := 11) sclaw.nd rfl (.inr rfl) (vf_lc (own := [("_law_k", 12)]) (.nm 12) (by rfl) sclaw.nd (vi_range1 (by rfl) m_range (va_cons (ve_call G__law_pull (hr.mono (by omega)) (by rfl) m__law_pull k__law_pull b__law_pull (va_cons (ve_var 1) (va_cons ve_int va_nil))) va_nil)) (blkOk_by (own := [("_law_k", 12)]) (N := ["_law_script", "_law_draw", "_law_turn", "_law_bend", "_law_spot_here", "_law_bad", "_law_due", "_law_found", "_law_course", "_law_net_here", "_law_saying_here", "_law_some", "_law_k"]) (sc := defScope slaw) (by decide +kernel)) (fun _ _ _ _ _ => (pg_name (i := 12) sclaw.nd rfl (.inl rfl))) (fun _ _ _ _ _ => vts_nil) (fun _ _ _ _ _ => (ve_call G__law_saying (hr.mono (by omega)) (by rfl) m__law_saying k__law_saying b__law_saying (va_cons (ve_var 1) (va_cons (ve_var 9) va_nil))))))) vss_nil)
    (vss_cons (vs_for (.nm 3) PassesOwn.never rfl (vi_range1 (by rfl) m_range (va_cons (ve_op op_mul r_mul (ve_call G__law_pull (hr.mono (by omega)) (by rfl) m__law_pull k__law_pull b__law_pull (va_cons (ve_var 1) (va_cons ve_int va_nil))) (VF.ve (vf_callTy c_intB call_int1 (by rfl) m_int (by decide +kernel) (va_cons (ve_cmp (op_neD hr.units) r_neD (ve_var 11) (VF.ve (vf_lst va_nil)) (nomark _)) va_nil)))) va_nil)) (pg_name (i := 3) sclaw.nd rfl (.inl rfl))
      (vss_cons (vs_set (i := 4) sclaw.nd rfl (.inl rfl) (ve_call G__law_pull (hr.mono (by omega)) (by rfl) m__law_pull k__law_pull b__law_pull (va_cons (ve_var 1) (va_cons (VF.ve (vf_callB c_len call_len_seq (by rfl) m_len PySem.boot_len (va_cons (ve_var 11) va_nil))) va_nil))))
    (vss_one (vs_sto (ve_call G__law_bent_saying (hr.mono (by omega)) (by rfl) m__law_bent_saying k__law_bent_saying b__law_bent_saying (va_cons (ve_var 1) (va_cons (ve_var 9) (va_cons (ve_ix ix_seq r_ix (ve_var 11) (ve_var 4) (fun _ _ => rfl)) va_nil)))) (ve_var 11) (ve_var 4) (fun a b c => pg_sub a b c)))))
    (vss_frz (vss_cons (vs_setLc (i := 5) (own := [("_law_k", 12)]) (.nm 12) (by rfl) sclaw.nd rfl rfl (sw_true rfl rfl rfl (by decide +kernel)) (vi_range1 (by rfl) m_range (va_cons (VF.ve (vf_callB c_len call_len_seq (by rfl) m_len PySem.boot_len (va_cons (ve_var 11) va_nil))) va_nil)) (blkOk_by (own := [("_law_k", 12)]) (N := ["_law_script", "_law_draw", "_law_turn", "_law_bend", "_law_spot_here", "_law_bad", "_law_due", "_law_found", "_law_course", "_law_net_here", "_law_saying_here", "_law_some", "_law_k"]) (sc := defScope slaw) (by decide +kernel)) (fun _ _ _ _ _ => (pg_name (i := 12) sclaw.nd rfl (.inl rfl))) (fun _ _ _ _ _ => (vts_one (vt_not (vt_val (ve_call G__law_saying_good (hr.mono (by omega)) (by rfl) m__law_saying_good k__law_saying_good b__law_saying_good (va_cons (ve_var 9) (va_cons (ve_ix ix_seq r_ix (ve_var 11) (ve_var 12) (fun _ _ => rfl)) va_nil))))))) (fun _ _ _ _ _ => (ve_var 12)))
    (vss_cons (vs_set (i := 6) sclaw.nd rfl (.inl rfl) (ve_if (vt_cmp (op_neD hr.units) r_neD (ve_var 5) (VF.ve (vf_lst va_nil)) (nomark _)) (ve_ix ix_seq r_ix (ve_var 5) ve_int (fun _ _ => rfl)) ve_non))
    (vss_cons (vs_set (i := 8) sclaw.nd rfl (.inr rfl) (VF.ve (vf_op op_rep r_rep (VF.ve (vf_lst (va_cons (ve_tup (va_cons ve_int (va_cons ve_int va_nil))) va_nil))) (VF.ve (vf_callB c_len call_len_seq (by rfl) m_len PySem.boot_len (va_cons (ve_ix ix_seq r_ix (ve_var 9) ve_int (fun _ _ => rfl)) va_nil))))))
    (vss_cons (vs_own (i := 7) sclaw.nd rfl (.inl rfl) (vf_lst (va_cons (ve_lamF (k := 9) GD__law_spot (by rfl) TB rfl rfl (hr.mono (by omega)) (show LamS (defScope slaw) _ from lamS_by (by decide +kernel)) (fun xw _ _ _ _ _ _ _ hr => (ve_callX G_line (hr.mono (by omega)) (by rfl) m_line k_line b_line (va_cons (ve_var 9) (va_cons (ve_var 11) va_nil))))) va_nil)))
    (vss_cons (vs_app (ve_var 7) (ve_lamF (k := 9) GD__law_spot (by rfl) TB rfl rfl (hr.mono (by omega)) (show LamS (defScope slaw) _ from lamS_by (by decide +kernel)) (fun xw _ _ _ _ _ _ _ hr => (ve_callKX G_holds (hr.mono (by omega)) (by rfl) m_holds k_holds b_holds__3 ga_holds__3 (va_cons (ve_var 9) (va_cons (ve_var 8) (va_cons (ve_var 11) va_nil))) vk_nil))))
    (vss_cons (vs_if (vt_not (vt_val (ve_call G__law_like (hr.mono (by omega)) (by rfl) m__law_like k__law_like b__law_like (va_cons (ve_var 7) (va_cons (VF.ve (vf_lst (va_cons (ve_var 6) (va_cons (ve_var 6) va_nil)))) va_nil))))) (vss_one (vs_ret ve_bl)) vss_nil)
    (vss_one (vs_for (.nm 10) PassesOwn.never rfl (vi_list (ve_var 11)) (pg_name (i := 10) sclaw.nd rfl (.inr rfl))
      (vss_one (vs_if (vt_cmp op_ne r_ne (ve_lamF (k := 9) GD__law_spot (by rfl) TB rfl rfl (hr.mono (by omega)) (show LamS (defScope slaw) _ from lamS_by (by decide +kernel)) (fun xw _ _ _ _ _ _ _ hr => (ve_callX G_opposite (hr.mono (by omega)) (by rfl) m_opposite k_opposite b_opposite (va_cons (ve_var 9) (va_cons (ve_var 10) va_nil))))) (ve_if (vt_val (ve_call G__law_saying_good (hr.mono (by omega)) (by rfl) m__law_saying_good k__law_saying_good b__law_saying_good (va_cons (ve_var 9) (va_cons (ve_var 10) va_nil)))) ve_non ve_int) (nomark _)) (vss_one (vs_ret ve_bl)) vss_nil))))))))))))))))
    (vss_one (vs_ret ve_bl)))), ?_⟩
    refine law_lam (i := 0) (n := 12) hP (by decide) hS hl q ?_
    refine s_for (fun _ ρ _ => ∃ s : Nat → Option A, ρ = [none, some .drw, s 2, s 3, s 4, s 5, s 6, s 7, s 8, s 9, s 10, s 11, s 12]) (ei_R1 ev_k (by decide) (by decide)) ⟨fun _ => none, rfl⟩ ?_ (fun ρ μ _ => x_ret (a := .dat (.bool true)) ev_k rfl)
    rintro n dd ρ μ N hdd ⟨s, rfl⟩ hN
    refine ⟨_, rfl, s_setN (x_call (ea_cons ev_v (ea_cons ev_k (ea_cons ev_k (ea_cons ev_k (ea_cons ev_k (ea_cons ev_k ea_nil)))))) ⟨20, 6, 3, 1, 0, rfl, by decide, by decide, by decide, by decide, by decide, by decide, by decide, by decide, by decide, by decide, fun y ho _ _ _ _ _ => ?_⟩)⟩
    have d1 := ho.d1; have d20 := ho.d20; have w6 := ho.w6
    refine s_cut (JS y) ?_ (fun N2 hN2 => ?_)
    rotate_left
    · refine x_ownN (x_op (a := .dat (.list [(Sy.mk "from" 0 0).e])) (ev_lst (as := [.dat (Sy.mk "from" 0 0).e]) (ea_cons (ev_tup (as := [.dat (.str "from"), .dat (.int 0), .dat (.int 0)]) (ea_cons ev_k (ea_cons ev_k (ea_cons ev_k ea_nil)))) ea_nil)) (x_pull (n := 2) fun g g0 g1 => ⟨by omega, Nat.le_of_ble_eq_true rfl, ?_⟩))
      have e : (List.replicate g.toNat [(Sy.mk "from" 0 0).e]).flatten = (List.replicate g.toNat (Sy.mk "from" 0 0)).map Sy.e := rep_map _ _
      rw [e]
      refine ⟨sy_nols _, fun p np => hN2 _ _ ⟨fun i => match i with | 2 => some (.dat dd) | i => s i, p, _, rfl, put_same, fun t ht => ?_, by rw [List.length_replicate]; omega⟩⟩
      rw [List.eq_of_mem_replicate ht]
      exact .inl (by show ("from" : Str) ∈ wordsL; decide)
    rintro ρ μ ⟨s, p, l, rfl, hm, hw, h9⟩
    refine s_cut (JS y) ?_ (fun N2 hN2 => ?_)
    rotate_left
    · refine x_if (k := !y.works.isEmpty) (EvTs.eq (et_B (ev_neD (d := .tuple (y.works.map Wrk.e)) (e := .tuple []) (ev_ixT ev_v ev_k rfl) (ev_tup ea_nil) rfl rfl (shp_works y) rfl)) (by rw [eqv_nil, List.isEmpty_map])) (fun hne => ?_) fun _ => hN2 _ _ ⟨s, p, l, rfl, hm, hw, h9⟩
      have hw0 : 0 < y.works.length := by
        cases e : y.works with
        | nil => rw [e] at hne; cases hne
        | cons _ _ => simp
      refine x_ownN (x_lc (x_r1 (x_ac (x_pull (n := 9) fun g g0 g1 => x_an ⟨⟨by omega, by omega⟩, by rw [rng_len]; omega, lcW_all (P := fun d => ∃ s : Sy, s.w ∧ d = s.e) (fun d hd R r => lcF_yes rfl (x_call (ea_cons ev_v (ea_cons ev_v ea_nil)) ⟨y, rfl, ho, hw0, fun t ht => r t.e ⟨toSy t, toSy_w t, rfl⟩⟩)) fun es h1 h2 => ?_⟩))))
      obtain ⟨l2, rfl, l2w⟩ := dsys h2
      rw [List.length_map, rng_len] at h1
      exact ⟨sy_nols _, fun p2 np2 => hN2 _ _ ⟨s, p2, l2, rfl, put_same, l2w, by omega⟩⟩
    rintro ρ μ ⟨s, p, l, rfl, hm, hw, h9⟩
    refine s_cut (JS y) ?_ (fun N2 hN2 => ?_)
    rotate_left
    · unfold wFor
      refine x_r1 (x_ac (x_opN (x_pull (n := 3) fun r r0 r1 => x_ev (a := .dat (.int (if (!l.isEmpty) = true then 1 else 0))) (Evs.eq (ev_intB (ev_neD (d := .list (l.map Sy.e)) (e := .list []) ev_v (ev_lst ea_nil) (rsv_own hm) rfl (shp_sys hw) rfl)) (by rw [eqv_nilLL, List.isEmpty_map])) ⟨.inl ⟨by omega, by omega⟩, x_an ?_⟩)))
      have hc : (if (!l.isEmpty) = true then (1 : Int) else 0) = 0 ∨ (0 < l.length ∧ (if (!l.isEmpty) = true then (1 : Int) else 0) = 1) := by
        cases l with
        | nil => exact .inl rfl
        | cons _ _ => exact .inr ⟨by simp, rfl⟩
      generalize (if (!l.isEmpty) = true then (1 : Int) else 0) = c1 at hc ⊢
      have hrc : 0 ≤ r * c1 ∧ r * c1 ≤ 12 ∧ (0 < r * c1 → 0 < l.length) := by
        rcases hc with h | ⟨h1, h2⟩
        · rw [h]; simp
        · rw [h2, Int.mul_one]; exact ⟨r0, by omega, fun _ => h1⟩
      refine ⟨⟨by omega, by omega⟩, forW_of (fun n ρ μ => ∃ (s : Nat → Option A) (l2 : List Sy), ρ = [none, some .drw, s 2, s 3, s 4, s 5, s 6, s 7, s 8, some (.dat y.e), s 10, some (.own p), s 12] ∧ μ p = some ((l2.map Sy.e).map .dat) ∧ (∀ t ∈ l2, t.w) ∧ l2.length = l.length) ⟨s, l, rfl, hm, hw, rfl⟩ ?_ (fun ρ μ ⟨s, l2, e, h1, h2, h3⟩ => hN2 _ _ ⟨s, p, l2, e, h1, h2, by omega⟩)⟩
      rintro n d ρ μ N hd ⟨s, l2, rfl, h1, h2, h3⟩ hN
      obtain ⟨hn, rfl⟩ := rng_get hd
      have hl0 : 0 < l.length := hrc.2.2 (by omega)
      refine ⟨_, rfl, s_setN (x_pull (n := (l2.length : Nat)) (fun g g0 g1 => ?_) (by omega) (by omega) (ev_len (n := l2.length) (a := .own p) ev_v (by rw [len_own h1, List.length_map])))⟩
      obtain ⟨i, rfl⟩ : ∃ i : Nat, g = (i : Int) := ⟨g.toNat, by omega⟩
      obtain ⟨t, ht⟩ : ∃ t, l2[i]? = some t := ⟨_, List.getElem?_eq_getElem (by omega)⟩
      have e1 : ((l2.map Sy.e).map A.dat)[i]? = some (.dat t.e) := by rw [List.getElem?_map, List.getElem?_map, ht]; rfl
      refine x_stoN (x_call (as := [.drw, .dat y.e, .dat t.e]) (ea_cons ev_v (ea_cons ev_v (ea_cons (ev_ixO (a := .dat t.e) (p := p) ev_v ev_v h1 (at_natA e1)) ea_nil))) ⟨y, t, rfl, ho, h2 t (List.mem_of_getElem? ht), fun t2 ht2 => x_ev (a := .own p) ev_v (x_ev (a := .dat (.int i)) ev_v (x_stoE (a := .drw) (R := True) h1 (by omega) (by rw [List.length_map, List.length_map]; omega) ?_))⟩)
      refine hN _ _ ⟨fun i' => match i' with | 3 => some (.dat (.int n)) | 4 => some (.dat (.int i)) | i' => s i', l2.set i t2, rfl, ?_, fun z hz => ?_, by rw [List.length_set]; exact h3⟩
      · rw [put_same, Int.toNat_natCast, List.map_set, List.map_set]
      · obtain ⟨j, hj⟩ := List.getElem?_of_mem hz
        rw [List.getElem?_set] at hj
        split at hj
        · split at hj
          · cases hj; exact ht2
          · cases hj
        · exact h2 z (List.mem_of_getElem? hj)
    rintro ρ μ ⟨s, p, l, rfl, hm, hw, h9⟩
    refine x_frz (ρ' := [none, some .drw, frzS μ (s 2), frzS μ (s 3), frzS μ (s 4), frzS μ (s 5), frzS μ (s 6), frzS μ (s 7), frzS μ (s 8), some (.dat y.e), frzS μ (s 10), some (.dat (.list (l.map Sy.e))), frzS μ (s 12)]) (by
      simp only [List.map_cons, List.map_nil, frz_own hm, frz_dat, frz_drw]
      rfl) ?_
    obtain ⟨r, hr'⟩ := due_ex y l
    have hll : (l.map Sy.e).length = l.length := List.length_map _
    refine s_set (a := .dat (.list (intsN (badsL y l)))) (ev_lcgf (f := fun i : Nat => PyData.int (i : Nat)) (g := fun i : Nat => PyData.int (i : Nat)) (l := List.range l.length) (b := fun k => match l[k]? with | some s => !okS y s | none => false) (EvIs.eq (ei_R1 (ev_len (n := l.length) ev_v (by show some (l.map Sy.e).length = _; rw [hll])) (by omega) (by omega)) (by rw [Int.toNat_natCast]; exact rng0' _)) (by rw [List.length_range]; omega) fun k hk => ⟨_, rfl, ?_, fun _ => ev_v⟩) ?_
    · obtain ⟨t, ht⟩ : ∃ t, l[k]? = some t := ⟨_, List.getElem?_eq_getElem (List.mem_range.mp hk)⟩
      rw [ht]
      exact et_not (et_B (ev_call (d := .bool (okS y t)) (ea_cons ev_v (ea_cons (ev_ixL ev_v ev_v (at_map (f := Sy.e) ht)) ea_nil)) fun Q q => ⟨y, t, rfl, ho, hw t (List.mem_of_getElem? ht), q⟩))
    refine s_set (a := .dat (dueD r)) (ev_if (k := !(badsL y l).isEmpty) (EvTs.eq (et_B (ev_neD (d := .list (intsN (badsL y l))) (e := .list []) ev_v (ev_lst ea_nil) rfl rfl (shp_intsL _) rfl)) (by rw [eqv_nilLL]; unfold intsN; rw [List.isEmpty_map])) (fun hne => ?_) fun he => ?_) ?_
    · cases r with
      | none => rw [bads_none hr'] at hne; cases hne
      | some k =>
        obtain ⟨rr, e⟩ := bads_some hr'
        rw [e]
        exact ev_ixL (ds := .int (k : Nat) :: intsN rr) ev_v ev_k (at_nat (i := 0) rfl)
    · cases r with
      | none => exact ev_k
      | some k =>
        obtain ⟨rr, e⟩ := bads_some hr'
        rw [e] at he; cases he
    refine s_set (a := .dat (.list ((List.replicate y.works.length (0, 0)).map prP))) (Evs.eq (ev_rep (ds := [prP (0, 0)]) (k := (y.works.length : Nat)) (ev_lst (as := [.dat (prP (0, 0))]) (ea_cons (ev_tup (as := [.dat (.int 0), .dat (.int 0)]) (ea_cons ev_k (ea_cons ev_k ea_nil))) ea_nil)) (ev_len (n := y.works.length) (ev_ixT ev_v ev_k rfl) (by show some (y.works.map Wrk.e).length = _; rw [List.length_map])) (by omega) (Nat.le_of_ble_eq_true rfl)) (by rw [Int.toNat_natCast, rep_map])) ?_
    have told : ∀ (Q : PyData → Prop) (E : XW), toldM r Q E → ((∀ s ∈ l, okS y s = true) → ∀ d, Q d) ∧ ∀ k, BadAt y l k → E "BadSaying" [("word", .str "badsaying"), ("at", .int k)] := fun Q E h => by
      cases r with
      | none => exact ⟨fun _ => h, fun k hk => by obtain ⟨⟨t, h1, h2⟩, _⟩ := hk; rw [hr' t (List.mem_of_getElem? h1)] at h2; cases h2⟩
      | some k =>
        obtain ⟨⟨t, h1, h2⟩, h3⟩ := hr'
        refine ⟨fun hall => (by rw [hall t (List.mem_of_getElem? h1)] at h2; cases h2), fun k2 hk2 => ?_⟩
        obtain ⟨⟨t2, h4, h5⟩, h6⟩ := hk2
        have : k2 = k := by
          rcases Nat.lt_trichotomy k2 k with z | z | z
          · rw [h3 k2 t2 z h4] at h5; cases h5
          · exact z
          · rw [h6 k t z h1] at h2; cases h2
        rw [this]; exact h
    refine s_own (ds := [dueD r]) (ev_lst (as := [.dat (dueD r)]) (ea_cons (ev_spot (as := [.dat y.e, .dat (.list (l.map Sy.e))]) (ea_cons ev_v (ea_cons ev_v ea_nil)) fun Q E h => ⟨y, l, rfl, ho, hw, by omega, told Q E h⟩) ea_nil)) (by cases r <;> rfl) fun p2 np2 => ?_
    refine s_app (p := p2) (xs := [.dat (dueD r)]) ev_v put_same (a := .dat (dueD r)) (ev_spotK (as := [.dat y.e, .dat (.list ((List.replicate y.works.length (0, 0)).map prP)), .dat (.list (l.map Sy.e))]) (bs := []) (ea_cons ev_v (ea_cons ev_v (ea_cons ev_v ea_nil))) ea_nil fun Q E h => ⟨y, List.replicate y.works.length (0, 0), l, rfl, ho, List.length_replicate, hw, by omega, told Q E h⟩) (by show 1 < 1000000; decide) ?_
    have hm2 : put (put emp p2 ([dueD r].map .dat)) p2 ([.dat (dueD r)] ++ [.dat (dueD r)]) p2 = some ([dueD r, dueD r].map .dat) := put_same
    generalize put (put emp p2 ([dueD r].map .dat)) p2 ([.dat (dueD r)] ++ [.dat (dueD r)]) = μ2 at hm2 ⊢
    have hdd : dep (.list [dueD r, dueD r]) < 4 := by cases r <;> exact Nat.le_of_ble_eq_true rfl
    refine s_if0 (EvTs.eq (et_not (et_B (ev_callO (d := .bool (like (.list [dueD r, dueD r]) (.list [dueD r, dueD r]))) (bs := [.dat (.list [dueD r, dueD r]), .dat (.list [dueD r, dueD r])]) (ea_cons ev_v (ea_cons (ev_lst (as := [.dat (dueD r), .dat (dueD r)]) (ea_cons ev_v (ea_cons ev_v ea_nil))) ea_nil)) (by
      show rsvs μ2 [.own p2, .dat (.list [dueD r, dueD r])] = _
      simp only [rsvs]
      rw [rsvA_own hm2]
      rfl) (fun Q q => ⟨_, _, rfl, hdd, by omega, q⟩) rfl))) (by rw [like_refl _ (by omega)]; rfl)) ?_
    refine x_for (fun _ ρ μ => ∃ s : Nat → Option A, ρ = [none, some .drw, s 2, s 3, s 4, s 5, s 6, s 7, s 8, some (.dat y.e), s 10, some (.dat (.list (l.map Sy.e))), s 12]) (ei_L ev_v) ⟨fun i => match i with | 2 => frzS μ (s 2) | 3 => frzS μ (s 3) | 4 => frzS μ (s 4) | 5 => some (.dat (.list (intsN (badsL y l)))) | 6 => some (.dat (dueD r)) | 7 => some (.own p2) | 8 => some (.dat (.list ((List.replicate y.works.length (0, 0)).map prP))) | 10 => frzS μ (s 10) | _ => frzS μ (s 12), rfl⟩ ?_ (fun ρ μ ⟨s, e⟩ => hN _ _ ⟨fun i => match i with | 9 => some (.dat y.e) | 11 => some (.dat (.list (l.map Sy.e))) | i => s i, e⟩)
    rintro n d ρ μ N3 hd ⟨s, rfl⟩ hN3
    obtain ⟨t, ht, rfl⟩ := map_get hd
    have htw := hw t (List.mem_of_getElem? ht)
    refine ⟨_, rfl, x_if (k := false) (EvTs.eq (et_B (ev_ne (k := true) (d := dueD (if okS y t = true then none else some 0)) (e := if okS y t = true then .none else .int 0) (ev_spot (as := [.dat y.e, .dat t.e]) (ea_cons ev_v (ea_cons ev_v ea_nil)) fun Q E h => ⟨y, t, rfl, ho, htw, fun hb => (by rw [if_pos hb] at h; exact h), fun hb => (by rw [if_neg (by rw [hb]; exact Bool.false_ne_true)] at h; exact h)⟩) (ev_if (k := okS y t) (et_B (ev_call (d := .bool (okS y t)) (ea_cons ev_v (ea_cons ev_v ea_nil)) fun Q q => ⟨y, t, rfl, ho, htw, q⟩)) (fun hb => Evs.eq ev_k (by rw [if_pos hb])) fun hb => Evs.eq ev_k (by rw [if_neg (by rw [hb]; exact Bool.false_ne_true)])) (by cases okS y t <;> rfl))) rfl) (fun z => nomatch z) fun _ => hN3 _ _ ⟨fun i => match i with | 10 => some (.dat t.e) | i => s i, rfl⟩⟩
end
end HLaw

set_option Elab.async false
set_option linter.all false
set_option maxRecDepth 100000
set_option maxHeartbeats 1000000
namespace HLaw
open PySem PySem.Spec PyProof.Rows L2 Hod Hv
theorem all_mk {l : PySem.W.OpenLaw} {w : World} {K : PySem.W.Frag} {h : Heap} {mg : Str → Option Value} {fa : Addr} (X : K.In h) (G : h.Ns mainGlobals mg) (hfa : mg "law" = some (.ref fa))
    {f0 : Addr} {od0 an0 : Option Addr} {sl0 : Array (Option Value)} {oc0 kV0 dc0 pm0 cd0 ct0 : Value} (a0 : PySem.W.nsIn K mainGlobals "check_yard" = some (some (.ref f0))) (l0 : K.lookup f0 = some ⟨oc0, od0, .func (PySem.W.fnOf "check_yard" "check_yard" (defArgs scheck_yard) (defBody scheck_yard) (defScope scheck_yard) .none kV0 dc0 pm0 an0 cd0 ct0), sl0⟩) (c0 : PySem.W.codeIn K cd0 "check_yard" = true) (k0 : PySem.W.keepIn K (.ref f0) = true)
    {f1 : Addr} {od1 an1 : Option Addr} {sl1 : Array (Option Value)} {oc1 kV1 dc1 pm1 cd1 ct1 : Value} (a1 : PySem.W.nsIn K mainGlobals "first_wrong" = some (some (.ref f1))) (l1 : K.lookup f1 = some ⟨oc1, od1, .func (PySem.W.fnOf "first_wrong" "first_wrong" (defArgs sfirst_wrong) (defBody sfirst_wrong) (defScope sfirst_wrong) .none kV1 dc1 pm1 an1 cd1 ct1), sl1⟩) (c1 : PySem.W.codeIn K cd1 "first_wrong" = true) (k1 : PySem.W.keepIn K (.ref f1) = true)
    {f2 : Addr} {od2 an2 : Option Addr} {sl2 : Array (Option Value)} {oc2 kV2 dc2 pm2 cd2 ct2 : Value} (a2 : PySem.W.nsIn K mainGlobals "wrong_shut" = some (some (.ref f2))) (l2 : K.lookup f2 = some ⟨oc2, od2, .func (PySem.W.fnOf "wrong_shut" "wrong_shut" (defArgs swrong_shut) (defBody swrong_shut) (defScope swrong_shut) .none kV2 dc2 pm2 an2 cd2 ct2), sl2⟩) (c2 : PySem.W.codeIn K cd2 "wrong_shut" = true) (k2 : PySem.W.keepIn K (.ref f2) = true)
    {f3 : Addr} {od3 an3 : Option Addr} {sl3 : Array (Option Value)} {oc3 kV3 dc3 pm3 cd3 ct3 : Value} (a3 : PySem.W.nsIn K mainGlobals "wrong_stuff" = some (some (.ref f3))) (l3 : K.lookup f3 = some ⟨oc3, od3, .func (PySem.W.fnOf "wrong_stuff" "wrong_stuff" (defArgs swrong_stuff) (defBody swrong_stuff) (defScope swrong_stuff) .none kV3 dc3 pm3 an3 cd3 ct3), sl3⟩) (c3 : PySem.W.codeIn K cd3 "wrong_stuff" = true) (k3 : PySem.W.keepIn K (.ref f3) = true)
    {f4 : Addr} {od4 an4 : Option Addr} {sl4 : Array (Option Value)} {oc4 kV4 dc4 pm4 cd4 ct4 : Value} (a4 : PySem.W.nsIn K mainGlobals "wrong_work" = some (some (.ref f4))) (l4 : K.lookup f4 = some ⟨oc4, od4, .func (PySem.W.fnOf "wrong_work" "wrong_work" (defArgs swrong_work) (defBody swrong_work) (defScope swrong_work) .none kV4 dc4 pm4 an4 cd4 ct4), sl4⟩) (c4 : PySem.W.codeIn K cd4 "wrong_work" = true) (k4 : PySem.W.keepIn K (.ref f4) = true)
    {f5 : Addr} {od5 an5 : Option Addr} {sl5 : Array (Option Value)} {oc5 kV5 dc5 pm5 cd5 ct5 : Value} (a5 : PySem.W.nsIn K mainGlobals "wrong_tie" = some (some (.ref f5))) (l5 : K.lookup f5 = some ⟨oc5, od5, .func (PySem.W.fnOf "wrong_tie" "wrong_tie" (defArgs swrong_tie) (defBody swrong_tie) (defScope swrong_tie) .none kV5 dc5 pm5 an5 cd5 ct5), sl5⟩) (c5 : PySem.W.codeIn K cd5 "wrong_tie" = true) (k5 : PySem.W.keepIn K (.ref f5) = true)
    {f6 : Addr} {od6 an6 : Option Addr} {sl6 : Array (Option Value)} {oc6 kV6 dc6 pm6 cd6 ct6 : Value} (a6 : PySem.W.nsIn K mainGlobals "good_row" = some (some (.ref f6))) (l6 : K.lookup f6 = some ⟨oc6, od6, .func (PySem.W.fnOf "good_row" "good_row" (defArgs sgood_row) (defBody sgood_row) (defScope sgood_row) .none kV6 dc6 pm6 an6 cd6 ct6), sl6⟩) (c6 : PySem.W.codeIn K cd6 "good_row" = true) (k6 : PySem.W.keepIn K (.ref f6) = true)
    {f7 : Addr} {od7 an7 : Option Addr} {sl7 : Array (Option Value)} {oc7 kV7 dc7 pm7 cd7 ct7 : Value} (a7 : PySem.W.nsIn K mainGlobals "good_work" = some (some (.ref f7))) (l7 : K.lookup f7 = some ⟨oc7, od7, .func (PySem.W.fnOf "good_work" "good_work" (defArgs sgood_work) (defBody sgood_work) (defScope sgood_work) .none kV7 dc7 pm7 an7 cd7 ct7), sl7⟩) (c7 : PySem.W.codeIn K cd7 "good_work" = true) (k7 : PySem.W.keepIn K (.ref f7) = true)
    {f8 : Addr} {od8 an8 : Option Addr} {sl8 : Array (Option Value)} {oc8 kV8 dc8 pm8 cd8 ct8 : Value} (a8 : PySem.W.nsIn K mainGlobals "good_way" = some (some (.ref f8))) (l8 : K.lookup f8 = some ⟨oc8, od8, .func (PySem.W.fnOf "good_way" "good_way" (defArgs sgood_way) (defBody sgood_way) (defScope sgood_way) .none kV8 dc8 pm8 an8 cd8 ct8), sl8⟩) (c8 : PySem.W.codeIn K cd8 "good_way" = true) (k8 : PySem.W.keepIn K (.ref f8) = true)
    {f9 : Addr} {od9 an9 : Option Addr} {sl9 : Array (Option Value)} {oc9 kV9 dc9 pm9 cd9 ct9 : Value} (a9 : PySem.W.nsIn K mainGlobals "good_tie" = some (some (.ref f9))) (l9 : K.lookup f9 = some ⟨oc9, od9, .func (PySem.W.fnOf "good_tie" "good_tie" (defArgs sgood_tie) (defBody sgood_tie) (defScope sgood_tie) .none kV9 dc9 pm9 an9 cd9 ct9), sl9⟩) (c9 : PySem.W.codeIn K cd9 "good_tie" = true) (k9 : PySem.W.keepIn K (.ref f9) = true)
    {f10 : Addr} {od10 an10 : Option Addr} {sl10 : Array (Option Value)} {oc10 kV10 dc10 pm10 cd10 ct10 : Value} (a10 : PySem.W.nsIn K mainGlobals "check_plan" = some (some (.ref f10))) (l10 : K.lookup f10 = some ⟨oc10, od10, .func (PySem.W.fnOf "check_plan" "check_plan" (defArgs scheck_plan) (defBody scheck_plan) (defScope scheck_plan) .none kV10 dc10 pm10 an10 cd10 ct10), sl10⟩) (c10 : PySem.W.codeIn K cd10 "check_plan" = true) (k10 : PySem.W.keepIn K (.ref f10) = true)
    {f11 : Addr} {od11 an11 : Option Addr} {sl11 : Array (Option Value)} {oc11 kV11 dc11 pm11 cd11 ct11 : Value} (a11 : PySem.W.nsIn K mainGlobals "opposite" = some (some (.ref f11))) (l11 : K.lookup f11 = some ⟨oc11, od11, .func (PySem.W.fnOf "opposite" "opposite" (defArgs sopposite) (defBody sopposite) (defScope sopposite) .none kV11 dc11 pm11 an11 cd11 ct11), sl11⟩) (c11 : PySem.W.codeIn K cd11 "opposite" = true) (k11 : PySem.W.keepIn K (.ref f11) = true)
    {f12 : Addr} {od12 an12 : Option Addr} {sl12 : Array (Option Value)} {oc12 kV12 dc12 pm12 cd12 ct12 : Value} (a12 : PySem.W.nsIn K mainGlobals "line" = some (some (.ref f12))) (l12 : K.lookup f12 = some ⟨oc12, od12, .func (PySem.W.fnOf "line" "line" (defArgs sline) (defBody sline) (defScope sline) .none kV12 dc12 pm12 an12 cd12 ct12), sl12⟩) (c12 : PySem.W.codeIn K cd12 "line" = true) (k12 : PySem.W.keepIn K (.ref f12) = true)
    {f13 D13 : Addr} {od13 an13 : Option Addr} {sl13 : Array (Option Value)} {oc13 dc13 pm13 cd13 ct13 : Value} (a13 : PySem.W.nsIn K mainGlobals "holds" = some (some (.ref f13))) (l13 : K.lookup f13 = some ⟨oc13, od13, .func (PySem.W.fnOf "holds" "holds" (defArgs sholds) (defBody sholds) (defScope sholds) .none (.ref D13) dc13 pm13 an13 cd13 ct13), sl13⟩) (c13 : PySem.W.codeIn K cd13 "holds" = true) (k13 : PySem.W.keepIn K (.ref f13) = true) {v13_kept : Addr} {o13_kept : Obj} {n13_kept : Nat} (q13_kept : PySem.W.nsIn K D13 "kept" = some (some (.ref v13_kept))) (q13_kept_l : K.lookup v13_kept = some o13_kept) (q13_kept_c : o13_kept.cls = .type "tuple") (q13_kept_d : o13_kept.data = .seq #[] n13_kept)
    {f14 : Addr} {od14 an14 : Option Addr} {sl14 : Array (Option Value)} {oc14 kV14 dc14 pm14 cd14 ct14 : Value} (a14 : PySem.W.nsIn K mainGlobals "check_sayings" = some (some (.ref f14))) (l14 : K.lookup f14 = some ⟨oc14, od14, .func (PySem.W.fnOf "check_sayings" "check_sayings" (defArgs scheck_sayings) (defBody scheck_sayings) (defScope scheck_sayings) .none kV14 dc14 pm14 an14 cd14 ct14), sl14⟩) (c14 : PySem.W.codeIn K cd14 "check_sayings" = true) (k14 : PySem.W.keepIn K (.ref f14) = true)
    {f15 : Addr} {od15 an15 : Option Addr} {sl15 : Array (Option Value)} {oc15 kV15 dc15 pm15 cd15 ct15 : Value} (a15 : PySem.W.nsIn K mainGlobals "is_saying" = some (some (.ref f15))) (l15 : K.lookup f15 = some ⟨oc15, od15, .func (PySem.W.fnOf "is_saying" "is_saying" (defArgs sis_saying) (defBody sis_saying) (defScope sis_saying) .none kV15 dc15 pm15 an15 cd15 ct15), sl15⟩) (c15 : PySem.W.codeIn K cd15 "is_saying" = true) (k15 : PySem.W.keepIn K (.ref f15) = true)
    {f16 : Addr} {od16 an16 : Option Addr} {sl16 : Array (Option Value)} {oc16 kV16 dc16 pm16 cd16 ct16 : Value} (a16 : PySem.W.nsIn K mainGlobals "turned" = some (some (.ref f16))) (l16 : K.lookup f16 = some ⟨oc16, od16, .func (PySem.W.fnOf "turned" "turned" (defArgs sturned) (defBody sturned) (defScope sturned) .none kV16 dc16 pm16 an16 cd16 ct16), sl16⟩) (c16 : PySem.W.codeIn K cd16 "turned" = true) (k16 : PySem.W.keepIn K (.ref f16) = true)
    {f17 : Addr} {od17 an17 : Option Addr} {sl17 : Array (Option Value)} {oc17 kV17 dc17 pm17 cd17 ct17 : Value} (a17 : PySem.W.nsIn K mainGlobals "ordered" = some (some (.ref f17))) (l17 : K.lookup f17 = some ⟨oc17, od17, .func (PySem.W.fnOf "ordered" "ordered" (defArgs sordered) (defBody sordered) (defScope sordered) .none kV17 dc17 pm17 an17 cd17 ct17), sl17⟩) (c17 : PySem.W.codeIn K cd17 "ordered" = true) (k17 : PySem.W.keepIn K (.ref f17) = true)
    {f18 : Addr} {od18 an18 : Option Addr} {sl18 : Array (Option Value)} {oc18 kV18 dc18 pm18 cd18 ct18 : Value} (a18 : PySem.W.nsIn K mainGlobals "holds_of" = some (some (.ref f18))) (l18 : K.lookup f18 = some ⟨oc18, od18, .func (PySem.W.fnOf "holds_of" "holds_of" (defArgs sholds_of) (defBody sholds_of) (defScope sholds_of) .none kV18 dc18 pm18 an18 cd18 ct18), sl18⟩) (c18 : PySem.W.codeIn K cd18 "holds_of" = true) (k18 : PySem.W.keepIn K (.ref f18) = true)
    {f19 : Addr} {od19 an19 : Option Addr} {sl19 : Array (Option Value)} {oc19 kV19 dc19 pm19 cd19 ct19 : Value} (a19 : PySem.W.nsIn K mainGlobals "_law_open" = some (some (.ref f19))) (l19 : K.lookup f19 = some ⟨oc19, od19, .func (PySem.W.fnOf "_law_open" "_law_open" (defArgs s_law_open) (defBody s_law_open) (defScope s_law_open) .none kV19 dc19 pm19 an19 cd19 ct19), sl19⟩) (c19 : PySem.W.codeIn K cd19 "_law_open" = true) (k19 : PySem.W.keepIn K (.ref f19) = true)
    {f20 : Addr} {od20 an20 : Option Addr} {sl20 : Array (Option Value)} {oc20 kV20 dc20 pm20 cd20 ct20 : Value} (a20 : PySem.W.nsIn K mainGlobals "_law_pull" = some (some (.ref f20))) (l20 : K.lookup f20 = some ⟨oc20, od20, .func (PySem.W.fnOf "_law_pull" "_law_pull" (defArgs s_law_pull) (defBody s_law_pull) (defScope s_law_pull) .none kV20 dc20 pm20 an20 cd20 ct20), sl20⟩) (c20 : PySem.W.codeIn K cd20 "_law_pull" = true) (k20 : PySem.W.keepIn K (.ref f20) = true)
    {f21 : Addr} {od21 an21 : Option Addr} {sl21 : Array (Option Value)} {oc21 kV21 dc21 pm21 cd21 ct21 : Value} (a21 : PySem.W.nsIn K mainGlobals "_law_num" = some (some (.ref f21))) (l21 : K.lookup f21 = some ⟨oc21, od21, .func (PySem.W.fnOf "_law_num" "_law_num" (defArgs s_law_num) (defBody s_law_num) (defScope s_law_num) .none kV21 dc21 pm21 an21 cd21 ct21), sl21⟩) (c21 : PySem.W.codeIn K cd21 "_law_num" = true) (k21 : PySem.W.keepIn K (.ref f21) = true)
    {f22 : Addr} {od22 an22 : Option Addr} {sl22 : Array (Option Value)} {oc22 kV22 dc22 pm22 cd22 ct22 : Value} (a22 : PySem.W.nsIn K mainGlobals "_law_like" = some (some (.ref f22))) (l22 : K.lookup f22 = some ⟨oc22, od22, .func (PySem.W.fnOf "_law_like" "_law_like" (defArgs s_law_like) (defBody s_law_like) (defScope s_law_like) .none kV22 dc22 pm22 an22 cd22 ct22), sl22⟩) (c22 : PySem.W.codeIn K cd22 "_law_like" = true) (k22 : PySem.W.keepIn K (.ref f22) = true)
    {f23 : Addr} {od23 an23 : Option Addr} {sl23 : Array (Option Value)} {oc23 kV23 dc23 pm23 cd23 ct23 : Value} (a23 : PySem.W.nsIn K mainGlobals "_law_far" = some (some (.ref f23))) (l23 : K.lookup f23 = some ⟨oc23, od23, .func (PySem.W.fnOf "_law_far" "_law_far" (defArgs s_law_far) (defBody s_law_far) (defScope s_law_far) .none kV23 dc23 pm23 an23 cd23 ct23), sl23⟩) (c23 : PySem.W.codeIn K cd23 "_law_far" = true) (k23 : PySem.W.keepIn K (.ref f23) = true)
    {f24 : Addr} {od24 an24 : Option Addr} {sl24 : Array (Option Value)} {oc24 kV24 dc24 pm24 cd24 ct24 : Value} (a24 : PySem.W.nsIn K mainGlobals "_law_good_row" = some (some (.ref f24))) (l24 : K.lookup f24 = some ⟨oc24, od24, .func (PySem.W.fnOf "_law_good_row" "_law_good_row" (defArgs s_law_good_row) (defBody s_law_good_row) (defScope s_law_good_row) .none kV24 dc24 pm24 an24 cd24 ct24), sl24⟩) (c24 : PySem.W.codeIn K cd24 "_law_good_row" = true) (k24 : PySem.W.keepIn K (.ref f24) = true)
    {f25 : Addr} {od25 an25 : Option Addr} {sl25 : Array (Option Value)} {oc25 kV25 dc25 pm25 cd25 ct25 : Value} (a25 : PySem.W.nsIn K mainGlobals "_law_mode" = some (some (.ref f25))) (l25 : K.lookup f25 = some ⟨oc25, od25, .func (PySem.W.fnOf "_law_mode" "_law_mode" (defArgs s_law_mode) (defBody s_law_mode) (defScope s_law_mode) .none kV25 dc25 pm25 an25 cd25 ct25), sl25⟩) (c25 : PySem.W.codeIn K cd25 "_law_mode" = true) (k25 : PySem.W.keepIn K (.ref f25) = true)
    {f26 : Addr} {od26 an26 : Option Addr} {sl26 : Array (Option Value)} {oc26 kV26 dc26 pm26 cd26 ct26 : Value} (a26 : PySem.W.nsIn K mainGlobals "_law_job" = some (some (.ref f26))) (l26 : K.lookup f26 = some ⟨oc26, od26, .func (PySem.W.fnOf "_law_job" "_law_job" (defArgs s_law_job) (defBody s_law_job) (defScope s_law_job) .none kV26 dc26 pm26 an26 cd26 ct26), sl26⟩) (c26 : PySem.W.codeIn K cd26 "_law_job" = true) (k26 : PySem.W.keepIn K (.ref f26) = true)
    {f27 : Addr} {od27 an27 : Option Addr} {sl27 : Array (Option Value)} {oc27 kV27 dc27 pm27 cd27 ct27 : Value} (a27 : PySem.W.nsIn K mainGlobals "_law_link" = some (some (.ref f27))) (l27 : K.lookup f27 = some ⟨oc27, od27, .func (PySem.W.fnOf "_law_link" "_law_link" (defArgs s_law_link) (defBody s_law_link) (defScope s_law_link) .none kV27 dc27 pm27 an27 cd27 ct27), sl27⟩) (c27 : PySem.W.codeIn K cd27 "_law_link" = true) (k27 : PySem.W.keepIn K (.ref f27) = true)
    {f28 : Addr} {od28 an28 : Option Addr} {sl28 : Array (Option Value)} {oc28 kV28 dc28 pm28 cd28 ct28 : Value} (a28 : PySem.W.nsIn K mainGlobals "_law_closed" = some (some (.ref f28))) (l28 : K.lookup f28 = some ⟨oc28, od28, .func (PySem.W.fnOf "_law_closed" "_law_closed" (defArgs s_law_closed) (defBody s_law_closed) (defScope s_law_closed) .none kV28 dc28 pm28 an28 cd28 ct28), sl28⟩) (c28 : PySem.W.codeIn K cd28 "_law_closed" = true) (k28 : PySem.W.keepIn K (.ref f28) = true)
    {f29 : Addr} {od29 an29 : Option Addr} {sl29 : Array (Option Value)} {oc29 kV29 dc29 pm29 cd29 ct29 : Value} (a29 : PySem.W.nsIn K mainGlobals "_law_net" = some (some (.ref f29))) (l29 : K.lookup f29 = some ⟨oc29, od29, .func (PySem.W.fnOf "_law_net" "_law_net" (defArgs s_law_net) (defBody s_law_net) (defScope s_law_net) .none kV29 dc29 pm29 an29 cd29 ct29), sl29⟩) (c29 : PySem.W.codeIn K cd29 "_law_net" = true) (k29 : PySem.W.keepIn K (.ref f29) = true)
    {f30 : Addr} {od30 an30 : Option Addr} {sl30 : Array (Option Value)} {oc30 kV30 dc30 pm30 cd30 ct30 : Value} (a30 : PySem.W.nsIn K mainGlobals "_law_saying" = some (some (.ref f30))) (l30 : K.lookup f30 = some ⟨oc30, od30, .func (PySem.W.fnOf "_law_saying" "_law_saying" (defArgs s_law_saying) (defBody s_law_saying) (defScope s_law_saying) .none kV30 dc30 pm30 an30 cd30 ct30), sl30⟩) (c30 : PySem.W.codeIn K cd30 "_law_saying" = true) (k30 : PySem.W.keepIn K (.ref f30) = true)
    {f31 : Addr} {od31 an31 : Option Addr} {sl31 : Array (Option Value)} {oc31 kV31 dc31 pm31 cd31 ct31 : Value} (a31 : PySem.W.nsIn K mainGlobals "_law_bent_saying" = some (some (.ref f31))) (l31 : K.lookup f31 = some ⟨oc31, od31, .func (PySem.W.fnOf "_law_bent_saying" "_law_bent_saying" (defArgs s_law_bent_saying) (defBody s_law_bent_saying) (defScope s_law_bent_saying) .none kV31 dc31 pm31 an31 cd31 ct31), sl31⟩) (c31 : PySem.W.codeIn K cd31 "_law_bent_saying" = true) (k31 : PySem.W.keepIn K (.ref f31) = true)
    {f32 : Addr} {od32 an32 : Option Addr} {sl32 : Array (Option Value)} {oc32 kV32 dc32 pm32 cd32 ct32 : Value} (a32 : PySem.W.nsIn K mainGlobals "_law_saying_good" = some (some (.ref f32))) (l32 : K.lookup f32 = some ⟨oc32, od32, .func (PySem.W.fnOf "_law_saying_good" "_law_saying_good" (defArgs s_law_saying_good) (defBody s_law_saying_good) (defScope s_law_saying_good) .none kV32 dc32 pm32 an32 cd32 ct32), sl32⟩) (c32 : PySem.W.codeIn K cd32 "_law_saying_good" = true) (k32 : PySem.W.keepIn K (.ref f32) = true)
    {f33 : Addr} {od33 an33 : Option Addr} {sl33 : Array (Option Value)} {oc33 kV33 dc33 pm33 cd33 ct33 : Value} (a33 : PySem.W.nsIn K mainGlobals "_law_spot" = some (some (.ref f33))) (l33 : K.lookup f33 = some ⟨oc33, od33, .func (PySem.W.fnOf "_law_spot" "_law_spot" (defArgs s_law_spot) (defBody s_law_spot) (defScope s_law_spot) .none kV33 dc33 pm33 an33 cd33 ct33), sl33⟩) (c33 : PySem.W.codeIn K cd33 "_law_spot" = true) (k33 : PySem.W.keepIn K (.ref f33) = true)
    {f34 cL PL : Addr} {clL : Value} {cdL : Option Addr} {vsL : Array Value} {csL : Array (Option Value)} {od34 an34 : Option Addr} {sl34 : Array (Option Value)} {oc34 kV34 dc34 pm34 ct34 : Value} (a34 : PySem.W.nsIn K mainGlobals "law" = some (some (.ref f34))) (l34 : K.lookup f34 = some ⟨oc34, od34, .func (PySem.W.fnOf "law" "law" (defArgs slaw) (defBody slaw) (defScope slaw) .none kV34 dc34 pm34 an34 (.ref cL) ct34), sl34⟩) (c34 : PySem.W.codeIn K (.ref cL) "law" = true) (k34 : PySem.W.keepIn K (.ref f34) = true) (tL : K.lookup cL = some ⟨clL, cdL, .fields vsL, csL⟩) (tL2 : vsL[11]? = some (.ref PL)) (tL3 : K.lookup PL = none)
    {C0 : Addr} (xa0 : PySem.W.nsIn K mainGlobals "BadSaying" = some (some (.ref C0))) {fI0 cc0 cd_0 N0 : Addr} {nm0 qn0 fi0 : Str} {bs0 bm0 sub0 : List Value} {sn0 : List Str} {ab0 : Bool} {col0 : Option Bool} {dd0 : Option Addr} {k0_0 k1_0 k2_0 k3_0 k5_0 : Option Value} {xkV0 xdoc0 xpm0 xct0 xoc0 cl0 ccl0 : Value} {xan0 xod0 cld0 cdd0 : Option Addr} {xosl0 csl0 ccs0 : Array (Option Value)} {vs0 : Array Value} {tf0 : Tok} (xl0 : K.lookup C0 = some (excClassObj nm0 qn0 C0 N0 bs0 bm0 true sn0 sub0 ab0 col0 dd0 k0_0 k1_0 k2_0 k3_0 k5_0 "ValueError.__new__")) (xr0 : HandSPX.refsVE bm0 = true) (xs0 : PySem.W.findIn K (.ref C0) "__setattr__" = some (some (.builtin "object.__setattr__"))) (xe0 : PySem.W.subIn K (.ref C0) (.type "BaseException") = some true) (xt0 : PySem.W.typeIn K (.ref C0) = some (.type "type")) (xk0 : PySem.W.keepIn K (.ref C0) = true) (xi0 : PySem.W.findIn K (.ref C0) "__init__" = some (some (.ref fI0))) (xti0 : PySem.W.typeIn K (.ref fI0) = some (.type "function")) (xlk0 : K.lookup fI0 = some ⟨xoc0, xod0, .func (PySem.W.fnX "__init__" "BadSaying.__init__" (defArgs iBadSaying) (defBody iBadSaying) (defScope iBadSaying) [("__class__", cc0)] .none xkV0 xdoc0 xpm0 xan0 (.ref cd_0) xct0), xosl0⟩) (xc0 : K.lookup cc0 = some ⟨cl0, cld0, .cell (some (.ref C0)), csl0⟩) (xco0 : PySem.W.codeIn K (.ref cd_0) "BadSaying.__init__" = true) (xf0 : K.lookup cd_0 = some ⟨ccl0, cdd0, .fields vs0, ccs0⟩) (xg0 : vs0[2]? = some (.str fi0 tf0)) (xh0 : ((l.prog.main.file : Str) == fi0) = true) (xp0 : PySem.W.ks_superIn K C0 C0 "__init__" = some (some (.builtin "ValueError.__init__"))) (xo0 : PySem.W.mroIn K C0 (.ref C0) = some true) (xv0 : PySem.W.subIn K (.ref C0) (.type "ValueError") = some true) (xga0 : PySem.W.findIn K (.ref C0) "__getattribute__" = some (some (.builtin "BaseException.__getattribute__"))) (xgg0 : PySem.W.findIn K (.ref C0) "__getattr__" = some none) (xhd0 : PySem.W.hasDictIn K C0 = true) (xw0_word : PySem.W.findIn K (.ref C0) "word" = some none) (xw0_at : PySem.W.findIn K (.ref C0) "at" = some none)
    (xtop : (l.prog.main.scope.names.lookup ("super" : Str)).isSome = false) (xopq : PySem.W.nsIn K cStatics "thirdparty.any" = some none) (xx0_0 : PySem.W.exmOne K (.ref C0) (.ref C0) = some true)
    (zlen : PySem.W.nsIn K mainGlobals "len" = some none)
    (zlist : PySem.W.nsIn K mainGlobals "list" = some none)
    (ztuple : PySem.W.nsIn K mainGlobals "tuple" = some none)
    (zrange : PySem.W.nsIn K mainGlobals "range" = some none)
    (zenumerate : PySem.W.nsIn K mainGlobals "enumerate" = some none)
    (zisinstance : PySem.W.nsIn K mainGlobals "isinstance" = some none)
    (zint : PySem.W.nsIn K mainGlobals "int" = some none)
    (zbool : PySem.W.nsIn K mainGlobals "bool" = some none)
    (zstr : PySem.W.nsIn K mainGlobals "str" = some none)
    (zall : PySem.W.nsIn K mainGlobals "all" = some none)
    (zmin : PySem.W.nsIn K mainGlobals "min" = some none)
    (zmax : PySem.W.nsIn K mainGlobals "max" = some none)
    (zsum : PySem.W.nsIn K mainGlobals "sum" = some none)
    (zany : PySem.W.nsIn K mainGlobals "any" = some none)
    (zsorted : PySem.W.nsIn K mainGlobals "sorted" = some none)
    (zset : PySem.W.nsIn K mainGlobals "set" = some none)
    (zsuper : PySem.W.nsIn K mainGlobals "super" = some none)
    {tMOST_DAYS : Tok} (nMOST_DAYS : PySem.W.nsIn K mainGlobals "MOST_DAYS" = some (some (.int 20 tMOST_DAYS)))
    {tMOST_STUFFS : Tok} (nMOST_STUFFS : PySem.W.nsIn K mainGlobals "MOST_STUFFS" = some (some (.int 3 tMOST_STUFFS)))
    {tMOST_WORKS : Tok} (nMOST_WORKS : PySem.W.nsIn K mainGlobals "MOST_WORKS" = some (some (.int 6 tMOST_WORKS)))
    {tMOST_WAYS : Tok} (nMOST_WAYS : PySem.W.nsIn K mainGlobals "MOST_WAYS" = some (some (.int 3 tMOST_WAYS)))
    {tMOST_TIES : Tok} (nMOST_TIES : PySem.W.nsIn K mainGlobals "MOST_TIES" = some (some (.int 12 tMOST_TIES)))
    {tMOST_LONG : Tok} (nMOST_LONG : PySem.W.nsIn K mainGlobals "MOST_LONG" = some (some (.int 9 tMOST_LONG)))
    {tMOST_MANY : Tok} (nMOST_MANY : PySem.W.nsIn K mainGlobals "MOST_MANY" = some (some (.int 9 tMOST_MANY)))
    {tMOST_GAP : Tok} (nMOST_GAP : PySem.W.nsIn K mainGlobals "MOST_GAP" = some (some (.int 20 tMOST_GAP)))
    {tSTART : Tok} (nSTART : PySem.W.nsIn K mainGlobals "START" = some (some (.int 0 tSTART)))
    {tEND : Tok} (nEND : PySem.W.nsIn K mainGlobals "END" = some (some (.int 1 tEND)))
    {d_OPPOSITES : Addr} {es_OPPOSITES : Array DictEntry} {n_OPPOSITES : Nat} (a_OPPOSITES : PySem.W.nsIn K mainGlobals "OPPOSITES" = some (some (.ref d_OPPOSITES))) (l_OPPOSITES : K.lookup d_OPPOSITES = some ⟨.type "dict", none, .dict es_OPPOSITES n_OPPOSITES, #[]⟩) (k_OPPOSITES : PySem.W.KeysLit w.params es_OPPOSITES.toList) (s_OPPOSITES : (d_OPPOSITES == sysModules) = false) {tu_OPPOSITES_0 : Tok} (y_OPPOSITES_0 : PySem.W.nsIn K d_OPPOSITES "from" = some (some (.str "ahead" tu_OPPOSITES_0))) {tu_OPPOSITES_1 : Tok} (y_OPPOSITES_1 : PySem.W.nsIn K d_OPPOSITES "ahead" = some (some (.str "from" tu_OPPOSITES_1))) {tu_OPPOSITES_2 : Tok} (y_OPPOSITES_2 : PySem.W.nsIn K d_OPPOSITES "way" = some (some (.str "not" tu_OPPOSITES_2))) {tu_OPPOSITES_3 : Tok} (y_OPPOSITES_3 : PySem.W.nsIn K d_OPPOSITES "not" = some (some (.str "way" tu_OPPOSITES_3))) {tu_OPPOSITES_4 : Tok} (y_OPPOSITES_4 : PySem.W.nsIn K d_OPPOSITES "stays" = some (some (.str "moves" tu_OPPOSITES_4))) {tu_OPPOSITES_5 : Tok} (y_OPPOSITES_5 : PySem.W.nsIn K d_OPPOSITES "moves" = some (some (.str "stays" tu_OPPOSITES_5))) (x_OPPOSITES_0 : PySem.W.nsIn K d_OPPOSITES "From" = some none) (x_OPPOSITES_1 : PySem.W.nsIn K d_OPPOSITES "" = some none)
    : ∃ (c P : Addr) (fd : FuncData), PySem.W.tabIn K "law" = some (c, P) ∧ K.lookup P = none ∧ (∀ (s : Shared) (v : Value), BindsTo s fd ⟨[v], []⟩ [("_law_script", v)]) ∧ ∀ base : Heap, K.In base → base.Ns mainGlobals mg → LamX.TabB base mg c P → FnOk l.prog w K mg base CX0 12 fa fd ["_law_script"] (spLawT K P) := by
  have e := hfa.symm.trans (PySem.W.mg_of X G a34)
  cases e
  have R_check_yard := raw_mk (ps := pscheck_yard) X G a0 l0 c0 k0 fun _ _ _ _ _ _ us hl => match us, hl with | [_], _ => rfl
  have R_first_wrong := raw_mk (ps := psfirst_wrong) X G a1 l1 c1 k1 fun _ _ _ _ _ _ us hl => match us, hl with | [_], _ => rfl
  have R_wrong_shut := raw_mk (ps := pswrong_shut) X G a2 l2 c2 k2 fun _ _ _ _ _ _ us hl => match us, hl with | [_, _], _ => rfl
  have R_wrong_stuff := raw_mk (ps := pswrong_stuff) X G a3 l3 c3 k3 fun _ _ _ _ _ _ us hl => match us, hl with | [_, _], _ => rfl
  have R_wrong_work := raw_mk (ps := pswrong_work) X G a4 l4 c4 k4 fun _ _ _ _ _ _ us hl => match us, hl with | [_, _, _], _ => rfl
  have R_wrong_tie := raw_mk (ps := pswrong_tie) X G a5 l5 c5 k5 fun _ _ _ _ _ _ us hl => match us, hl with | [_, _], _ => rfl
  have R_good_row := raw_mk (ps := psgood_row) X G a6 l6 c6 k6 fun _ _ _ _ _ _ us hl => match us, hl with | [_, _], _ => rfl
  have R_good_work := raw_mk (ps := psgood_work) X G a7 l7 c7 k7 fun _ _ _ _ _ _ us hl => match us, hl with | [_, _, _], _ => rfl
  have R_good_way := raw_mk (ps := psgood_way) X G a8 l8 c8 k8 fun _ _ _ _ _ _ us hl => match us, hl with | [_, _], _ => rfl
  have R_good_tie := raw_mk (ps := psgood_tie) X G a9 l9 c9 k9 fun _ _ _ _ _ _ us hl => match us, hl with | [_, _], _ => rfl
  have R_check_plan := raw_mk (ps := pscheck_plan) X G a10 l10 c10 k10 fun _ _ _ _ _ _ us hl => match us, hl with | [_, _], _ => rfl
  have R_opposite := raw_mk (ps := psopposite) X G a11 l11 c11 k11 fun _ _ _ _ _ _ us hl => match us, hl with | [_, _], _ => rfl
  have R_line := raw_mk (ps := psline) X G a12 l12 c12 k12 fun _ _ _ _ _ _ us hl => match us, hl with | [_, _], _ => rfl
  have F_holds := fun_mk (st := sholds) l13 c13 k13
  have g_holds := PySem.W.mg_of X G a13
  have FD_holds := funD_mk (st := sholds) (kws := [(("kept" : Str), V.ref v13_kept)]) l13 c13 k13 fun q hq => by
    rcases (show q = (("kept" : Str), V.ref v13_kept) by simpa using hq) with rfl
    · exact ⟨_, q13_kept, rfl⟩
  have R_check_sayings := raw_mk (ps := pscheck_sayings) X G a14 l14 c14 k14 fun _ _ _ _ _ _ us hl => match us, hl with | [_, _], _ => rfl
  have R_is_saying := raw_mk (ps := psis_saying) X G a15 l15 c15 k15 fun _ _ _ _ _ _ us hl => match us, hl with | [_, _], _ => rfl
  have R_turned := raw_mk (ps := psturned) X G a16 l16 c16 k16 fun _ _ _ _ _ _ us hl => match us, hl with | [_], _ => rfl
  have R_ordered := raw_mk (ps := psordered) X G a17 l17 c17 k17 fun _ _ _ _ _ _ us hl => match us, hl with | [_], _ => rfl
  have R_holds_of := raw_mk (ps := psholds_of) X G a18 l18 c18 k18 fun _ _ _ _ _ _ us hl => match us, hl with | [_, _, _], _ => rfl
  have R__law_open := raw_mk (ps := ps_law_open) X G a19 l19 c19 k19 fun _ _ _ _ _ _ us hl => match us, hl with | [_], _ => rfl
  have R__law_pull := raw_mk (ps := ps_law_pull) X G a20 l20 c20 k20 fun _ _ _ _ _ _ us hl => match us, hl with | [_, _], _ => rfl
  have R__law_num := raw_mk (ps := ps_law_num) X G a21 l21 c21 k21 fun _ _ _ _ _ _ us hl => match us, hl with | [_], _ => rfl
  have R__law_like := raw_mk (ps := ps_law_like) X G a22 l22 c22 k22 fun _ _ _ _ _ _ us hl => match us, hl with | [_, _], _ => rfl
  have R__law_far := raw_mk (ps := ps_law_far) X G a23 l23 c23 k23 fun _ _ _ _ _ _ us hl => match us, hl with | [_], _ => rfl
  have R__law_good_row := raw_mk (ps := ps_law_good_row) X G a24 l24 c24 k24 fun _ _ _ _ _ _ us hl => match us, hl with | [_, _], _ => rfl
  have R__law_mode := raw_mk (ps := ps_law_mode) X G a25 l25 c25 k25 fun _ _ _ _ _ _ us hl => match us, hl with | [_, _, _], _ => rfl
  have R__law_job := raw_mk (ps := ps_law_job) X G a26 l26 c26 k26 fun _ _ _ _ _ _ us hl => match us, hl with | [_, _, _, _], _ => rfl
  have R__law_link := raw_mk (ps := ps_law_link) X G a27 l27 c27 k27 fun _ _ _ _ _ _ us hl => match us, hl with | [_, _], _ => rfl
  have R__law_closed := raw_mk (ps := ps_law_closed) X G a28 l28 c28 k28 fun _ _ _ _ _ _ us hl => match us, hl with | [_, _], _ => rfl
  have R__law_net := raw_mk (ps := ps_law_net) X G a29 l29 c29 k29 fun _ _ _ _ _ _ us hl => match us, hl with | [_, _, _, _, _, _], _ => rfl
  have R__law_saying := raw_mk (ps := ps_law_saying) X G a30 l30 c30 k30 fun _ _ _ _ _ _ us hl => match us, hl with | [_, _], _ => rfl
  have R__law_bent_saying := raw_mk (ps := ps_law_bent_saying) X G a31 l31 c31 k31 fun _ _ _ _ _ _ us hl => match us, hl with | [_, _, _], _ => rfl
  have R__law_saying_good := raw_mk (ps := ps_law_saying_good) X G a32 l32 c32 k32 fun _ _ _ _ _ _ us hl => match us, hl with | [_, _], _ => rfl
  have R__law_spot := raw_mk (ps := ps_law_spot) X G a33 l33 c33 k33 fun _ _ _ _ _ _ us hl => match us, hl with | [_], _ => rfl
  have m_len := PySem.W.mg_none_of X G zlen
  have m_list := PySem.W.mg_none_of X G zlist
  have m_tuple := PySem.W.mg_none_of X G ztuple
  have m_range := PySem.W.mg_none_of X G zrange
  have m_enumerate := PySem.W.mg_none_of X G zenumerate
  have m_isinstance := PySem.W.mg_none_of X G zisinstance
  have m_int := PySem.W.mg_none_of X G zint
  have m_bool := PySem.W.mg_none_of X G zbool
  have m_str := PySem.W.mg_none_of X G zstr
  have m_all := PySem.W.mg_none_of X G zall
  have m_min := PySem.W.mg_none_of X G zmin
  have m_max := PySem.W.mg_none_of X G zmax
  have m_sum := PySem.W.mg_none_of X G zsum
  have m_any := PySem.W.mg_none_of X G zany
  have m_sorted := PySem.W.mg_none_of X G zsorted
  have m_set := PySem.W.mg_none_of X G zset
  have m_super := PySem.W.mg_none_of X G zsuper
  have mc_MOST_DAYS := PySem.W.mg_of X G nMOST_DAYS
  have mc_MOST_STUFFS := PySem.W.mg_of X G nMOST_STUFFS
  have mc_MOST_WORKS := PySem.W.mg_of X G nMOST_WORKS
  have mc_MOST_WAYS := PySem.W.mg_of X G nMOST_WAYS
  have mc_MOST_TIES := PySem.W.mg_of X G nMOST_TIES
  have mc_MOST_LONG := PySem.W.mg_of X G nMOST_LONG
  have mc_MOST_MANY := PySem.W.mg_of X G nMOST_MANY
  have mc_MOST_GAP := PySem.W.mg_of X G nMOST_GAP
  have mc_START := PySem.W.mg_of X G nSTART
  have mc_END := PySem.W.mg_of X G nEND
  have m_OPPOSITES := PySem.W.mg_of X G a_OPPOSITES
  have D_OPPOSITES : KD K w d_OPPOSITES wordsL := ⟨⟨_, _, l_OPPOSITES, k_OPPOSITES, s_OPPOSITES⟩, fun z hz => by
    rcases (show z = "from" ∨ z = "ahead" ∨ z = "way" ∨ z = "not" ∨ z = "stays" ∨ z = "moves" by simpa [wordsL] using hz) with rfl | rfl | rfl | rfl | rfl | rfl
    · exact ⟨_, y_OPPOSITES_0⟩
    · exact ⟨_, y_OPPOSITES_1⟩
    · exact ⟨_, y_OPPOSITES_2⟩
    · exact ⟨_, y_OPPOSITES_3⟩
    · exact ⟨_, y_OPPOSITES_4⟩
    · exact ⟨_, y_OPPOSITES_5⟩⟩
  have D2_OPPOSITES : KD2 K w d_OPPOSITES wordsL ["From", ""] := ⟨D_OPPOSITES.dict, D_OPPOSITES.keys, fun z hz => by
    rcases (show z = "From" ∨ z = "" by simpa using hz) with rfl | rfl
    · exact x_OPPOSITES_0
    · exact x_OPPOSITES_1⟩
  have T_OPPOSITES : KTx K w d_OPPOSITES oppF := ⟨fun z z2 h => by
    have m := PySem.mem_of_lookup h
    simp only [List.mem_cons, Prod.mk.injEq, List.not_mem_nil, or_false] at m
    rcases m with ⟨rfl, rfl⟩ | ⟨rfl, rfl⟩ | ⟨rfl, rfl⟩ | ⟨rfl, rfl⟩ | ⟨rfl, rfl⟩ | ⟨rfl, rfl⟩
    · exact ⟨_, _, _, l_OPPOSITES, k_OPPOSITES, y_OPPOSITES_0, ⟨_, rfl⟩⟩
    · exact ⟨_, _, _, l_OPPOSITES, k_OPPOSITES, y_OPPOSITES_1, ⟨_, rfl⟩⟩
    · exact ⟨_, _, _, l_OPPOSITES, k_OPPOSITES, y_OPPOSITES_2, ⟨_, rfl⟩⟩
    · exact ⟨_, _, _, l_OPPOSITES, k_OPPOSITES, y_OPPOSITES_3, ⟨_, rfl⟩⟩
    · exact ⟨_, _, _, l_OPPOSITES, k_OPPOSITES, y_OPPOSITES_4, ⟨_, rfl⟩⟩
    · exact ⟨_, _, _, l_OPPOSITES, k_OPPOSITES, y_OPPOSITES_5, ⟨_, rfl⟩⟩⟩
  refine ⟨cL, PL, PySem.W.fnOf "law" "law" (defArgs slaw) (defBody slaw) (defScope slaw) .none kV34 dc34 pm34 an34 (.ref cL) ct34, ?_, tL3, fun s v => .of_eq rfl, fun base _ _ TB => ?_⟩
  · unfold PySem.W.tabIn; rw [a34]; dsimp only; rw [l34]; dsimp only [PySem.W.fnOf]; rw [tL]; dsimp only; rw [tL2]
  have xm0 := PySem.W.mg_of X G xa0
  have X_BadSaying := x_BadSaying (P := l.prog) (w := w) (base := base) xm0 ⟨⟨_, _, _, _, _, _, _, _, _, _, _, _, _, _, _, xl0, xr0⟩, xs0, xe0, xt0, xk0⟩ xi0 xti0 xlk0 ⟨⟨_, _, _, xc0⟩, xco0, ⟨_, _, _, _, _, _, xf0, xg0, xh0⟩, xtop, xp0, xopq, xo0, xv0, rfl, rfl, rfl⟩ m_super xw0_word xw0_at
  have mc_BadSaying : mg "BadSaying" = some (.ref (ctOf mg "BadSaying")) := by rw [ct_of xm0]; exact xm0
  have T : ExTab K mg CL17 HL17 sub17 := ⟨fun x fs h => by
    simp only [CL17, List.mem_cons, Prod.mk.injEq, List.not_mem_nil, or_false] at h
    rcases h with ⟨rfl, rfl⟩
    · rw [ct_of xm0]; exact ⟨⟨xga0, xgg0, xe0, xhd0⟩, fun f hf => by simp only [List.mem_cons, List.not_mem_nil, or_false] at hf; rcases hf with rfl | rfl <;> assumption⟩, fun x fs y h h2 => by
    simp only [CL17, List.mem_cons, Prod.mk.injEq, List.not_mem_nil, or_false] at h
    simp only [HL17, List.mem_cons, List.not_mem_nil, or_false] at h2
    rcases h with ⟨rfl, rfl⟩
    · rcases h2 with rfl
      · rw [ct_of xm0]; exact xx0_0.trans (congrArg some (by decide +kernel))⟩
  have Bq : Bl mg := ⟨m_len, m_list, m_tuple, m_range, m_enumerate, m_isinstance, m_int, m_bool, m_str, m_all, m_min, m_max, m_sum⟩
  have Cq : Cs mg := ⟨⟨_, mc_MOST_DAYS⟩, ⟨_, mc_MOST_STUFFS⟩, ⟨_, mc_MOST_WORKS⟩, ⟨_, mc_MOST_WAYS⟩, ⟨_, mc_MOST_TIES⟩, ⟨_, mc_MOST_LONG⟩, ⟨_, mc_MOST_MANY⟩, ⟨_, mc_MOST_GAP⟩, ⟨_, mc_START⟩, ⟨_, mc_END⟩⟩
  have Dpull := d_pull (P := l.prog) (w := w) (base := base) (k := 0) R__law_pull m_len
  have Drow := d_good_row (P := l.prog) (w := w) (base := base) Bq Cq R_good_row
  have Dyard := d_check_yard Bq Cq R_check_yard (d_first_wrong Bq Cq R_first_wrong (d_wrong_shut Bq Cq R_wrong_shut) (d_wrong_stuff Bq Cq R_wrong_stuff Drow) (d_wrong_work Bq Cq R_wrong_work (d_good_work Bq Cq R_good_work (d_good_way Bq Cq R_good_way Drow))) (d_wrong_tie Bq Cq R_wrong_tie (d_good_tie Bq Cq R_good_tie)))
  have Dnet := d__law_net Bq R__law_net Dpull (d__law_closed Bq R__law_closed Dpull) (d__law_good_row Bq R__law_good_row Dpull) (d__law_job Bq R__law_job Dpull (d__law_mode Bq R__law_mode Dpull)) (d__law_link Bq R__law_link Dpull)
  have Dcp := d_check_plan Bq Cq R_check_plan Dyard
  have Dcs := d_check_sayingsX Bq X_BadSaying R_check_sayings (d_is_saying (P := l.prog) (w := w) (base := base) Bq D2_OPPOSITES m_OPPOSITES R_is_saying)
  have Dord := d_ordered (P := l.prog) (w := w) (base := base) Bq m_sorted m_set R_ordered
  have Dtu := d_turned (P := l.prog) (w := w) (base := base) T_OPPOSITES m_OPPOSITES R_turned
  exact law_ok Bq l34 c34 TB R__law_open Dpull Dnet (d__law_saying Bq R__law_saying Dpull) (d__law_bent_saying Bq R__law_bent_saying Dpull (d__law_far Bq R__law_far Dpull)) (d__law_saying_good Bq R__law_saying_good) (d_like R__law_like (d_num R__law_num m_isinstance m_int m_bool) m_isinstance m_int m_bool m_str m_tuple m_list m_len m_all m_range 4 (by decide)) R__law_spot mc_BadSaying T (okx_line R_line Dyard Dcs Dord) (okx_opposite R_opposite Dyard Dcs Dtu) (fun G => .tup (.inr ⟨_, #[], _, q13_kept_l, q13_kept_c, q13_kept_d, by decide, .nil⟩) .nil) FD_holds g_holds (okx_holds Bq m_any F_holds Dcp Dcs (d_holds_of Bq R_holds_of))
end HLaw
open PySem PySem.W PyProof.Rows
set_option maxHeartbeats 0 in
theorem PySem.Challenge.cw_hodman_k17_sayings_refused_holds : PySem.Challenge.rw_hodman_k17_sayings_refused.Holds := by
  w_on; o_law; k_head; (case hw => w_witness2)
  k_fill
  refine Hv.walk_T (l := PySem.Challenge.rw_hodman_k17_sayings_refused) (n := 63) (k := 12) (x := "_law_script") rfl (by decide) (by decide) rfl ⟨rfl, by decide, by decide⟩ (fun w h Y => PySem.W.km_in_of Y) rfl ?F
  case F =>
    intro w mg fa h KX G hmg
    refine' HLaw.all_mk KX G hmg ?a0 ?l0 ?c0 ?k0 ?a1 ?l1 ?c1 ?k1 ?a2 ?l2 ?c2 ?k2 ?a3 ?l3 ?c3 ?k3 ?a4 ?l4 ?c4 ?k4 ?a5 ?l5 ?c5 ?k5 ?a6 ?l6 ?c6 ?k6 ?a7 ?l7 ?c7 ?k7 ?a8 ?l8 ?c8 ?k8 ?a9 ?l9 ?c9 ?k9 ?a10 ?l10 ?c10 ?k10 ?a11 ?l11 ?c11 ?k11 ?a12 ?l12 ?c12 ?k12 ?a13 ?l13 ?c13 ?k13 ?q13_kept ?q13_kept_l ?q13_kept_c ?q13_kept_d ?a14 ?l14 ?c14 ?k14 ?a15 ?l15 ?c15 ?k15 ?a16 ?l16 ?c16 ?k16 ?a17 ?l17 ?c17 ?k17 ?a18 ?l18 ?c18 ?k18 ?a19 ?l19 ?c19 ?k19 ?a20 ?l20 ?c20 ?k20 ?a21 ?l21 ?c21 ?k21 ?a22 ?l22 ?c22 ?k22 ?a23 ?l23 ?c23 ?k23 ?a24 ?l24 ?c24 ?k24 ?a25 ?l25 ?c25 ?k25 ?a26 ?l26 ?c26 ?k26 ?a27 ?l27 ?c27 ?k27 ?a28 ?l28 ?c28 ?k28 ?a29 ?l29 ?c29 ?k29 ?a30 ?l30 ?c30 ?k30 ?a31 ?l31 ?c31 ?k31 ?a32 ?l32 ?c32 ?k32 ?a33 ?l33 ?c33 ?k33 ?a34 ?l34 ?c34 ?k34 ?tL ?tL2 ?tL3 ?xa0 ?xl0 ?xr0 ?xs0 ?xe0 ?xt0 ?xk0 ?xi0 ?xti0 ?xlk0 ?xc0 ?xco0 ?xf0 ?xg0 ?xh0 ?xp0 ?xo0 ?xv0 ?xga0 ?xgg0 ?xhd0 ?xw0_word ?xw0_at ?xtop ?xopq ?xx0_0 ?zlen ?zlist ?ztuple ?zrange ?zenumerate ?zisinstance ?zint ?zbool ?zstr ?zall ?zmin ?zmax ?zsum ?zany ?zsorted ?zset ?zsuper ?nMOST_DAYS ?nMOST_STUFFS ?nMOST_WORKS ?nMOST_WAYS ?nMOST_TIES ?nMOST_LONG ?nMOST_MANY ?nMOST_GAP ?nSTART ?nEND ?a_OPPOSITES ?l_OPPOSITES ?k_OPPOSITES ?s_OPPOSITES ?y_OPPOSITES_0 ?y_OPPOSITES_1 ?y_OPPOSITES_2 ?y_OPPOSITES_3 ?y_OPPOSITES_4 ?y_OPPOSITES_5 ?x_OPPOSITES_0 ?x_OPPOSITES_1
    (case a0 => k_is); (case l0 => k_is); (case c0 => k_is); (case k0 => k_is); (case a1 => k_is); (case l1 => k_is); (case c1 => k_is); (case k1 => k_is); (case a2 => k_is); (case l2 => k_is); (case c2 => k_is); (case k2 => k_is); (case a3 => k_is); (case l3 => k_is); (case c3 => k_is); (case k3 => k_is); (case a4 => k_is); (case l4 => k_is); (case c4 => k_is); (case k4 => k_is); (case a5 => k_is); (case l5 => k_is); (case c5 => k_is); (case k5 => k_is); (case a6 => k_is); (case l6 => k_is); (case c6 => k_is); (case k6 => k_is); (case a7 => k_is); (case l7 => k_is); (case c7 => k_is); (case k7 => k_is); (case a8 => k_is); (case l8 => k_is); (case c8 => k_is); (case k8 => k_is); (case a9 => k_is); (case l9 => k_is); (case c9 => k_is); (case k9 => k_is); (case a10 => k_is); (case l10 => k_is); (case c10 => k_is); (case k10 => k_is); (case a11 => k_is); (case l11 => k_is); (case c11 => k_is); (case k11 => k_is); (case a12 => k_is); (case l12 => k_is); (case c12 => k_is); (case k12 => k_is); (case a13 => k_is); (case l13 => k_is); (case c13 => k_is); (case k13 => k_is); (case q13_kept => k_is); (case q13_kept_l => k_is); (case q13_kept_c => rfl); (case q13_kept_d => rfl); (case a14 => k_is); (case l14 => k_is); (case c14 => k_is); (case k14 => k_is); (case a15 => k_is); (case l15 => k_is); (case c15 => k_is); (case k15 => k_is); (case a16 => k_is); (case l16 => k_is); (case c16 => k_is); (case k16 => k_is); (case a17 => k_is); (case l17 => k_is); (case c17 => k_is); (case k17 => k_is); (case a18 => k_is); (case l18 => k_is); (case c18 => k_is); (case k18 => k_is); (case a19 => k_is); (case l19 => k_is); (case c19 => k_is); (case k19 => k_is); (case a20 => k_is); (case l20 => k_is); (case c20 => k_is); (case k20 => k_is); (case a21 => k_is); (case l21 => k_is); (case c21 => k_is); (case k21 => k_is); (case a22 => k_is); (case l22 => k_is); (case c22 => k_is); (case k22 => k_is); (case a23 => k_is); (case l23 => k_is); (case c23 => k_is); (case k23 => k_is); (case a24 => k_is); (case l24 => k_is); (case c24 => k_is); (case k24 => k_is); (case a25 => k_is); (case l25 => k_is); (case c25 => k_is); (case k25 => k_is); (case a26 => k_is); (case l26 => k_is); (case c26 => k_is); (case k26 => k_is); (case a27 => k_is); (case l27 => k_is); (case c27 => k_is); (case k27 => k_is); (case a28 => k_is); (case l28 => k_is); (case c28 => k_is); (case k28 => k_is); (case a29 => k_is); (case l29 => k_is); (case c29 => k_is); (case k29 => k_is); (case a30 => k_is); (case l30 => k_is); (case c30 => k_is); (case k30 => k_is); (case a31 => k_is); (case l31 => k_is); (case c31 => k_is); (case k31 => k_is); (case a32 => k_is); (case l32 => k_is); (case c32 => k_is); (case k32 => k_is); (case a33 => k_is); (case l33 => k_is); (case c33 => k_is); (case k33 => k_is); (case a34 => k_is); (case l34 => k_is); (case c34 => k_is); (case k34 => k_is); (case tL => k_is); (case tL2 => rfl); (case tL3 => kernel_rfl); (case xa0 => k_is); (case xl0 => k_is); (case xr0 => rfl); (case xs0 => k_is); (case xe0 => k_is); (case xt0 => k_is); (case xk0 => k_is); (case xi0 => k_is); (case xti0 => k_is); (case xlk0 => k_is); (case xc0 => k_is); (case xco0 => k_is); (case xf0 => k_is); (case xg0 => rfl); (case xh0 => first | rfl | decide +kernel); (case xp0 => ks_is); (case xo0 => k_is); (case xv0 => k_is); (case xga0 => k_is); (case xgg0 => k_is); (case xhd0 => k_is); (case xw0_word => k_is); (case xw0_at => k_is); (case xtop => first | rfl | decide +kernel); (case xopq => k_is); (case xx0_0 => kts_exm); (case zlen => k_is); (case zlist => k_is); (case ztuple => k_is); (case zrange => k_is); (case zenumerate => k_is); (case zisinstance => k_is); (case zint => k_is); (case zbool => k_is); (case zstr => k_is); (case zall => k_is); (case zmin => k_is); (case zmax => k_is); (case zsum => k_is); (case zany => k_is); (case zsorted => k_is); (case zset => k_is); (case zsuper => k_is); (case nMOST_DAYS => k_is); (case nMOST_STUFFS => k_is); (case nMOST_WORKS => k_is); (case nMOST_WAYS => k_is); (case nMOST_TIES => k_is); (case nMOST_LONG => k_is); (case nMOST_MANY => k_is); (case nMOST_GAP => k_is); (case nSTART => k_is); (case nEND => k_is); (case a_OPPOSITES => k_is); (case l_OPPOSITES => k_is); (case k_OPPOSITES => exact ⟨⟨_, _, rfl, rfl⟩, ⟨_, _, rfl, rfl⟩, ⟨_, _, rfl, rfl⟩, ⟨_, _, rfl, rfl⟩, ⟨_, _, rfl, rfl⟩, ⟨_, _, rfl, rfl⟩, trivial⟩); (case s_OPPOSITES => rfl); (case y_OPPOSITES_0 => k_is); (case y_OPPOSITES_1 => k_is); (case y_OPPOSITES_2 => k_is); (case y_OPPOSITES_3 => k_is); (case y_OPPOSITES_4 => k_is); (case y_OPPOSITES_5 => k_is); (case x_OPPOSITES_0 => k_is); (case x_OPPOSITES_1 => k_is)
