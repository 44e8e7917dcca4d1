import PyProof.Rows.All
import Wide.All
import OpenK.AllK
import Wide.FinOn
import KE.DatumOrd
import KE.GoesMore
import HandS.ForMost
import HandS.Exc
import HandS.TryOnly
import HandS.ExcOwn
import HandS.WordsExc
import HandS.Star
import HandS.Property
import HandS.ClsMeth
import HandS.DictComp
import HandS.TupAny
import HandS.IsInst
import HandS.Walk
import HandS.Zip
import HandS.Wide
import HandS.SortKw
import HandS.Codes
import HandS.SetKeys
import HandS.Conv
import HandS.Style
import HandS.Deep
import PyProof.EnumMake
import HandS.GenList
import HandS.GenYield
import HandS.SetFor
import HandS.Strs
import HandS.SlotsOwn
import KE.KOpsOwn
import HandS.Sort
import HandS.SetTxt0
import HandS.SetBool
import HandS.More
import HandS.FStr
import PyProof.FString3
import PyProof.Rows.StrIntSpec
import PyProof.Rows.StrPadWhole
import HandS.StrMore
import HandS.Lambda
import HandS.Nested
import HandS.ExcIs
import KE.KNestM
import HandS.ExcInit
import HandS.ExcField
import KE.KExcSuper
import HandS.ExcSuper
import KE.KExcIs
import KE.KDflt
import PyProof.InstNe
import KE.KxIndex
import HandS.Text
import HandS.SortRule
import HandS.EndTab
import PySem.Challenge.RW_mailforwards_k47_travel_lists
set_option Elab.async false
set_option linter.all false
set_option maxRecDepth 100000
set_option maxHeartbeats 2000000
/-! Rules of my own beside the hand layer's: calls of a class with a star, an own class's operator, enumerate over a tuple, min with a default, a name given a dict comprehension. -/
namespace My
open PySem PySem.Spec PyProof.Rows L2 StX ClX

/-- nothing is raised: the wish is False -/
abbrev eF : XK := fun _ _ _ => False
theorem passF {X : Cx} : Passes (L2.CX X.prog X.w) X eF := by
  rintro _ _ _ _ _ _ _ ⟨_, _, _, _, _, _, _, _, _, _, _, _, z⟩
  exact z.elim

section
variable {X : Cx} {CX : CXT} {k : Nat} {f C : Addr} {sp : Sp} {E : XK} {x : Str} {e : Expr} {te : TE} {p pos q : Pos}
/-- C() where __init__ takes any number -/
theorem pe_makeR0 (M : Mk X.K C f) (F : FnR X.prog X.w X.K X.mg X.base CX k f sp)
    (room : Room (k + 1) X.A) (glob : Gl X x)
    (mgx : X.mg x = some (.ref C)) (pass : Passes CX X E)
    (db : (x == ("__debug__" : Str)) = false := by decide) :
    PE X (.Call (.Name x p) [] [] pos) (tMakeR C sp E tNil) := by
  constructor
  intro pins s σ H Q I h
  apply wpAny_Call_Name_kw
  apply ld_glob I glob mgx _ db
  apply PySem.W.callWith_K0 I.kIn M.kp
  exact run_makeR (us := []) M F room pass I .nil h
/-- C(*e) -/
theorem pe_makeS (M : Mk X.K C f) (F : FnR X.prog X.w X.K X.mg X.base CX k f sp)
    (room : Room (k + 1) X.A) (glob : Gl X x)
    (mgx : X.mg x = some (.ref C)) (pass : Passes CX X E) (he : PE X e te)
    (db : (x == ("__debug__" : Str)) = false := by decide)
    (lone : starEach [.Starred e q] X.env = [(true, eval e X.env)] := by rfl) :
    PE X (.Call (.Name x p) [.Starred e q] [] pos) (fun σ H Q => te σ H fun y H1 => ∃ a xs, y = V.ref a ∧
      (SqT X.K H1 a xs ∨ SqL X.K H1 a xs) ∧ tMakeR C sp E (fun _ H2 Q2 => Q2 xs H2) σ H1 Q) := by
  constructor
  intro pins s σ H Q I h
  apply wpAny_Call_Name_kw
  apply ld_glob I glob mgx _ db
  refine PySem.W.callWith_S (h₀ := X.base) I.ok.mod.kin M.kp ?_ lone
  refine thn (he.run pins s σ H _ I h) ?_
  rintro v s1 ⟨y, H1, I1, ry, a, xs, rfl, seq, go⟩
  have ev : v = Value.ref a := ry
  rw [ev]
  exact star_any I1 seq fun us s2 I2 rv => ⟨I2.kIn, run_makeR M F room pass I2 rv go⟩
end

/-! ### an operator of an own class, both sides of it -/
def rOwnB (C : Addr) (sp : Sp) (E : XK) : R2 := fun x y H Q => ∃ a b dx dy fs gs, x = V.ref a ∧ y = V.ref b ∧
  H a = some (.ins C dx fs) ∧ H b = some (.ins C dy gs) ∧ sp [.ref a, .ref b] H Q E
theorem op_ownB {X : Cx} {CX : CXT} {k : Nat} {g C : Addr} {sp : Sp} {E : XK} {op : Operator}
    (first : PySem.W.selfFirst X.K C = true) (look : PySem.W.findIn X.K (.ref C) (PySem.dunder op.info.2) = some (some (.ref g)))
    (fn : PySem.W.isFn X.K (.ref g) = true) (F : FnR X.prog X.w X.K X.mg X.base CX k g sp) (room : Room k X.A) (pass : Passes CX X E) :
    OpR X (binaryOp op) (rOwnB C sp E) := by
  intro pins s σ H x y u v Q I rx ry h
  obtain ⟨a, b, dx, dy, fs, gs, rfl, rfl, ha, hb, go⟩ := h
  obtain rfl : u = Value.ref a := rx
  obtain rfl : v = Value.ref b := ry
  obtain ⟨m1, O1, _⟩ := ins_get I.hok ha
  obtain ⟨o1, J1, _⟩ := O1.look
  obtain ⟨m2, O2, _⟩ := ins_get I.hok hb
  obtain ⟨o2, J2, _⟩ := O2.look
  obtain ⟨m, fr⟩ := I.fr
  refine PySem.W.binop_K fr I.mod.kin J1 J2.type first look (fn) ?_
  refine wpAny_mono (wpAny_call (run_fnR (vs := [.ref a, .ref b]) (us := [.ref a, .ref b]) F room pass I (.cons rfl (.cons rfl .nil)) go)) ?_ (fun _ _ z => z)
  intro w' s' hw
  obtain ⟨z, H', I', rz, q⟩ := hw
  have back : EP X pins σ Q w' s' := ⟨z, H', I', rz, q⟩
  cases z with
  | non => cases (show w' = Value.none from rz); exact back
  | bl _ => cases (show w' = Value.bool _ from rz); exact back
  | int _ => obtain ⟨t, e⟩ := (show ∃ t, w' = Value.int _ t from rz); cases e; exact back
  | str _ => obtain ⟨t, e⟩ := (show ∃ t, w' = Value.str _ t from rz); cases e; exact back
  | byt _ => obtain ⟨t, e⟩ := (show ∃ t, w' = Value.bytes _ t from rz); cases e; exact back
  | flt _ => obtain ⟨t, e⟩ := (show ∃ t, w' = Value.float _ t from rz); cases e; exact back
  | ref _ => cases (show w' = Value.ref _ from rz); exact back
  | ty _ => cases (show w' = Value.type _ from rz); exact back

/-! ### min(xs, default=d) of whole numbers -/
def minL (d : Int) : List Int → Int
  | [] => d
  | y :: ys => PySem.W.minOf y ys
def rMinD (K : PySem.W.Frag) : List V → List V → Hp → VK → Prop := fun vs zs H Q => ∃ (a : Addr) (ns : List Int) (d : Int),
  vs = [V.ref a] ∧ zs = [V.int d] ∧ SqL K H a (ns.map V.int) ∧ Q (.int (minL d ns)) H
theorem cr_minD {X : Cx} (calm : X.calm = true) (room : X.A.units + 2 < cLine) : CallRK X (.builtin "min") [("default" : Str)] (rMinD X.K) := by
  intro pins s σ H vs zs us ws Q I r rz h
  obtain ⟨a, ns, d, rfl, rfl, sq, q⟩ := h
  rw [Vals.ref1 r]
  obtain ⟨its, rv, pl, _⟩ := I.list sq
  have HA : PySem.W.HoldAll s.heap its.toArray.toList ns := by
    have e : its.toArray.toList = its := by simp
    rw [e]
    exact PySem.W.HoldAll.of_ints rv.ints
  cases rz with
  | cons rd rest =>
    cases rest
    obtain ⟨td, rfl⟩ := rd
    have hu : X.A.units + 1 + PySem.W.Datum.depth Int < cLine := by
      show X.A.units + 1 + 0 < cLine
      omega
    refine PySem.W.min_list_datum_default (I.ok.hd calm) pl.isList HA hu ?_ ?_
    · intro e0 h' tk keep
      subst e0
      exact ⟨.int d, H, I.kept keep, ⟨_, rfl⟩, q⟩
    · intro y ys i v h' tk e1 _ hv keep
      subst e1
      have z := PySem.W.HoldAll.toInts (PySem.W.HoldAll.cons hv PySem.W.HoldAll.nil)
      cases z with
      | cons n t _ => exact ⟨.int _, H, I.kept keep, ⟨_, rfl⟩, q⟩
theorem pe_minDef {X : Cx} {e d : Expr} {te td : TE} {p pos kpos : Pos} (calm : X.calm = true) (room : X.A.units + 2 < cLine)
    (glob : Gl X "min") (own : X.mg "min" = none) (he : PE X e te) (hd : PE X d td)
    (h1 : starEach [e] X.env = (false, eval e X.env) :: starEach [] X.env := by rfl)
    (h2 : backTo pos (starEach [e] X.env) = (false, eval e X.env) :: backTo pos (starEach [] X.env) := by rfl)
    (h3 : (backTo pos (starEach [e] X.env)).any (·.1) = false := by rfl) :
    PE X (.Call (.Name "min" p) [e] [⟨some "default", d, kpos⟩] pos) (tCKw (rMinD X.K) (tCons te tNil) (tCons td tNil)) :=
  pe_callBK (cr_minD calm room) glob own (by decide +kernel) (pa_cons he pa_nil h1) (pk_cons hd pk_nil) (he := h2) (hpl := h3)

/-! ### for i, x in enumerate(t), t a tuple -/
section
open PySem.W
set_option maxHeartbeats 1000000 in
theorem enum_made {v : Value} {o : Obj} {P : Heap → Prop} (B : PySem.Begins v o P) :
    Meets (Builtin.«enumerate.__new__» ⟨[.type "enumerate", v], []⟩) (fun _ R s => P s.heap ∧ R (.ok (.ret (.ref (s.heap.push o).objs.size)))
      { s with heap := (s.heap.push o).push { cls := .type "enumerate", data := .fields #[.none, .bool false, .ref s.heap.objs.size, rawInt 0, .none, .none] } }) :=
  .of_wp fun prog w A R s both => by
    obtain ⟨hp, g, d, tk, os⟩ := s
    obtain ⟨hP, done⟩ := both
    have hsub := sub_enumerate
    have walk : ∀ {A' : Around} {E : Value → Shared → Prop} {Q : Value → Shared → Prop}, Q (.ref hp.objs.size) ⟨hp.push o, g, d, tk, os⟩ →
        wpAny (model prog w) A' (pyIter v) Q E ⟨hp, g, d, tk, os⟩ := fun q => B.iter prog w _ _ ⟨hp, g, d, tk, os⟩ _ hP q
    wp_walk using walk
    refine wpAny_stack_any fun st => wpAny_pure ?_
    split
    · rename_i c _ _ _ _ _
      cases (c == Value.type "enumerate") <;> (wp_walk using walk; exact ⟨_, rfl, done⟩)
    · wp_walk using walk
      exact ⟨_, rfl, done⟩
theorem enum_call {prog : Program} {w : World} {A : Around} {E : Value → Shared → Prop} {s : Shared} {v : Value} {o : Obj} {P : Heap → Prop} {Q : Value → Shared → Prop}
    (B : PySem.Begins v o P) (hP : P s.heap)
    (next : ∀ h', IsEnum h' (s.heap.objs.size + 1) s.heap.objs.size 0 .none → h'.get? s.heap.objs.size = some o → h'.objs.size = s.heap.objs.size + 2 →
      (∀ b u, s.heap.get? b = some u → h'.get? b = some u) → Q (.ref (s.heap.objs.size + 1)) { s with heap := h' }) :
    wpAny (model prog w) A (call (.type "enumerate") [v]) Q E s := by
  have sz : (s.heap.push o).objs.size = s.heap.objs.size + 1 := Heap.size_push ..
  refine callType_new F.called_enumerate (by decide) (F.typeCall_enumerate_1 _) (F.newCall_enumerate_1 _)
    (fun obj => F.args_object_init_2 obj _) F.entry_enumerate_new (enum_made B) ⟨hP, ?_⟩
  show _ ∧ _
  rw [sz]
  have isE : IsEnum ((s.heap.push o).push { cls := .type "enumerate", data := .fields #[.none, .bool false, .ref s.heap.objs.size, rawInt 0, .none, .none] })
      (s.heap.objs.size + 1) s.heap.objs.size 0 .none := by
    have z := Heap.get?_push_size (s.heap.push o)
      (o := { cls := .type "enumerate", data := .fields #[.none, .bool false, .ref s.heap.objs.size, rawInt 0, .none, .none] }) rfl
    rw [sz] at z
    exact z
  refine ⟨⟨_, isE, rfl⟩, next _ isE (Heap.get?_push_of_some _ (Heap.get?_push_size _ B.free)) (by rw [Heap.size_push, sz]) ?_⟩
  intro b u e
  exact Heap.get?_push_of_some _ (Heap.get?_push_of_some _ e)
end
/-- the turns: a new pair of the turn's number and the tuple's item -/
def IteT (K : PySem.W.Frag) (a : Addr) : It :=
  ⟨fun i H => ∃ (xs : List V) (x : V), SqT K H a xs ∧ xs[i]? = some x,
   fun i H v H' => ∃ T x, v = .ref T ∧ H T = none ∧ H' = upd H T (.tup [.int (i : Nat), x]) ∧ (∀ xs, SqT K H a xs → xs[i]? = some x),
   fun i H => ∃ xs : List V, SqT K H a xs ∧ xs.length = i⟩
theorem turn_enumT {P : Program} {w : World} {K : PySem.W.Frag} {elts : List Expr} {kk : Nat} {tpos : Pos} (a e it : Addr) :
    Turn P w K (.Tuple elts kk tpos) (IteT K a) [e, it] e (fun i h => (∃ old, IsEnum h e it ((i : Nat) : Int) old) ∧ h.IsTupleIter it a i ∧ e ≠ it ∧ e ≠ a ∧ it ≠ a) where
  mem := by simp
  obj := by
    rintro i h ⟨⟨old, he⟩, ⟨o, ho, hc, hd⟩, _⟩ b hb
    have two : b = e ∨ b = it := by simpa using hb
    rcases two with rfl | rfl
    · exact ⟨_, he, fun v q => nomatch q⟩
    · exact ⟨o, ho, fun v q => by rw [hd] at q; cases q⟩
  keep := by
    rintro i h h' ⟨⟨old, he⟩, hi, ne⟩ k
    exact ⟨⟨old, k e (by simp) _ he⟩, hi.at fun o q => k it (by simp) o q, ne⟩
  item := by
    intro X hP hw hK hc i pins s σ H E I hf st hg
    subst hP hw hK
    obtain ⟨⟨old, he⟩, hit, hne, hea, hia⟩ := st
    obtain ⟨xs, x, hq, hx⟩ := hg
    obtain ⟨its, rv, p, hz⟩ := I.tuple hq
    obtain ⟨u, hu, ru⟩ := rv.get hx
    have isT : s.heap.IsTuple a its.toArray := p
    have hel : e < s.heap.objs.size := Heap.lt_size he
    have hil : it < s.heap.objs.size := by obtain ⟨_, q, _⟩ := hit; exact Heap.lt_size q
    have hlt : i < its.toArray.size := by
      have := (List.getElem?_eq_some_iff.mp hu).1
      simpa using this
    have D := PySem.Draws.tuple (prog := X.prog) (w := X.w) (A := X.A.in1) (I.ok.hd hc) it a hia.symm its.toArray
    refine wpAny_pyNext_enum_itemD D he ⟨hit, isT⟩ hlt hne (by simp [hne, hea]) ?_
    intro y h' tk hy out st' hT sz keep
    have ey : y = u := by
      have e1 : its.toArray[i]? = some y := hy
      rw [List.getElem?_toArray] at e1
      exact Option.some.inj (e1.symm.trans hu)
    subst ey
    refine ⟨_, rfl, wpAny_letOwnedTupleGo_enum (s := { s with heap := h', toks := tk + 1 }) out fun h2 he2 sb => ?_⟩
    have hT2 : h2.get? s.heap.objs.size = some { cls := .type "tuple", data := .seq #[.int i tk, y] } :=
      (sb.2 _ (Nat.ne_of_gt hel)).trans hT
    have new : ObjOk X.prog X.w (upd H s.heap.objs.size (.tup [.int (i : Nat), x])) h2 s.heap.objs.size (.tup [.int (i : Nat), x]) :=
      ⟨by show 2 ≤ sizeLine; decide, [.int i tk, y], .cons ⟨_, rfl⟩ (.cons ru .nil), ⟨_, hT2, rfl, _, rfl⟩⟩
    have I1 : Inv X pins σ (upd H s.heap.objs.size (.tup [.int (i : Nat), x])) { s with heap := h2, toks := tk + 1 } := by
      refine I.turnedNew (ch := [e, it]) (fun b ob hb q => ?_) hf (Nat.le_refl _) new
      have nb : b ≠ e := fun z => hb (by simp [z])
      exact (sb.2 b nb).trans (keep b ob nb (fun z => hb (by simp [z])) q)
    refine ⟨.ref s.heap.objs.size, _, I1, rfl, ⟨_, x, rfl, I.hok.fresh (Nat.le_refl _), rfl, fun ys hy => by rw [I.tuple_inj hy hq]; exact hx⟩,
      ⟨⟨y, ?_⟩, st'.1.at fun o q => (sb.2 it (Ne.symm hne)).trans q, hne, hea, hia⟩, fun b hb => ?_⟩
    · have e1 : ((i + 1 : Nat) : Int) = (i : Int) + 1 := by omega
      rw [e1]
      exact he2
    · have small : b < s.heap.objs.size := by
        have two : b = e ∨ b = it := by simpa using hb
        rcases two with rfl | rfl
        · exact hel
        · exact hil
      rw [upd_ne (Nat.ne_of_lt small)]
      exact (hf b hb).1
  done := by
    intro X hP hw hK hc i pins s σ H E I hf st hg
    subst hP hw hK
    obtain ⟨⟨old, he⟩, hit, hne, hea, hia⟩ := st
    obtain ⟨xs, hq, hx⟩ := hg
    obtain ⟨its, rv, p, hz⟩ := I.tuple hq
    obtain ⟨f0, f1, f2, f3, f4, f5⟩ := hf it (by simp)
    have D := PySem.Draws.tuple (prog := X.prog) (w := X.w) (A := X.A.in1) (I.ok.hd hc) it a hia.symm its.toArray
    have isT : s.heap.IsTuple a its.toArray := p
    have en : i = its.toArray.size := by
      have := rv.length
      simp
      omega
    subst en
    refine wpAny_pyNext_enum_endD D he ⟨hit, isT⟩ fun h' eb => ⟨rfl, ?_⟩
    exact I.turned (t' := s.toks) (fun b o hb q => eb b o hb q) f0 f1 f3 f4 f5
  self := by
    rintro A i s Q E ⟨⟨_, he⟩, _⟩ h
    exact wpAny_pyIter_enum he h

def iEnumT (K : PySem.W.Frag) (ta : TA) : TI := fun σ H R => ta σ H fun vs H1 => ∃ a xs, vs = [V.ref a] ∧ SqT K H1 a xs ∧ R (IteT K a) H1
theorem pi_enumT {X : Cx} {e : Expr} {ta : TA} {p pos tpos : Pos} {elts : List Expr} {kk : Nat}
    (glob : Gl X "enumerate") (own : X.mg "enumerate" = none) (ha : PA X [e] ta)
    (lone : starEach [e] X.env = [(false, eval e X.env)] := by rfl) :
    PI X (.Tuple elts kk tpos) (.Call (.Name "enumerate" p) [e] [] pos) (iEnumT X.K ta) := by
  constructor
  intro pins s σ H R I h
  refine Call_ (ld_blt I glob own boot_enumerate ?_)
  refine PyProof.Rows.callWith_type1 ?_ lone rfl
  refine thn (ha.run pos pins s σ H _ I h) ?_
  rintro us s1 ⟨vs, H1, I1, r1, a, xs, rfl, sq, go⟩
  cases r1 with
  | cons r rr =>
    cases rr
    cases r
    obtain ⟨its, rv, isT, hz⟩ := I1.tuple sq
    have lt : a < s1.heap.objs.size := isT.lt
    refine enum_call (PySem.begins_tuple a its.toArray) isT ?_
    intro h' he hit hsz keep
    refine wpAny_pyIter_enum he ?_
    have I2 : Inv X pins σ H1 { s1 with heap := h' } := I1.kept (t' := s1.toks) keep
    refine ⟨s1.heap.objs.size + 1, [s1.heap.objs.size + 1, s1.heap.objs.size], _, _, H1, rfl, I2, turn_enumT a (s1.heap.objs.size + 1) s1.heap.objs.size, ?_, fun b hb => ?_, go⟩
    · exact ⟨⟨.none, he⟩, ⟨_, hit, rfl, rfl⟩, Nat.succ_ne_self _, Nat.ne_of_gt (Nat.lt_succ_of_lt lt), Nat.ne_of_gt lt⟩
    · have two : b = s1.heap.objs.size + 1 ∨ b = s1.heap.objs.size := by simpa using hb
      have big : s1.heap.objs.size ≤ b := by
        rcases two with z | z
        · rw [z]; exact Nat.le_succ _
        · rw [z]; exact Nat.le_refl _
      exact I1.fpOk big (I1.hok.fresh big)
theorem walk_enumT {K : PySem.W.Frag} {a : Addr} {xs : List V} :
    Walk (IteT K a) xs.length (fun H => SqT K H a xs) (YPair (fun i => some (.int (i : Nat))) (fun i => xs[i]?)) := by
  refine ⟨fun i _ hi q => ⟨xs, xs[i], q, by simp [hi]⟩, fun _ q => ⟨xs, q, rfl⟩, ?_⟩
  rintro i H v H' _ q ⟨T, x, h1, h2, h3, h4⟩
  exact ⟨T, .int (i : Nat), x, h1, h2, h3, rfl, h4 xs q⟩

/-! ### y = {k: v for ..} -/
theorem ps_setDc {X : Cx} {i : Nat} {y : Str} {py : Pos} {kx vx tg iter : Expr} {ifs : List Expr} {scope : Scope} {own : List (Str × Nat)} {pos spos : Pos} {wi : TI} {g : TG} {tt : TT} {tk tv : TE}
    (calm : X.calm = true) (nd : X.N.Nodup) (hy : X.N[i]? = some y) (loc : X.env.scope.names.lookup y = some .local)
    (sw : swapsWith (.DictComp kx vx [⟨tg, iter, ifs, 0⟩] scope pos) (some (.Name y py)) spos.line X.env = pure true)
    (hi : PI X tg iter wi) (ok : BlkOk X.N X.env.scope scope own)
    (hg : ∀ (s : Shared) (H : Hp) (C : Addr) (cl : List (Str × Addr)) (fp : List Addr),
      PG (X.blk s H scope (compEnvC scope cl C X.env) fp) tg g)
    (ht : ∀ (s : Shared) (H : Hp) (C : Addr) (cl : List (Str × Addr)) (fp : List Addr),
      PTs (X.blk s H scope (compEnvC scope cl C X.env) fp) ifs tt)
    (hk : ∀ (s : Shared) (H : Hp) (C : Addr) (cl : List (Str × Addr)) (fp : List Addr),
      PE (X.blk s H scope (compEnvC scope cl C X.env) fp) kx tk)
    (he : ∀ (s : Shared) (H : Hp) (C : Addr) (cl : List (Str × Addr)) (fp : List Addr),
      PE (X.blk s H scope (compEnvC scope cl C X.env) fp) vx tv)
    (fold : ∀ x, foldedSetIterable iter X.env x = pure x := by intro _; rfl) :
    PS X (.Assign [.Name y py] (.DictComp kx vx [⟨tg, iter, ifs, 0⟩] scope pos) spos) (tAsg (tDc wi g tt tk tv (own.map (·.2))) (gName i)) := by
  constructor
  intro pins s σ H D I h
  rw [exec_Assign_Name_used _ _ _ _ sw]
  apply wpAny_bind
  apply wpAny_standAt
  apply wpAny_bind
  show wpAny _ X.A (do
    let _ ← comprehension (.DictComp kx vx [⟨tg, iter, ifs, 0⟩] scope pos) scope X.env (firstIterPos [⟨tg, iter, ifs, 0⟩] pos) newDict false (eval iter X.env) (some (assign (.Name y py) X.env))) _ _ s
  have h : tDc wi g tt tk tv (own.map (·.2)) σ H (fun x H1 => gName i x σ H1 D.nx) := h
  refine wpAny_bind (thn (dc_core (Qf := fun _ s' => SP X pins D .next s') calm nd I hi ok hg ht hk he fold h ?_) fun _ s' hq => wpAny_pure (wpAny_pure hq))
  rintro L C s' m H' I' q hn ⟨f0, f1, f2, f3, f4, f5⟩
  show wpAny _ _ (assign (.Name y py) X.env (.ref L)) _ _ _
  refine wpAny_assign_Name (store_ok2 (v := V.ref L) I' nd hy (.inl loc) rfl ?_ (.inr loc))
  rintro s2 I2 ⟨a, sb, ha⟩
  have apart : C ≠ a := by
    rcases ha with z | z
    · rw [z]
      exact f1
    · exact fun e => f4 y a z e.symm
  refine ⟨m, hn.sameBut sb apart, ?_⟩
  intro h3 sb3
  exact ⟨_, H', I2.turned (t' := s2.toks) (fun b o hb e => (sb3.2 b hb).trans e) f0 f1 f3 f4 f5, q⟩
theorem sw_trueD {kx vx : Expr} {gs : List Comprehension} {scope : Scope} {pos py : Pos} {y : Str} {l : Nat} {env : Env}
    (hk : env.scope.kind = .function) (hy : env.scope.names.lookup y = some .local) (line : (py.line == pos.line) = true)
    (no : (scope.names.any fun (n, k) => n == y && (k == .local || k == .cell)) = false) :
    swapsWith (.DictComp kx vx gs scope pos) (some (.Name y py)) l env = pure true := by
  have kind : env.kindOf y = some .local := hy
  have block : env.blockKind = .function := by
    unfold Env.blockKind
    rw [hk]
    rfl
  unfold swapsWith
  simp only [block, kind, no, Expr.pos, line]
  rfl
end My
namespace My
open PySem PySem.Spec PyProof.Rows L2 StX ClX
/-! ### where a def, a method, a property, a class of the text stands -/
structure FnA (K : PySem.W.Frag) (mg : Str → Option Value) (x qual : Str) (st : Stmt) (ps : List Str) where
  f : Addr
  fd : FuncData
  mg : mg x = some (.ref f)
  F : Fun K x qual st f fd
  b : Binds K fd ps []
structure MetA (K : PySem.W.Frag) (C : Addr) (x qual : Str) (st : Stmt) (ps : List Str) where
  f : Addr
  fd : FuncData
  m : Meth K C x f
  F : Fun K x qual st f fd
  b : Binds K fd ps []
structure PropA (K : PySem.W.Frag) (C : Addr) (x qual : Str) (st : Stmt) (ps : List Str) where
  p : Addr
  f : Addr
  fd : FuncData
  P : PropOf K C x p f
  F : Fun K x qual st f fd
  b : Binds K fd ps []
structure IniA (K : PySem.W.Frag) (C : Addr) (qual : Str) (st : Stmt) where
  f : Addr
  fd : FuncData
  new : Mk K C f
  F : Fun K "__init__" qual st f fd
structure ClsA (K : PySem.W.Frag) (mg : Str → Option Value) (x : Str) where
  C : Addr
  mg : mg x = some (.ref C)
  cl : Cls K C
structure IntA (mg : Str → Option Value) (x : Str) (n : Int) where
  t : Tok
  mg : mg x = some (.int n t)
structure StrA (mg : Str → Option Value) (x z : Str) where
  t : Tok
  mg : mg x = some (.str z t)
/-- a plain value and its type -/
inductive Kd (H : Hp) : V → String → Prop where
  | non : Kd H .non "NoneType"
  | bl (b : Bool) : Kd H (.bl b) "bool"
  | int (i : Int) : Kd H (.int i) "int"
  | str (x : Str) (h : x.length ≤ 1000) : Kd H (.str x) "str"
  | tup {a : Addr} {xs : List V} (h : H a = some (.tup xs)) : Kd H (.ref a) "tuple"
  | lst {a : Addr} {xs : List V} (h : H a = some (.lst xs)) : Kd H (.ref a) "list"
theorem Kd.ty {K : PySem.W.Frag} {H : Hp} {v : V} {t : String} (k : Kd H v t) : TyX K H v (.type t) := by
  cases k with
  | non => exact .base .non
  | bl b => exact .base (.bl b)
  | int i => exact .base (.int i)
  | str x _ => exact .base (.str x)
  | tup h => exact .base (.tup h)
  | lst h => exact .base (.lst h)
/-- isinstance(v, T), T a built-in class -/
theorem isi_of {K : PySem.W.Frag} {H : Hp} {v : V} {t T : String} {b : Bool} {Q : VK} (k : Kd H v t) (e : kitB t T = some b) (q : Q (.bl b) H) :
    rIsi K [v, .ty T] H Q := ⟨v, .ty T, .type t, .type T, b, rfl, .ty T, k.ty, kit_ty e, q⟩
end My
namespace My
open PySem PySem.Spec PyProof.Rows L2 StX ClX
section
variable {X : Cx} {x : Str} {p : Pos}
theorem pe_tyN (n : String) (glob : Gl X x) (own : X.mg x = none) (boot : bootBuiltins x = some (.type n)) (nn : x ≠ "__name__" := by decide)
    (db : (x == ("__debug__" : Str)) = false := by decide) : PE X (.Name x p) (tC (.ty n)) := pe_bltn (v := .ty n) (u := .type n) glob own boot rfl nn db
theorem pe_gI {n : Int} (a : IntA X.mg x n) (glob : Gl X x := by rfl) (db : (x == ("__debug__" : Str)) = false := by decide) : PE X (.Name x p) (tC (.int n)) :=
  pe_glob (v := .int n) glob a.mg ⟨a.t, rfl⟩ db
theorem pe_gS {z : Str} (a : StrA X.mg x z) (glob : Gl X x := by rfl) (db : (x == ("__debug__" : Str)) = false := by decide) : PE X (.Name x p) (tC (.str z)) :=
  pe_glob (v := .str z) glob a.mg ⟨a.t, rfl⟩ db
theorem pe_gC {C : Addr} (at_ : X.mg x = some (.ref C)) (glob : Gl X x := by rfl) (db : (x == ("__debug__" : Str)) = false := by decide) : PE X (.Name x p) (tC (.ref C)) :=
  pe_glob (v := .ref C) glob at_ rfl db
end
end My
namespace My
open PySem PySem.Spec PyProof.Rows L2 StX ClX
theorem cx_K {CX : CXT} {P : Program} {w : World} {K : PySem.W.Frag} {mg : Str → Option Value} {base : Heap} {N : List Str} {qual : Str} {scope : Scope} {f : Addr} {cd : Value} {A : Around} {outer : List Env} {s : Shared} {H : Hp} {E : XK} :
    (cxOf CX P w K mg base N qual scope f cd A outer s H E).K = K := rfl
theorem cx_w {CX : CXT} {P : Program} {w : World} {K : PySem.W.Frag} {mg : Str → Option Value} {base : Heap} {N : List Str} {qual : Str} {scope : Scope} {f : Addr} {cd : Value} {A : Around} {outer : List Env} {s : Shared} {H : Hp} {E : XK} :
    (cxOf CX P w K mg base N qual scope f cd A outer s H E).w = w := rfl
end My
namespace My
open PySem PySem.Spec PyProof.Rows L2 StX ClX
/-! ### comprehensions by a relation of the list made so far -/
/-- what never changes; all of it stays -/
def Fix : HO → Prop
  | .lst _ => False
  | .dK _ => False
  | .dT _ => False
  | _ => True
def SameN (H H' : Hp) : Prop := ∀ b o, H b = some o → Fix o → H' b = some o
theorem SameN.of {H H' : Hp} (e : Same H H') : SameN H H' := fun b o h _ => e b o h
theorem sz5 {n : Nat} (h : n ≤ 100000) : n < sizeLine := Nat.lt_of_le_of_lt h (by decide)
/-- a comprehension's loop, a for's loop, folded -/
def LcL (J : It) (g : TG) (tt : TT) (te : TE) (vs : List Nat) (σ : L2.St) (H1 : Hp) (D : Addr) (Qd : Hp → Prop) : Prop :=
  ∃ W : Nat → Nat → Hp → Prop, (∃ m, W 0 m (upd H1 D (.lst []))) ∧ ∀ i m H, W i m H →
    (J.stop i H ∧ Qd H) ∨ (J.go i H ∧ ∃ Nx : Hp → Prop, (∀ H', Nx H' → ∃ m', m' < m ∧ W (i + 1) m' H') ∧
      ∀ x H', J.yld i H x H' → g x (wipe σ vs) H' fun σ2 H2 => wipe σ2 vs = wipe σ vs ∧ tt σ2 H2 fun b H3 =>
        if b = true then te σ2 H3 fun y H4 => ∃ acc, H4 D = some (.lst acc) ∧ acc.length < sizeLine ∧ Nx (upd H4 D (.lst (acc ++ [y]))) else Nx H3)
theorem tLc_eq {wi : TI} {g : TG} {tt : TT} {te : TE} {vs : List Nat} {σ : L2.St} {H : Hp} {Q : VK} :
    tLc wi g tt te vs σ H Q = wi σ H fun J H1 => ∀ D, H1 D = Option.none → LcL J g tt te vs σ H1 D (Q (.ref D)) := rfl
def DcL (J : It) (g : TG) (tt : TT) (tk tv : TE) (vs : List Nat) (σ : L2.St) (H1 : Hp) (D : Addr) (Qd : Hp → Prop) : Prop :=
  ∃ W : Nat → Nat → Hp → Prop, (∃ m, W 0 m (upd H1 D (.dK []))) ∧ ∀ i m H, W i m H →
    (J.stop i H ∧ Qd H) ∨ (J.go i H ∧ ∃ Nx : Hp → Prop, (∀ H', Nx H' → ∃ m', m' < m ∧ W (i + 1) m' H') ∧
      ∀ x H', J.yld i H x H' → g x (wipe σ vs) H' fun σ2 H2 => wipe σ2 vs = wipe σ vs ∧ tt σ2 H2 fun b H3 =>
        if b = true then tk σ2 H3 fun y H4 => tv σ2 H4 fun z H5 => ∃ kvs k, y = kV k ∧ H5 D = some (.dK kvs) ∧ kvs.length < sizeLine ∧ Nx (upd H5 D (.dK (putK kvs k z))) else Nx H3)
theorem tDc_eq {wi : TI} {g : TG} {tt : TT} {tk tv : TE} {vs : List Nat} {σ : L2.St} {H : Hp} {Q : VK} :
    tDc wi g tt tk tv vs σ H Q = wi σ H fun J H1 => ∀ D, H1 D = Option.none → DcL J g tt tk tv vs σ H1 D (Q (.ref D)) := rfl
def ForL (J : It) (g : TG) (tb : TS) (D : Ends) (σ : L2.St) (H1 : Hp) : Prop :=
  ∃ W : Nat → Nat → L2.St → Hp → Prop, (∃ m, W 0 m σ H1) ∧ ∀ i m σ H, W i m σ H →
    (J.stop i H ∧ D.nx σ H) ∨ (J.go i H ∧ ∃ N : L2.St → Hp → Prop, (∀ σ' H', N σ' H' → ∃ m', m' < m ∧ W (i + 1) m' σ' H') ∧
      ∀ x H', J.yld i H x H' → g x σ H' fun σ2 H2 => tb { D with nx := N, ct := N, bk := D.nx } σ2 H2)
theorem tFor_eq {wi : TI} {g : TG} {tb : TS} {D : Ends} {σ : L2.St} {H : Hp} :
    tFor wi g tb D σ H = wi σ H fun J H1 => ForL J g tb D σ H1 := rfl
theorem comp_rel {J : It} {n : Nat} {G : Hp → Prop} {Y : Nat → Hp → V → Hp → Prop} (w : Walk J n G Y) {g : TG} {tt : TT} {te : TE} {vs : List Nat} {σ : L2.St} {H1 : Hp} {D : Addr} {Qd : Hp → Prop}
    (R : Nat → List V → Hp → Prop) (small : n ≤ 100000) (fresh : H1 D = Option.none) (hG : ∀ H, Same H1 H → G H)
    (mono : ∀ i acc H H', SameN H H' → R i acc H → R i acc H') (h0 : R 0 [] H1) (len : ∀ i acc H, R i acc H → acc.length ≤ i)
    (turn : ∀ i x H H' acc, i < n → Same H1 H → R i acc H → Y i H x H' → ∀ (no : Hp → Prop) (yes : V → Hp → Prop),
      (∀ H3, Same H H3 → R (i + 1) acc H3 → no H3) → (∀ y H4, Same H H4 → R (i + 1) (acc ++ [y]) H4 → yes y H4) →
      g x (wipe σ vs) H' fun σ2 H2 => wipe σ2 vs = wipe σ vs ∧ tt σ2 H2 fun b H3 => if b = true then te σ2 H3 yes else no H3)
    (fin : ∀ acc H, Same H1 H → H D = some (.lst acc) → R n acc H → Qd H) : LcL J g tt te vs σ H1 D Qd := by
  refine lc_it w (fun i H => ∃ acc, Same H1 H ∧ H D = some (.lst acc) ∧ R i acc H) ⟨[], ?_, upd_same, ?_⟩ (fun i H _ p => ?_) (fun i x H H' hi p y => ?_) (fun H p => ?_)
  · intro b o h
    rw [upd_ne (ne_of_none h fresh)]
    exact h
  · refine mono 0 [] H1 _ (fun b o h _ => ?_) h0
    rw [upd_ne (ne_of_none h fresh)]
    exact h
  · obtain ⟨acc, s, _, _⟩ := p
    exact hG H s
  · obtain ⟨acc, s, at_, r⟩ := p
    refine turn i x H H' acc hi s r y _ _ (fun H3 s3 r3 => ⟨acc, s.trans s3, s3 _ _ at_, r3⟩) (fun v H4 s4 r4 => ⟨acc, s4 _ _ at_, ?_, acc ++ [v], ?_, upd_same, ?_⟩)
    · have := len i acc H r
      exact sz5 (by omega)
    · intro b o h
      have nb : b ≠ D := ne_of_none h fresh
      rw [upd_ne nb]
      exact s4 b o (s b o h)
    · refine mono _ _ H4 _ (fun b o h nl => ?_) r4
      have nb : b ≠ D := by
        intro e
        rw [e, s4 _ _ at_] at h
        cases h
        exact nl
      rw [upd_ne nb]
      exact h
  · obtain ⟨acc, s, at_, r⟩ := p
    exact fin acc H s at_ r
/-- the elements are plain values, told by f; a turn that gives none is told by none -/
theorem comp_val {J : It} {n : Nat} {G : Hp → Prop} {Y : Nat → Hp → V → Hp → Prop} (w : Walk J n G Y) {g : TG} {tt : TT} {te : TE} {vs : List Nat} {σ : L2.St} {H1 : Hp} {D : Addr} {Qd : Hp → Prop}
    (f : Nat → Option V) (small : n ≤ 100000) (fresh : H1 D = Option.none) (hG : ∀ H, Same H1 H → G H)
    (turn : ∀ i x H H', i < n → Same H1 H → Y i H x H' → ∀ (no : Hp → Prop) (yes : V → Hp → Prop),
      (f i = Option.none → ∀ H3, Same H H3 → no H3) → (∀ y, f i = some y → ∀ H4, Same H H4 → yes y H4) →
      g x (wipe σ vs) H' fun σ2 H2 => wipe σ2 vs = wipe σ vs ∧ tt σ2 H2 fun b H3 => if b = true then te σ2 H3 yes else no H3)
    (fin : ∀ H, Same H1 H → H D = some (.lst ((List.range n).filterMap f)) → Qd H) : LcL J g tt te vs σ H1 D Qd := by
  refine comp_rel w (fun i acc _ => acc = (List.range i).filterMap f) small fresh hG (fun _ _ _ _ _ h => h) rfl (fun i acc H h => ?_) (fun i x H H' acc hi s r y no yes hn hy => ?_) (fun acc H s at_ r => fin H s (by rw [← r]; exact at_))
  · rw [h]
    have := List.length_filterMap_le f (List.range i)
    simpa using this
  · refine turn i x H H' hi s y no yes (fun e H3 s3 => hn H3 s3 ?_) (fun v e H4 s4 => hy v H4 s4 ?_)
    · rw [r, List.range_succ, List.filterMap_append]
      simp [e]
    · rw [r, List.range_succ, List.filterMap_append]
      simp [e]
theorem for_rel {J : It} {n : Nat} {G : Hp → Prop} {Y : Nat → Hp → V → Hp → Prop} (w : Walk J n G Y) {g : TG} {tb : TS} {D : Ends} {σ : L2.St} {H : Hp} (Pv : Nat → L2.St → Hp → Prop)
    (h0 : Pv 0 σ H) (hG : ∀ i σ H, i ≤ n → Pv i σ H → G H)
    (hs : ∀ i x σ H H', i < n → Pv i σ H → Y i H x H' → g x σ H' fun σ2 H2 => tb { D with nx := Pv (i + 1), ct := Pv (i + 1), bk := D.nx } σ2 H2)
    (hd : ∀ σ H, Pv n σ H → D.nx σ H) : ForL J g tb D σ H := for_it w Pv h0 hG hs hd
theorem while_rel {tc : TT} {tb : TS} {D : Ends} {σ : L2.St} {H : Hp} (Pv : L2.St → Hp → Prop) (m : L2.St → Hp → Nat) (h0 : Pv σ H)
    (hs : ∀ σ H, Pv σ H → tc σ H fun b H1 => if b = true then ∃ N : L2.St → Hp → Prop, (∀ σ' H', N σ' H' → ∃ m', m' < m σ H ∧ m' = m σ' H' ∧ Pv σ' H') ∧
      tb { D with nx := N, ct := N, bk := D.nx } σ H1 else D.nx σ H1) : tWhile tc tb D σ H := by
  refine ⟨fun k σ H => k = m σ H ∧ Pv σ H, ⟨m σ H, rfl, h0⟩, ?_⟩
  rintro k σ H ⟨rfl, p⟩
  exact hs σ H p
theorem walk_strY {z : Str} : Walk (Its z) z.cps.toList.length (fun _ => True) (fun i H v H' => H' = H ∧ ∃ c, z.cps.toList[i]? = some c ∧ v = .str ⟨#[c]⟩) := by
  have e : z.cps.toList.length = z.cps.size := by simp
  rw [e]
  refine walk_str.mono (fun _ h => h) ?_
  rintro i H v H' _ _ ⟨h1, c, h2, h3⟩
  exact ⟨h1, c, by simpa using h2, h3⟩
theorem range_get {α β : Type} (g : α → Option β) (l : List α) : (List.range l.length).filterMap (fun i => l[i]?.bind g) = l.filterMap g := by
  have main : ∀ n, (List.range n).filterMap (fun i => l[i]?.bind g) = (l.take n).filterMap g := by
    intro n
    induction n with
    | zero => simp
    | succ n ih =>
      rw [List.range_succ, List.filterMap_append, ih, List.take_add_one, List.filterMap_append]
      congr 1
      cases e : l[n]? with
      | none => simp [List.filterMap_cons, e]
      | some a => simp [List.filterMap_cons, e]
  rw [main, List.take_length]
theorem range_mp {α β : Type} (g : α → β) (l : List α) : (List.range l.length).filterMap (fun i => l[i]?.map g) = l.map g := by
  have h := range_get (fun a => some (g a)) l
  have e : ∀ i : Nat, l[i]?.map g = l[i]?.bind fun a => some (g a) := fun i => by cases l[i]? <;> rfl
  simp only [e]
  rw [h]
  simp
/-- all(xs), any(xs) of truth values -/
theorem all_map {α : Type} {K : PySem.W.Frag} {H : Hp} {a : Addr} {l : List α} {g : α → Bool} {Q : VK} (h : H a = some (.lst (l.map fun c => V.bl (g c)))) (q : Q (.bl (l.all g)) H) : rAll K [V.ref a] H Q := by
  refine ⟨a, l.map g, rfl, SqL.of ?_, ?_⟩
  · rw [List.map_map]
    exact h
  · rw [List.all_map]
    exact q
theorem any_map {α : Type} {K : PySem.W.Frag} {H : Hp} {a : Addr} {l : List α} {g : α → Bool} {Q : VK} (h : H a = some (.lst (l.map fun c => V.bl (g c)))) (q : Q (.bl (l.any g)) H) : rAny K [V.ref a] H Q := by
  refine ⟨a, l.map g, rfl, SqL.of ?_, ?_⟩
  · rw [List.map_map]
    exact h
  · rw [List.any_map]
    exact q
section
variable {K : PySem.W.Frag} {H : Hp} {p : Addr} {xs : List V} {i j : Int} {v : V} {a b : Str} {Q : VK}
theorem ixT_of (h : H p = some (.tup xs)) (e : atI xs i = some v) (q : Q v H) : rIxT K (.ref p) (.int i) H Q := ⟨p, xs, i, v, rfl, rfl, SqT.of h, e, q⟩
theorem ixL_of (h : H p = some (.lst xs)) (e : atI xs i = some v) (q : Q v H) : rIxL K (.ref p) (.int i) H Q := ⟨p, xs, i, v, rfl, rfl, SqL.of h, e, q⟩
theorem eqI_of (q : Q (.bl (decide (i = j))) H) : rEq (.int i) (.int j) H Q := by
  refine ⟨rfl, ?_⟩
  have e : decide (V.int i = V.int j) = decide (i = j) := by simp
  rw [e]
  exact q
theorem eqS_of (q : Q (.bl (decide (a = b))) H) : rEq (.str a) (.str b) H Q := by
  refine ⟨rfl, ?_⟩
  have e : decide (V.str a = V.str b) = decide (a = b) := by simp
  rw [e]
  exact q
theorem neI_of (q : Q (.bl (!decide (i = j))) H) : rNe (.int i) (.int j) H Q := by
  refine ⟨rfl, ?_⟩
  have e : decide (V.int i = V.int j) = decide (i = j) := by simp
  rw [e]
  exact q
end
/-! readings by values, folded -/
section
variable {K : PySem.W.Frag} {σ : L2.St} {H : Hp} {Q : VK} {ta td ty tv : TE} {f : Str}
def rFld (K : PySem.W.Frag) (f : Str) : V → Hp → VK → Prop := fun x H1 Q => ∃ a C dx fs v, x = .ref a ∧ H1 a = some (.ins C dx fs) ∧ Cls K C ∧ NoAttr K C f ∧ fs.lookup f = some v ∧ Q v H1
theorem tFld_eq : tFld K ta f σ H Q = ta σ H fun x H1 => rFld K f x H1 Q := rfl
theorem fld_of {a C dx : Addr} {fs : List (Str × V)} {v : V} (h : H a = some (.ins C dx fs)) (c : Cls K C) (n : NoAttr K C f) (l : fs.lookup f = some v) (q : Q v H) : rFld K f (.ref a) H Q :=
  ⟨a, C, dx, fs, v, rfl, h, c, n, l, q⟩
def rCVal (K : PySem.W.Frag) (f : Str) : V → Hp → VK → Prop := fun x H1 Q => ∃ C mc v u, x = .ref C ∧ CRead K C mc ∧ CVal K C mc f v u ∧ Q v H1
theorem tCVal_eq : tCVal K ta f σ H Q = ta σ H fun x H1 => rCVal K f x H1 Q := rfl
theorem cval_of {C : Addr} {v : V} (h : ∃ mc u, CRead K C mc ∧ CVal K C mc f v u) (q : Q v H) : rCVal K f (.ref C) H Q := by
  obtain ⟨mc, u, h1, h2⟩ := h
  exact ⟨C, mc, v, u, rfl, h1, h2, q⟩
def rProp (C : Addr) (sp : Sp) (dvs : List V) (E : XK) : V → Hp → VK → Prop := fun x H1 Q => ∃ a dx fs, x = .ref a ∧ H1 a = some (.ins C dx fs) ∧ sp (.ref a :: dvs) H1 Q E
theorem tProp_eq {C : Addr} {sp : Sp} {dvs : List V} {E : XK} : tProp C sp dvs E ta σ H Q = ta σ H fun x H1 => rProp C sp dvs E x H1 Q := rfl
theorem prop_of {C a dx : Addr} {sp : Sp} {dvs : List V} {E : XK} {fs : List (Str × V)} (h : H a = some (.ins C dx fs)) (q : sp (.ref a :: dvs) H Q E) : rProp C sp dvs E (.ref a) H Q := ⟨a, dx, fs, rfl, h, q⟩
def rDGet : V → V → Hp → VK → Prop := fun x y H2 Q => ∃ a v, x = .ref a ∧ DGet H2 a y (some v) ∧ Q v H2
theorem tDGet_eq : tDGet td ty σ H Q = td σ H fun x H1 => ty σ H1 fun y H2 => rDGet x y H2 Q := rfl
def rDIn : V → V → Hp → VK → Prop := fun y x H2 Q => ∃ a o, x = .ref a ∧ DGet H2 a y o ∧ Q (.bl o.isSome) H2
theorem tDIn_eq : tDIn ty td σ H Q = ty σ H fun y H1 => td σ H1 fun x H2 => rDIn y x H2 Q := rfl
def rDPut : V → V → V → Hp → (Hp → Prop) → Prop := fun v x y H3 q => ∃ a H4, x = .ref a ∧ DPut H3 a y v H4 ∧ q H4
theorem sDPut_eq {D : Ends} : sDPut td ty tv D σ H = tv σ H fun v H1 => td σ H1 fun x H2 => ty σ H2 fun y H3 => rDPut v x y H3 fun H4 => D.nx σ H4 := rfl
end
end My
namespace My
open PySem PySem.Spec PyProof.Rows L2 StX ClX
theorem sl_take {K : PySem.W.Frag} {H : Hp} {a : Addr} {xs : List V} {i : Nat} {Q : VK} (h : H a = some (.tup xs)) (hi : i < xs.length) (q : ∀ p, H p = Option.none → Q (.ref p) (upd H p (.tup (xs.take i)))) :
    rSlA K (.ref a) Option.none (some (i : Int)) H Q := by
  have e0 : HT.sIx xs.length 0 Option.none = 0 := rfl
  have e1 : HT.sIx xs.length xs.length (some (i : Int)) = i := by
    rw [HT.sIx_nat]
    omega
  refine ⟨a, xs, rfl, SqT.of h, fun w => ?_, fun _ p hp => ?_⟩
  · rw [e1] at w
    omega
  · have e : cutV xs Option.none (some (i : Int)) = xs.take i := by
      unfold cutV
      rw [e0, e1]
      simp
    rw [e]
    exact q p hp
end My
namespace My
open PySem PySem.Spec PyProof.Rows L2 StX ClX
def rMake (C : Addr) (sp : Sp) (E : XK) (vs : List V) (H1 : Hp) (Q : VK) : Prop := ∀ x dx, H1 x = Option.none → H1 dx = Option.none → dx ≠ x →
  sp (V.ref x :: vs) (upd (upd H1 dx (.own x)) x (.ins C dx [])) (fun v H2 => v = .non ∧ Q (.ref x) H2) E
theorem tMakeR_eq {C : Addr} {sp : Sp} {E : XK} {t : TA} {σ : L2.St} {H : Hp} {Q : VK} : tMakeR C sp E t σ H Q = t σ H fun vs H1 => rMake C sp E vs H1 Q := rfl
theorem ownB_of {C a b dx dy : Addr} {sp : Sp} {E : XK} {fs gs : List (Str × V)} {H : Hp} {Q : VK} (ha : H a = some (.ins C dx fs)) (hb : H b = some (.ins C dy gs)) (q : sp [.ref a, .ref b] H Q E) :
    rOwnB C sp E (.ref a) (.ref b) H Q := ⟨a, b, dx, dy, fs, gs, rfl, rfl, ha, hb, q⟩
theorem nth_ref {ps : List Addr} {i : Nat} {x : V} (h : (ps.map V.ref)[i]? = some x) : ∃ p, ps[i]? = some p ∧ x = V.ref p := by
  rw [List.getElem?_map] at h
  cases e : ps[i]? with
  | none => rw [e] at h; cases h
  | some p => rw [e] at h; exact ⟨p, rfl, (Option.some.inj h).symm⟩
theorem catA_of {K : PySem.W.Frag} {H : Hp} {a b : Addr} {xs ys : List V} {Q : VK} (ha : H a = some (.tup xs)) (hb : H b = some (.tup ys)) (len : xs.length + ys.length ≤ sizeLine)
    (q : ∀ p H', Same H H' → H' p = some (.tup (xs ++ ys)) → Q (.ref p) H') : rCatA K (.ref a) (.ref b) H Q := by
  refine ⟨a, b, xs, ys, rfl, rfl, SqT.of ha, SqT.of hb, len, fun e => ?_, fun _ e => ?_, fun _ _ p hp => ?_⟩
  · subst e
    exact q b H (Same.refl H) hb
  · subst e
    exact q a H (Same.refl H) (by rw [List.append_nil]; exact ha)
  · refine q p _ (fun c o e => ?_) upd_same
    rw [upd_ne (ne_of_none e hp)]
    exact e
end My
namespace My
open PySem PySem.Spec PyProof.Rows L2 StX ClX
theorem hu2 {A : Around} {k : Nat} (hr : Room k A) : A.units + 2 < cLine := by
  have := hr.un
  omega
end My
namespace My
open PySem PySem.Spec PyProof.Rows L2 StX ClX
/-! the rules whose reading names the written part, for use within a comprehension -/
section
variable {X : Cx} {K : PySem.W.Frag}
theorem ix_tupK (e : X.K = K := by rfl) : IxR X (rIxT K) := e ▸ ix_tup
theorem ix_listK (e : X.K = K := by rfl) : IxR X (rIxL K) := e ▸ ix_list
theorem op_eqDK (hu : X.A.units + 64 < cLine) (e : X.K = K := by rfl) : OpR X (compareOp .Eq) (rEqD K) := e ▸ op_eqD hu
theorem op_neDK (hu : X.A.units + 64 < cLine) (e : X.K = K := by rfl) : OpR X (compareOp .NotEq) (rNeD K) := e ▸ op_neD hu
theorem op_in_seqK (e : X.K = K := by rfl) : OpR X (compareOp .In) (rIn K false) := e ▸ op_in_seq
theorem op_notIn_seqK (e : X.K = K := by rfl) : OpR X (compareOp .NotIn) (rIn K true) := e ▸ op_notIn_seq
theorem call_lenK (e : X.K = K := by rfl) : CallR X (.builtin "len") (fun xs H Q => ∃ p ys, xs = [.ref p] ∧ (SqL K H p ys ∨ SqT K H p ys) ∧ Q (.int ys.length) H) := e ▸ call_len_seq
end
theorem dict_rel {J : It} {n : Nat} {G : Hp → Prop} {Y : Nat → Hp → V → Hp → Prop} (w : Walk J n G Y) {g : TG} {tt : TT} {tk tv : TE} {vs : List Nat} {σ : L2.St} {H1 : Hp} {D : Addr} {Qd : Hp → Prop}
    (R : Nat → List (Key × V) → Hp → Prop) (small : n ≤ 100000) (fresh : H1 D = Option.none) (hG : ∀ H, Same H1 H → G H)
    (mono : ∀ i acc H H', SameN H H' → R i acc H → R i acc H') (h0 : R 0 [] H1) (len : ∀ i acc H, R i acc H → acc.length ≤ i)
    (turn : ∀ i x H H' acc, i < n → Same H1 H → R i acc H → Y i H x H' → ∀ (no : Hp → Prop) (yes : V → V → Hp → Prop),
      (∀ H3, Same H H3 → R (i + 1) acc H3 → no H3) → (∀ k y H4, Same H H4 → R (i + 1) (putK acc k y) H4 → yes (kV k) y H4) →
      g x (wipe σ vs) H' fun σ2 H2 => wipe σ2 vs = wipe σ vs ∧ tt σ2 H2 fun b H3 => if b = true then tk σ2 H3 fun y H4 => tv σ2 H4 fun z H5 => yes y z H5 else no H3)
    (fin : ∀ acc H, Same H1 H → H D = some (.dK acc) → R n acc H → Qd H) : DcL J g tt tk tv vs σ H1 D Qd := by
  refine ⟨fun i m H => m = n - i ∧ i ≤ n ∧ ∃ acc, Same H1 H ∧ H D = some (.dK acc) ∧ R i acc H, ⟨n, by simp, Nat.zero_le _, [], ?_, upd_same, ?_⟩, ?_⟩
  · intro b o h
    rw [upd_ne (ne_of_none h fresh)]
    exact h
  · refine mono 0 [] H1 _ (fun b o h _ => ?_) h0
    rw [upd_ne (ne_of_none h fresh)]
    exact h
  · rintro i m H ⟨rfl, hi, acc, s, at_, r⟩
    by_cases lt : i < n
    · refine .inr ⟨w.goes i H lt (hG H s), fun H' => i + 1 ≤ n ∧ ∃ acc, Same H1 H' ∧ H' D = some (.dK acc) ∧ R (i + 1) acc H', fun H' q => ⟨n - (i + 1), by omega, rfl, q⟩, fun x H' y => ?_⟩
      refine turn i x H H' acc lt s r (w.yields i H x H' lt (hG H s) y) _ (fun y z H5 => ∃ kvs k, y = kV k ∧ H5 D = some (.dK kvs) ∧ kvs.length < sizeLine ∧ (i + 1 ≤ n ∧ ∃ acc, Same H1 (upd H5 D (.dK (putK kvs k z))) ∧ (upd H5 D (.dK (putK kvs k z))) D = some (.dK acc) ∧ R (i + 1) acc (upd H5 D (.dK (putK kvs k z))))) ?_ ?_
      · exact fun H3 s3 r3 => ⟨lt, acc, s.trans s3, s3 _ _ at_, r3⟩
      · intro k y H4 s4 r4
        refine ⟨acc, k, rfl, s4 _ _ at_, ?_, lt, _, ?_, upd_same, ?_⟩
        · have := len i acc H r
          exact sz5 (by omega)
        · intro b o h
          have nb : b ≠ D := ne_of_none h fresh
          rw [upd_ne nb]
          exact s4 b o (s b o h)
        · refine mono _ _ H4 _ (fun b o h nl => ?_) r4
          have nb : b ≠ D := by
            intro e
            rw [e, s4 _ _ at_] at h
            cases h
            exact nl
          rw [upd_ne nb]
          exact h
    · have e : i = n := by omega
      subst e
      exact .inl ⟨w.stops H (hG H s), fin acc H s at_ r⟩
theorem filterMap_ite {α β : Type} (p : α → Bool) (f : α → β) (l : List α) : (l.filterMap fun a => if p a = true then some (f a) else none) = (l.filter p).map f := by
  induction l with
  | nil => rfl
  | cons a r ih =>
    cases h : p a with
    | true => simp [List.filterMap_cons, List.filter_cons, h, ih]
    | false => simp [List.filterMap_cons, List.filter_cons, h, ih]
theorem paired_zip {α β : Type} {F : α → β → Prop} : ∀ {l : List α} {m : List β}, Paired F l m → ∃ zs : List (α × β), l = zs.map Prod.fst ∧ m = zs.map Prod.snd ∧ ∀ z ∈ zs, F z.1 z.2
  | _, _, .nil => ⟨[], rfl, rfl, fun z h => by simp at h⟩
  | a :: _, b :: _, .cons r t => by
    obtain ⟨zs, h1, h2, h3⟩ := paired_zip t
    refine ⟨(a, b) :: zs, by rw [h1]; rfl, by rw [h2]; rfl, fun z h => ?_⟩
    rcases List.mem_cons.mp h with e | e
    · rw [e]; exact r
    · exact h3 z e
end My
namespace My
open PySem PySem.Spec PyProof.Rows L2 StX ClX
theorem minOf_all : ∀ (xs : List Int) (x : Int), PySem.W.minOf x xs ≤ x ∧ (∀ y ∈ xs, PySem.W.minOf x xs ≤ y) ∧ (PySem.W.minOf x xs = x ∨ PySem.W.minOf x xs ∈ xs)
  | [], x => ⟨Int.le_refl _, fun y h => by simp at h, .inl rfl⟩
  | z :: xs, x => by
    have e : PySem.W.minOf x (z :: xs) = PySem.W.minOf (if z < x then z else x) xs := by
      show PySem.W.minOf (if decide (z < x) = true then z else x) xs = _
      simp
    obtain ⟨h1, h2, h3⟩ := minOf_all xs (if z < x then z else x)
    rw [e]
    by_cases c : z < x
    · rw [if_pos c] at *
      refine ⟨by omega, fun y hy => ?_, ?_⟩
      · rcases List.mem_cons.mp hy with q | q
        · rw [q]; exact h1
        · exact h2 y q
      · rcases h3 with q | q
        · rw [q]; exact .inr List.mem_cons_self
        · exact .inr (List.mem_cons_of_mem _ q)
    · rw [if_neg c] at *
      refine ⟨h1, fun y hy => ?_, ?_⟩
      · rcases List.mem_cons.mp hy with q | q
        · rw [q]; omega
        · exact h2 y q
      · rcases h3 with q | q
        · exact .inl q
        · exact .inr (List.mem_cons_of_mem _ q)
theorem minL_le {d : Int} {ns : List Int} {y : Int} (h : y ∈ ns) : minL d ns ≤ y := by
  cases ns with
  | nil => simp at h
  | cons x xs =>
    obtain ⟨h1, h2, _⟩ := minOf_all xs x
    rcases List.mem_cons.mp h with e | e
    · rw [e]; exact h1
    · exact h2 y e
theorem le_minL {d m : Int} {ns : List Int} (h0 : m ≤ d) (h : ∀ y ∈ ns, m ≤ y) : m ≤ minL d ns := by
  cases ns with
  | nil => exact h0
  | cons x xs =>
    obtain ⟨_, _, h3⟩ := minOf_all xs x
    rcases h3 with e | e
    · show m ≤ PySem.W.minOf x xs
      rw [e]
      exact h x List.mem_cons_self
    · exact h _ (List.mem_cons_of_mem _ e)
def rCKw (r : List V → List V → Hp → VK → Prop) : List V → List V → Hp → VK → Prop := r
theorem tCKw_eq {r : List V → List V → Hp → VK → Prop} {t tk : TA} {σ : L2.St} {H : Hp} {Q : VK} : tCKw r t tk σ H Q = t σ H fun vs H1 => tk σ H1 fun zs H2 => r vs zs H2 Q := rfl
theorem minD_of {K : PySem.W.Frag} {H : Hp} {a : Addr} {ns : List Int} {d : Int} {Q : VK} (h : H a = some (.lst (ns.map V.int))) (q : Q (.int (minL d ns)) H) : rMinD K [.ref a] [.int d] H Q := ⟨a, ns, d, rfl, rfl, SqL.of h, q⟩
section
variable {H : Hp} {a : Addr} {kvs : List (Key × V)} {Q : VK} {z : Str} {v : V}
theorem din_of (h : H a = some (.dK kvs)) (q : Q (.bl (valV kvs (Sum.inr z)).isSome) H) : rDIn (.str z) (.ref a) H Q := ⟨a, _, rfl, DGet.k (k := Sum.inr z) h, q⟩
theorem dget_of (h : H a = some (.dK kvs)) (e : valV kvs (Sum.inr z) = some v) (q : Q v H) : rDGet (.ref a) (.str z) H Q := by
  have g := DGet.k (k := Sum.inr z) h
  rw [e] at g
  exact ⟨a, v, rfl, g, q⟩
theorem dput_of {q : Hp → Prop} (h : H a = some (.dK kvs)) (small : kvs.length ≤ 100000) (k : q (upd H a (.dK (putK kvs (Sum.inr z) v)))) : rDPut v (.ref a) (.str z) H q :=
  ⟨a, _, rfl, DPut.k (k := Sum.inr z) h (sz5 small), k⟩
theorem same_new {p : Addr} {o : HO} (h : H p = Option.none) : Same H (upd H p o) := fun b u e => by
  rw [upd_ne (ne_of_none e h)]
  exact e
end
end My
namespace My
open PySem PySem.Spec PyProof.Rows L2 StX ClX
theorem call_intI {X : Cx} : CallR X (.type "int") (fun xs H Q => ∃ i, xs = [.int i] ∧ Q (.int i) H) := by
  intro pins s σ H xs us Q I r h
  exact call_int1 pins s σ H xs us Q I r (.inl h)
theorem gSub_eq {ta tb : TE} {ts : TSet} {v : V} {σ : L2.St} {H : Hp} {Q : L2.St → Hp → Prop} : gSub ta tb ts v σ H Q = ta σ H fun x H1 => tb σ H1 fun y H2 => ts x y v H2 fun H' => Q σ H' := rfl
theorem setL_of {H : Hp} {p : Addr} {xs : List V} {k : Int} {j : Nat} {v : V} {Q : Hp → Prop} (h : H p = some (.lst xs)) (e : ixN xs.length k = some j) (q : Q (upd H p (.lst (xs.set j v)))) : rSetL (.ref p) (.int k) v H Q :=
  ⟨p, xs, k, j, rfl, rfl, h, e, q⟩
end My
namespace My
open PySem PySem.Spec PyProof.Rows L2 StX ClX
theorem tBM_eq {K : PySem.W.Frag} {T : String} {r : V → List V → Hp → VK → Prop} {to : TE} {t : TA} {σ : L2.St} {H : Hp} {Q : VK} :
    tBM K T r to t σ H Q = to σ H fun x H1 => tyV K T x H1 ∧ t σ H1 fun xs H2 => r x xs H2 Q := rfl
theorem tyL {K : PySem.W.Frag} {H : Hp} {l : Addr} {xs : List V} (h : H l = some (.lst xs)) : tyV K "list" (.ref l) H := .inl ⟨rfl, _, SqL.of h⟩
theorem app_of {H : Hp} {l : Addr} {xs : List V} {v : V} {Q : VK} (h : H l = some (.lst xs)) (small : xs.length ≤ 100000) (q : Q .non (upd H l (.lst (xs ++ [v])))) : rAppend (.ref l) [v] H Q :=
  ⟨l, xs, v, rfl, rfl, h, sz5 small, q⟩
theorem at_last {xs : List V} {v : V} {n : Nat} (l : xs.length = n + 1) (h : xs[n]? = some v) : atI xs (-1) = some v := by
  have e : ixN xs.length (-1) = some n := by
    unfold ixN
    rw [if_neg (by decide), if_pos (by omega), l]
    congr 1
    omega
  unfold atI
  rw [e]
  exact h
end My
namespace My
open PySem PySem.Spec PyProof.Rows L2 StX ClX
theorem ix_seqK {X : Cx} {K : PySem.W.Frag} (e : X.K = K := by rfl) : IxR X (rIx K) := e ▸ ix_seq
/-- isinstance(v, (tuple, list)) -/
theorem isiTL_of {K : PySem.W.Frag} {H : Hp} {v : V} {t : String} {tp : Addr} {b1 b2 : Bool} {Q : VK} (k : Kd H v t) (e1 : kitB t "tuple" = some b1) (e2 : kitB t "list" = some b2)
    (h : H tp = some (.tup [.ty "tuple", .ty "list"])) (q : Q (.bl (b1 || b2)) H) : rIsiT K [v, .ref tp] H Q := by
  refine ⟨v, tp, _, .type t, [.type "tuple", .type "list"], b1 || b2, rfl, h, .cons (.ty _) (.cons (.ty _) .nil), k.ty, ?_, q⟩
  refine kitAny_cons (kit_ty e1) (fun f => ?_) (fun f => by rw [f]; rfl)
  rw [f, Bool.false_or]
  exact kitAny_cons (kit_ty e2) (fun f2 => by rw [f2]; rfl) (fun f2 => f2)
end My
namespace My
open PySem PySem.Spec PyProof.Rows L2 StX ClX
theorem ixq_of {K : PySem.W.Frag} {H : Hp} {a : Addr} {xs : List V} {i : Int} {j : Nat} {v : V} {Q : VK} (h : SqL K H a xs ∨ SqT K H a xs) (ei : i = (j : Int)) (e : xs[j]? = some v) (q : Q v H) : rIx K (.ref a) (.int i) H Q := by
  rcases h with h | h
  · exact .inl ⟨a, xs, i, v, rfl, rfl, h, at_of ei e, q⟩
  · exact .inr (.inl ⟨a, xs, i, v, rfl, rfl, h, at_of ei e, q⟩)
/-- .. by a relation that does not look at the new list -/
theorem comp_st {J : It} {n : Nat} {G : Hp → Prop} {Y : Nat → Hp → V → Hp → Prop} (w : Walk J n G Y) {g : TG} {tt : TT} {te : TE} {vs : List Nat} {σ : L2.St} {H1 : Hp} {D : Addr} {Qd : Hp → Prop}
    (R : Nat → List V → Hp → Prop) (small : n ≤ 100000) (hG : ∀ i acc H, R i acc H → G H)
    (put : ∀ i acc H v, R i acc H → R i acc (upd H D (.lst v))) (h0 : R 0 [] H1) (len : ∀ i acc H, R i acc H → acc.length ≤ i)
    (turn : ∀ i x H H' acc, i < n → H D = some (.lst acc) → R i acc H → Y i H x H' → ∀ (no : Hp → Prop) (yes : V → Hp → Prop),
      (∀ H3, H3 D = some (.lst acc) → R (i + 1) acc H3 → no H3) → (∀ y H4, H4 D = some (.lst acc) → R (i + 1) (acc ++ [y]) H4 → yes y H4) →
      g x (wipe σ vs) H' fun σ2 H2 => wipe σ2 vs = wipe σ vs ∧ tt σ2 H2 fun b H3 => if b = true then te σ2 H3 yes else no H3)
    (fin : ∀ acc H, H D = some (.lst acc) → R n acc H → Qd H) : LcL J g tt te vs σ H1 D Qd := by
  refine lc_it w (fun i H => ∃ acc, H D = some (.lst acc) ∧ R i acc H) ⟨[], upd_same, put _ _ _ _ h0⟩ (fun i H _ p => ?_) (fun i x H H' hi p y => ?_) (fun H p => ?_)
  · obtain ⟨acc, _, r⟩ := p
    exact hG i acc H r
  · obtain ⟨acc, at_, r⟩ := p
    refine turn i x H H' acc hi at_ r y _ _ (fun H3 a3 r3 => ⟨acc, a3, r3⟩) (fun v H4 a4 r4 => ⟨acc, a4, ?_, acc ++ [v], upd_same, put _ _ _ _ r4⟩)
    have := len i acc H r
    exact sz5 (by omega)
  · obtain ⟨acc, at_, r⟩ := p
    exact fin acc H at_ r
section
variable {X : Cx} {pos : Pos}
theorem pg_tupK {K : PySem.W.Frag} {es : List Expr} {k : Nat} {t : TGs} {n : Nat} (e : X.K = K) (hc : X.calm = true) (h : PGs X es t) (hn : (assignEach es X.env).length = n := by rfl) (hst : (assignEach es X.env).findIdx? (·.1) = none := by rfl) : PG X (.Tuple es k pos) (gTup K n t) := e ▸ pg_tup hc h hn hst
end
theorem isD_of {H : Hp} {a : Addr} {kvs : List (Key × V)} (h : H a = some (.dK kvs)) : IsD H a := .inl ⟨kvs, .inl h⟩
/-- all but lists stays -/
def SameT (H H' : Hp) : Prop := ∀ b o, H b = some o → (∀ l, o ≠ HO.lst l) → H' b = some o
theorem SameT.of {H H' : Hp} (e : Same H H') : SameT H H' := fun b o h _ => e b o h
theorem SameT.trans {H H1 H2 : Hp} (a : SameT H H1) (b : SameT H1 H2) : SameT H H2 := fun c o h f => b c o (a c o h f) f
theorem SameT.put {H : Hp} {D : Addr} {l v : List V} (h : H D = some (.lst l)) : SameT H (upd H D (.lst v)) := fun b o hb f => by
  rw [upd_ne (fun z => f l (by rw [z, h] at hb; exact (Option.some.inj hb).symm))]
  exact hb
theorem SameT.tup {H H' : Hp} {a : Addr} {xs : List V} (s : SameT H H') (h : H a = some (.tup xs)) : H' a = some (.tup xs) := s _ _ h (fun l z => by cases z)
theorem SameT.dic {H H' : Hp} {a : Addr} {xs : List (Key × V)} (s : SameT H H') (h : H a = some (.dK xs)) : H' a = some (.dK xs) := s _ _ h (fun l z => by cases z)
/-- the object of a method's call -/
def rMObj (C : Addr) (m : Str) : V → Hp → Prop → Prop := fun x H1 q => ∃ a dx fs, x = .ref a ∧ H1 a = some (.ins C dx fs) ∧ fs.lookup m = Option.none ∧ q
theorem tMeth_eq {C : Addr} {m : Str} {sp : Sp} {dvs : List V} {E : XK} {ta : TE} {t : TA} {σ : L2.St} {H : Hp} {Q : VK} : tMeth C m sp dvs E ta t σ H Q = ta σ H fun x H1 => rMObj C m x H1 (t σ H1 fun vs H2 => sp (x :: (vs ++ dvs)) H2 Q E) := rfl
theorem mobj_of {C a dx : Addr} {m : Str} {H1 : Hp} {fs : List (Str × V)} {q : Prop} (h : H1 a = some (.ins C dx fs)) (l : fs.lookup m = Option.none) (k : q) : rMObj C m (.ref a) H1 q := ⟨a, dx, fs, rfl, h, l, k⟩
end My
namespace My
open PySem PySem.Spec PyProof.Rows L2 GenW
section
variable {M : Model} {A : Around} {R : GenEnd} {Y : Protocol} {n : Nat} {s₀ : Shared} {c : Code} {fs : List Frame} {s : Shared} {env : Env}
  {K : Flow → Sem Fin} {H : Value → Sem Fin} {gd : Bool → Bool} {lv : List Value → List Value}
theorem seg_bindw {α β : Type} {m : Sem α} {f : α → Sem β} {K : β → Sem PySem.Fin} {H : Value → Sem PySem.Fin} {gd : Bool → Bool} {lv : List Value → List Value}
    (h : wpAny M (A.over c fs) m (fun a s' => Seg M A R Y n s₀ c ((f a).wrap K H gd lv) fs s') (fun x s' => Seg M A R Y n s₀ c (H x) fs s') s) : Seg M A R Y n s₀ c ((m >>= f).wrap K H gd lv) fs s := by
  rw [Sem.bind_eq_wrap', Sem.wrap_wrap]
  exact seg_wrap h
theorem seg_For {tg iter : Expr} {body orelse : List Stmt} {pos : Pos} {K : Flow → Sem PySem.Fin} {H : Value → Sem PySem.Fin} {gd : Bool → Bool} {lv : List Value → List Value}
    (h : wpAny M (A.over c fs) (eval iter env) (fun x s1 => wpAny M (A.over c fs) (pyIter x) (fun it s2 => ∀ p, Seg M A R Y n s₀ (.forLoop tg it body orelse env) (M.den (.forLoop tg it body orelse env))
      (.ret (fun r => ((match r with | .ok f => (.pure f : Sem Flow) | .error e => .raise e).onRaise (cameBack env)).wrap K H gd lv) none (gd false) (lv []) c p [] :: fs) s2) (fun x s' => Seg M A R Y n s₀ c (H x) fs s') s1) (fun x s' => Seg M A R Y n s₀ c (H x) fs s') s)
    (hs : ∀ x, foldedSetIterable iter env x = pure x := by intro _; rfl) : Seg M A R Y n s₀ c ((exec (.For tg iter body orelse pos) env).wrap K H gd lv) fs s := by
  rw [exec_For]
  refine seg_bindw (wpAny_standAt ?_)
  refine seg_bindw (wpAny_mono h (fun x s1 h1 => ?_) fun _ _ z => z)
  refine seg_bindw (wpAny_of_eq (hs x) ?_)
  refine seg_bindw (wpAny_standAt ?_)
  refine seg_bindw (wpAny_holding (wpAny_mono h1 (fun it s2 h2 => ?_) fun _ _ z => z))
  exact seg_call h2
end
section
variable {prog : Program} {w : World} {A : Around} {R : GenEnd} {Y : Protocol} {n : Nat} {s₀ : Shared} {fs : List Frame} {s : Shared} {env : Env}
abbrev notedK (env : Env) : Value → Sem PySem.Fin := fun e => (do noteFrame e env; theTreesLotGoes e : Sem Unit).wrap (fun _ => .raise e) .raise id id
theorem seg_noted {m : Sem PySem.Fin} {c : Code} (h : Seg (model prog w) A R Y n s₀ c (m.wrap .pure (notedK env) id id) fs s) : Seg (model prog w) A R Y n s₀ c (m.onRaise (fun x => do noteFrame x env; theTreesLotGoes x)) fs s := by
  rw [Sem.onRaise_eq_wrap]
  rw [Sem.wrap_congr m (K' := .pure) (H' := notedK env) _ _ (fun _ => rfl) (fun e => by
    show (do noteFrame e env; theTreesLotGoes e : Sem Unit).bind (fun _ => .raise e) = _
    rw [Sem.bind_eq_wrap])]
  exact h
theorem seg_forLoop {tg : Expr} {it : Value} {body orelse : List Stmt}
    (h : wpAny (model prog w) (A.over (.forLoop tg it body orelse env) fs) (pyNext it) (fun r s1 => match r with
      | none => Seg (model prog w) A R Y n s₀ (.block orelse env) ((model prog w).den (.block orelse env)) fs s1
      | some v => wpAny (model prog w) (A.over (.forLoop tg it body orelse env) fs) (letOwnedTupleGo tg it v) (fun _ s2 => wpAny (model prog w) (A.over (.forLoop tg it body orelse env) fs) (assign tg env v) (fun _ s3 =>
          Seg (model prog w) A R Y n s₀ (.forLoop tg it body orelse env) ((execs body env).wrap (fun f => match f with
            | .next | .cont => .pure (.again (.forLoop tg it body orelse env))
            | .brk => .pure (.done .next)
            | .ret v => .pure (.done (.ret v))) (notedK env) id id) fs s3)
          (fun x s' => Seg (model prog w) A R Y n s₀ (.forLoop tg it body orelse env) (notedK env x) fs s') s2) (fun x s' => Seg (model prog w) A R Y n s₀ (.forLoop tg it body orelse env) (notedK env x) fs s') s1)
      (fun x s' => Seg (model prog w) A R Y n s₀ (.forLoop tg it body orelse env) (notedK env x) fs s') s) :
    Seg (model prog w) A R Y n s₀ (.forLoop tg it body orelse env) ((model prog w).den (.forLoop tg it body orelse env)) fs s := by
  show Seg _ A R Y n s₀ _ ((forTurn tg it body orelse env).onRaise (fun x => do noteFrame x env; theTreesLotGoes x)) fs s
  refine seg_noted ?_
  simp only [forTurn]
  refine seg_bindw (wpAny_standAt ?_)
  refine seg_bindw (wpAny_onRaise (wpAny_mono h (fun r s1 h1 => ?_) fun _ _ z => wpAny_standAt z))
  cases r with
  | none => exact seg_again rfl h1
  | some v =>
    refine seg_bindw (wpAny_mono h1 (fun _ s2 h2 => ?_) fun _ _ z => z)
    refine seg_bindw (wpAny_mono h2 (fun _ s3 h3 => ?_) fun _ _ z => z)
    rw [Sem.bind_eq_wrap', Sem.wrap_wrap]
    have e : ∀ {K1 K2 : Flow → Sem PySem.Fin} {H1 H2 : Value → Sem PySem.Fin} (gd : Bool → Bool) (lv : List Value → List Value), (∀ f, K1 f = K2 f) → (∀ x, H1 x = H2 x) →
        Seg (model prog w) A R Y n s₀ (.forLoop tg it body orelse env) ((execs body env).wrap K2 H2 gd lv) fs s3 → Seg (model prog w) A R Y n s₀ (.forLoop tg it body orelse env) ((execs body env).wrap K1 H1 gd lv) fs s3 := fun gd lv q1 q2 z => by
      rw [Sem.wrap_congr (execs body env) gd lv q1 q2]
      exact z
    refine e _ _ (fun f => ?_) (fun x => ?_) h3
    · cases f <;> rfl
    · rfl
end
section
variable {X : Cx} {tg : Expr}
/-- for in a generator: the body may hand out -/
def tGFor (wi : TI) (g : TG) (tb : TGn) : TGn := fun D ys σ H => wi σ H fun J H1 => ∃ W : Nat → Nat → List V → L2.St → Hp → Prop, (∃ m, W 0 m ys σ H1) ∧ ∀ i m ys σ H, W i m ys σ H →
  (J.stop i H ∧ D.nx ys σ H) ∨ (J.go i H ∧ ∃ N : List V → L2.St → Hp → Prop, (∀ ys' σ' H', N ys' σ' H' → ∃ m', m' < m ∧ W (i + 1) m' ys' σ' H') ∧ ∀ x H', J.yld i H x H' → g x σ H' fun σ2 H2 => tb { D with nx := N, ct := N, bk := D.nx } ys σ2 H2)
theorem gs_for {iter : Expr} {body : List Stmt} {wi : TI} {g : TG} {tb : TGn} {pos : Pos} (hp : PassesOwn (model X.prog X.w) X.A X.env X.xe) (hc : X.calm = true) (hi : PI X tg iter wi) (hg : PG X tg g) (hb : GSs X body tb)
    (hs : ∀ x, foldedSetIterable iter X.env x = pure x := by intro _; rfl) : GS X (.For tg iter body [] pos) (tGFor wi g tb) := by
  refine ⟨fun A S ip R n ys s₀ c fs K J gd lv s σ H D gc hn k hI ht => ?_⟩
  obtain ⟨acc, cc, r, I⟩ := hI
  refine seg_For ?_ hs
  rw [gc.over]
  refine wpAny_mono (hi.run _ s σ H _ I ht) (fun v s1 h1 => wpAny_mono h1 (fun itv s2 h2 p => ?_) fun x s' hx => k.exc n s₀ x s' hx) fun x s' hx => k.exc n s₀ x s' hx
  obtain ⟨it, fp, tn, Jt, H2, e, I2, T, st2, f2, W, ⟨m0, w0⟩, turn⟩ := h2
  subst e
  have gl := fun (kk : Result → Sem PySem.Fin) => gc_loop (k := kk) (c' := .forLoop tg (.ref it) body [] X.env) (l := lv []) (kp := []) (p := p) gc rfl rfl
  have nS : ∀ b ∈ fp, S ≠ b := fun b hb => (f2 b hb).2.2.2.2.2 (S, lstObj acc cc) (List.mem_append_right _ List.mem_cons_self)
  have stat : ∀ {H' : Hp} (acc' : Array Value) (cc' : Nat), (∀ b ∈ fp, H' b = Option.none) → ∀ b ∈ fp, FpOk X ((S, lstObj acc' cc') :: ip) H' b := fun {H'} acc' cc' hn b hb => by
    obtain ⟨_, f3, f4, f5, f6, f7⟩ := f2 b hb
    refine ⟨hn b hb, f3, f4, f5, f6, fun q hq => ?_⟩
    rcases List.mem_append.mp hq with z | z
    · exact f7 q (List.mem_append_left _ z)
    · rcases List.mem_cons.mp z with z | z
      · rw [z]
        exact nS b hb
      · exact f7 q (List.mem_append_right _ (List.mem_cons_of_mem _ z))
  have loop : ∀ (m i n : Nat) (ys : List V) (s₀ s : Shared) (σ : L2.St) (H : Hp), n + ys.length = sizeLine → W i m ys σ H → GI X S ip ys σ H s → tn i s.heap → (∀ b ∈ fp, H b = Option.none) →
      Seg (model X.prog X.w) A R (GY X S) n s₀ (.forLoop tg (.ref it) body [] X.env) ((model X.prog X.w).den (.forLoop tg (.ref it) body [] X.env))
        (.ret (fun r => ((match r with | .ok f => (.pure f : Sem Flow) | .error e => .raise e).onRaise (cameBack X.env)).wrap K J gd lv) none (gd false) (lv []) c p [] :: fs) s := by
    intro m
    induction m using Nat.strongRecOn with
    | ind m ih =>
      intro i n ys s₀ s σ H hn w hI st fr
      have ee : ∀ (n : Nat) (s₀ : Shared) (x : Value) (s' : Shared), X.xe x s' → Seg (model X.prog X.w) A R (GY X S) n s₀ (.forLoop tg (.ref it) body [] X.env) (notedK X.env x)
          (.ret (fun r => ((match r with | .ok f => (.pure f : Sem Flow) | .error e => .raise e).onRaise (cameBack X.env)).wrap K J gd lv) none (gd false) (lv []) c p [] :: fs) s' := fun n s₀ x s' hx => by
        refine seg_wrap ?_
        rw [(gl _).over]
        refine wpAny_bind (wpAny_mono (hp x s' hx) (fun _ s'' hcb => wpAny_theTreesLotGoes ?_) fun y s'' hcb => ?_)
        · exact seg_leaf (.error x) (seg_cameBack gc k hcb)
        · exact seg_leaf (.error y) (seg_cameBack gc k hcb)
      refine seg_forLoop ?_
      rw [(gl _).over]
      obtain ⟨acc, cc, r, I⟩ := hI
      rcases turn i m ys σ H w with ⟨stop, qn⟩ | ⟨go, N, hN, step⟩
      · refine wpAny_mono (T.done X rfl rfl rfl hc i _ s σ H X.xe I (stat acc cc fr) st stop) (fun r4 s4 h4 => ?_) fun x s' hx => ee n s₀ x s' hx
        obtain ⟨hr, I4⟩ := h4
        subst hr
        exact seg_leaf (.ok .next) (k.ok n ys s₀ s4 .next hn ⟨σ, H, ⟨acc, cc, r, I4⟩, qn⟩)
      · refine wpAny_mono (T.item X rfl rfl rfl hc i _ s σ H X.xe I (stat acc cc fr) st go) (fun r4 s4 h4 => ?_) fun x s' hx => ee n s₀ x s' hx
        obtain ⟨u, hr, h5⟩ := h4
        subst hr
        refine wpAny_mono h5 (fun _ s5 h6 => ?_) fun x s' hx => ee n s₀ x s' hx
        obtain ⟨x, H5, I5, r5, y5, st5, fr5⟩ := h6
        have I5' := I5.pinned (stat acc cc fr5) (T.obj _ _ st5)
        refine wpAny_mono (hg.run _ s5 σ H5 x u _ I5' r5 (step x H5 y5)) (fun _ s6 h7 => ?_) fun x s' hx => ee n s₀ x s' hx
        obtain ⟨σ6, H6, I6, q6⟩ := h7
        have gl2 : GC X S (ip ++ pinsAt fp s5.heap) A (.forLoop tg (.ref it) body [] X.env) (.ret (fun r => ((match r with | .ok f => (.pure f : Sem Flow) | .error e => .raise e).onRaise (cameBack X.env)).wrap K J gd lv) none (gd false) (lv []) c p [] :: fs) id :=
          { gl _ with ip := fun q hq => (List.mem_append.mp hq).elim (fun z => gc.ip q z) fun z => fun e => nS _ (of_pinsAt z).1 e.symm }
        have again : ∀ {n' : Nat} {ys' : List V} {s₀' s7 : Shared} {σ7 : L2.St} {H7 : Hp}, n' + ys'.length = sizeLine → GI X S (ip ++ pinsAt fp s5.heap) ys' σ7 H7 s7 → N ys' σ7 H7 →
            Seg (model X.prog X.w) A R (GY X S) n' s₀' (.forLoop tg (.ref it) body [] X.env) (.pure (.again (.forLoop tg (.ref it) body [] X.env)))
              (.ret (fun r => ((match r with | .ok f => (.pure f : Sem Flow) | .error e => .raise e).onRaise (cameBack X.env)).wrap K J gd lv) none (gd false) (lv []) c p [] :: fs) s7 := by
          intro n' ys' s₀' s7 σ7 H7 hn' hI7 n7
          obtain ⟨acc7, cc7, r7, I7⟩ := hI7
          obtain ⟨m', hm, w7⟩ := hN ys' σ7 H7 n7
          have I7 : Inv X (((S, lstObj acc7 cc7) :: ip) ++ pinsAt fp s5.heap) σ7 H7 s7 := I7
          refine seg_again rfl (ih m' hm (i + 1) n' ys' s₀' s7 σ7 H7 hn' w7 ⟨acc7, cc7, r7, I7.unpinned⟩ (T.keep _ _ _ st5 fun b hb o e => (I7.pin (b, o) (List.mem_append_right _ (List.mem_append_right _ (mem_pinsAt hb e)))).1) fun b hb => ?_)
          obtain ⟨o, e, d⟩ := T.obj _ _ st5 b hb
          exact (I7.pin (b, o) (List.mem_append_right _ (List.mem_append_right _ (mem_pinsAt hb e)))).2.1
        refine hb.run A S (ip ++ pinsAt fp s5.heap) R n ys s₀ _ _ _ _ id id s6 σ6 H6 { D with nx := N, ct := N, bk := D.nx } gl2 hn ⟨fun n' ys' s₀' s3 f hn' hs => ?_, fun n' s₀' x s3 hx => ee n' s₀' x s3 hx⟩ ⟨acc, cc, r, I6⟩ q6
        have unp : ∀ {ys' : List V} {σ7 : L2.St} {H7 : Hp} {s7 : Shared}, GI X S (ip ++ pinsAt fp s5.heap) ys' σ7 H7 s7 → GI X S ip ys' σ7 H7 s7 := fun {ys' σ7 H7 s7} ⟨acc7, cc7, r7, I7⟩ => by
          have I7 : Inv X (((S, lstObj acc7 cc7) :: ip) ++ pinsAt fp s5.heap) σ7 H7 s7 := I7
          exact ⟨acc7, cc7, r7, I7.unpinned⟩
        cases f with
        | next =>
          obtain ⟨σ7, H7, I7, n7⟩ := hs
          exact again hn' I7 n7
        | cont =>
          obtain ⟨σ7, H7, I7, n7⟩ := hs
          exact again hn' I7 n7
        | brk =>
          obtain ⟨σ7, H7, I7, q7⟩ := hs
          exact seg_leaf (.ok .next) (k.ok n' ys' s₀' s3 .next hn' ⟨σ7, H7, unp I7, q7⟩)
        | ret v =>
          obtain ⟨x7, σ7, H7, I7, r7, q7⟩ := hs
          exact seg_leaf (.ok (.ret v)) (k.ok n' ys' s₀' s3 (.ret v) hn' ⟨x7, σ7, H7, unp I7, r7, q7⟩)
  exact loop m0 0 n ys s₀ s2 σ H2 hn w0 ⟨acc, cc, r, I2⟩ st2 fun b hb => (f2 b hb).1
end
/-! the reading, folded -/
def GForL (J : It) (g : TG) (tb : TGn) (D : GEnds) (ys : List V) (σ : L2.St) (H1 : Hp) : Prop := ∃ W : Nat → Nat → List V → L2.St → Hp → Prop, (∃ m, W 0 m ys σ H1) ∧ ∀ i m ys σ H, W i m ys σ H →
  (J.stop i H ∧ D.nx ys σ H) ∨ (J.go i H ∧ ∃ N : List V → L2.St → Hp → Prop, (∀ ys' σ' H', N ys' σ' H' → ∃ m', m' < m ∧ W (i + 1) m' ys' σ' H') ∧ ∀ x H', J.yld i H x H' → g x σ H' fun σ2 H2 => tb { D with nx := N, ct := N, bk := D.nx } ys σ2 H2)
theorem tGFor_eq {wi : TI} {g : TG} {tb : TGn} {D : GEnds} {ys : List V} {σ : L2.St} {H : Hp} : tGFor wi g tb D ys σ H = wi σ H fun J H1 => GForL J g tb D ys σ H1 := rfl
theorem gfor_rel {J : It} {n : Nat} {G : Hp → Prop} {Y : Nat → Hp → V → Hp → Prop} (w : Walk J n G Y) {g : TG} {tb : TGn} {D : GEnds} {ys : List V} {σ : L2.St} {H : Hp} (Pv : Nat → List V → L2.St → Hp → Prop) (h0 : Pv 0 ys σ H) (hG : ∀ i ys σ H, i ≤ n → Pv i ys σ H → G H)
    (hs : ∀ i x ys σ H H', i < n → Pv i ys σ H → Y i H x H' → g x σ H' fun σ2 H2 => tb { D with nx := Pv (i + 1), ct := Pv (i + 1), bk := D.nx } ys σ2 H2) (hd : ∀ ys σ H, Pv n ys σ H → D.nx ys σ H) : GForL J g tb D ys σ H := by
  refine ⟨fun i m ys σ H => m = n - i ∧ i ≤ n ∧ Pv i ys σ H, ⟨n, by simp, Nat.zero_le _, h0⟩, ?_⟩
  rintro i m ys σ H ⟨rfl, hi, p⟩
  have q := hG i ys σ H hi p
  by_cases hlt : i < n
  · exact .inr ⟨w.goes i H hlt q, Pv (i + 1), fun ys' σ' H' p' => ⟨n - (i + 1), by omega, rfl, hlt, p'⟩, fun x H' y => hs i x ys σ H H' hlt p (w.yields i H x H' hlt q y)⟩
  · have e : i = n := by omega
    subst e
    exact .inl ⟨w.stops H q, hd ys σ H p⟩
theorem gcx_K {P : Program} {w : World} {K : PySem.W.Frag} {mg : Str → Option Value} {base : Heap} {N : List Str} {qual : Str} {scope : Scope} {f : Addr} {cd : Value} {A : Around} {outer : List Env} {s : Shared} {H : Hp} {E : XK} {pn : List (Addr × Obj)} :
    (gcxOf P w K mg base N qual scope f cd A outer s H E pn).K = K := rfl
end My
/-! set(l) of a list of ints, kept as a value. -/
namespace My
open PySem PySem.Spec PyProof.Rows L2 StX ClX
/-- a set just made -/
abbrev bareSet (led : Bool) : Obj := { cls := .type "set", dict := none, data := .set #[] 0 (.fresh 0 0 led) }
section
variable {P : Program} {w : World} {A : Around} {E : Value → Shared → Prop} {s : Shared}
theorem set_of_list {l : Addr} {items : Array Value} (ns : List Int) {Q : Value → Shared → Prop} (calm : A.handled = none) (isl : s.heap.IsList l items) (ints_ : IntsAre items.toList ns) (few : ns.length + 1 < scanBound)
    (done : ∀ (h2 : Heap) (tk c : Nat), SetR w h2 s.heap.objs.size (fun j => decide (j ∈ ns)) c → c ≤ ns.length → (∀ b o, s.heap.get? b = some o → h2.get? b = some o) → Q (.ref s.heap.objs.size) { s with heap := h2, toks := tk }) :
    wpAny (model P w) A (call (.type "set") [.ref l]) Q E s := by
  have size : items.size = ns.length := by simpa using IntsAre.length ints_
  obtain ⟨_, _, hmro⟩ := F.called_set.mro
  have hmade := F.called_set.made
  have hsub := F.called_set.sub
  refine wpAny_call (codeAny_of_tree ?_)
  show wpAny _ _ (callAny (.type "set") _) _ _ _
  refine wpAny_pure ⟨Code.quiet_builtin _ (by decide +kernel), codeAny_builtin PySem.F.entry_type_call ?_⟩
  rw [Around.under_plain (weight_type_call_type "set" [.ref l] []) rfl]
  have h1 := F.called_set.notType
  have h2 := F.called_set.canCreate
  have hct := F.typeCall_set_1 (.ref l)
  repeat (any_goals (first | assumption | wp_step))
  let led := !w.params.followText "set-order"
  have eled : (!w.params.followText "set-order") = led := rfl
  refine codeAny_mono (code_set_led1 (.ref l) (E := E) (Q₁ := fun made s₁ => made = .ref s.heap.objs.size ∧ s₁ = { s with heap := s.heap.push (bareSet led) }) ⟨rfl, rfl⟩) fun r s₁ hr => ?_
  cases r with
  | error e => exact hr
  | ok fl =>
  cases fl with
  | ret made =>
    obtain ⟨rfl, rfl⟩ := hr
    have atS : (s.heap.push (bareSet led)).get? s.heap.objs.size = some (bareSet led) := Heap.get?_push_size _ rfl
    have isS : Shared.TypeIs { s with heap := s.heap.push (bareSet led) } (.ref s.heap.objs.size) "set" := ⟨_, atS, rfl⟩
    have hli := F.called_set.init.lookup
    have hbi := F.called_set.init.bind (.ref s.heap.objs.size)
    repeat (any_goals (first | assumption | wp_step))
    refine codeAny_mono (codeAny_call_builtin (R := wants (fun r s₂ => r = .none ∧ ∃ h2 tk c, s₂ = { s with heap := h2, toks := tk } ∧ SetR w h2 s.heap.objs.size (fun j => decide (j ∈ ns)) c ∧ c ≤ ns.length ∧
      (∀ b o, s.heap.get? b = some o → h2.get? b = some o)) E) F.called_set.init.plain F.entry_set_init (check_set_init_1 isS ?_)) fun r₂ s₂ hr₂ => ?_
    · obtain ⟨⟨ocls, odict, odata, oslots⟩, atL, hcl, nl, hdl⟩ := isl
      simp only at hcl hdl
      subst hcl; subst hdl
      have atL2 : (s.heap.push (bareSet led)).get? l = some { cls := .type "list", dict := odict, data := .seq items nl, slots := oslots } := Heap.get?_push_of_some _ atL
      have hsls := PySem.F.sub_list_set
      have hslf := PySem.F.sub_list_frozenset
      have hne : (Value.type "list" == Value.type "dict") = false := by decide
      have isl2 : (s.heap.push (bareSet led)).IsList l items := ⟨_, atL2, rfl, nl, rfl⟩
      unfold Builtin.«set.__init__» noKeywords Builtin.Frozenset.updateFrom
      generalize hPI : pyIter = PI
      wp_walk
      subst hPI
      refine wpAny_pyIter_list isl2 ?_
      refine wpAny_bind (wpAny_runValue ?_)
      have below : l < s.heap.objs.size := Heap.lt_size atL
      have calm3 : A.in1.in1.in1.handled = none := by simp [calm]
      have grown : (s.heap.push (bareSet led)).objs.size = s.heap.objs.size + 1 := Heap.size_push ..
      have apart : l ≠ (s.heap.push (bareSet led)).objs.size := Nat.ne_of_lt (by rw [grown]; exact Nat.lt_succ_of_lt below)
      have fresh : s.heap.objs.size ∉ [(s.heap.push (bareSet led)).objs.size, l] := by
        simp only [List.mem_cons, List.not_mem_nil, or_false, not_or]
        exact ⟨Nat.ne_of_lt (by rw [grown]; exact Nat.lt_succ_self _), Nat.ne_of_gt below⟩
      have each : ∀ (i : Nat) (v : Value), items[i]? = some v → ∃ k t, ns[i]? = some k ∧ v = .int k t := fun i v hv => by
        have hi : i < ns.length := size ▸ (Array.getElem?_eq_some_iff.mp hv).1
        obtain ⟨t, e⟩ := PyProof.Rows.IntsAre.int_at ints_ i v (by simpa using hv)
        exact ⟨ns[i], t, List.getElem?_eq_getElem hi, by simpa [List.getD_eq_getElem?_getD, List.getElem?_eq_getElem hi] using e⟩
      refine set_update_ints ((Walks.list calm3 _ l apart items).toS) s.heap.objs.size fresh ns size few each (items.size - 0) 0 _ (by omega) (Nat.zero_le _)
        ⟨⟨_, Heap.get?_push_size _ rfl, rfl, rfl⟩, (isl2.push _)⟩ ⟨0, Nat.le_refl 0, setR_new_at (Heap.get?_push_of_some _ atS)⟩ ?_
      rintro ⟨h2, gens, drawn, tk, os⟩ c moved le R
      have eg : gens = s.gens := moved.gens
      have ed : drawn = s.drawn := moved.drawn
      have eo : os = s.os := moved.os
      subst eg; subst ed; subst eo
      show wpAny _ _ _ _ _ _
      refine wpAny_pure ?_
      show wpAny _ _ (ret Value.none) _ _ _
      refine wpAny_pure ⟨rfl, h2, tk, c, rfl, R, size ▸ le, fun b o e => ?_⟩
      have lt := Heap.lt_size e
      refine moved.heap b o ?_ (Heap.get?_push_of_some _ (Heap.get?_push_of_some _ e))
      simp only [List.mem_cons, List.not_mem_nil, or_false, not_or]
      exact ⟨Nat.ne_of_lt lt, Nat.ne_of_lt (by rw [grown]; exact Nat.lt_succ_of_lt lt)⟩
    · cases r₂ with
      | error e => exact hr₂
      | ok fl₂ =>
      cases fl₂ with
      | ret r =>
        obtain ⟨rfl, h2, tk, c, rfl, R, le, kept⟩ := hr₂
        repeat (any_goals (first | assumption | wp_step))
        exact done _ _ _ R le kept
      | _ => exact hr₂.elim
  | _ => exact hr.elim
end
section
variable {X : Cx}
def rSetL (w : World) : List V → Hp → VK → Prop := fun vs H Q => ∃ (l : Addr) (ns : List Int), vs = [.ref l] ∧ H l = some (.lst (ns.map V.int)) ∧ ns.length + 1 < scanBound ∧
  ∀ p c, H p = none → c ≤ ns.length → Q (.ref p) (upd H p (SetO w p (fun j => decide (j ∈ ns)) c))
theorem cr_setL (calm : X.calm = true) : CallR X (.type "set") (rSetL X.w) := by
  intro pins s σ H vs us Q I r h
  obtain ⟨l, ns, rfl, hl, few, q⟩ := h
  cases r with
  | cons r rr =>
  cases rr
  cases r
  obtain ⟨its, rv, ⟨o, n, ho, hc, hd, hs⟩, hz⟩ := I.list (SqL.of hl)
  refine set_of_list ns (I.ok.hd calm) ⟨o, ho, hc, n, hs⟩ (ints_of_vals rv) few fun h2 tk c R le kept => ?_
  exact ⟨.ref _, upd H s.heap.objs.size (SetO X.w s.heap.objs.size (fun j => decide (j ∈ ns)) c), I.laid (t' := tk) (fun b u e => kept b u e) (Nat.le_refl _) (setO_new R), rfl, q _ c (I.hok.fresh (Nat.le_refl _)) le⟩
end
end My
namespace My
open PySem PySem.Spec PyProof.Rows L2 StX ClX
theorem slL_lo {K : PySem.W.Frag} {H : Hp} {a : Addr} {xs : List V} {t : Nat} {Q : VK} (h : H a = some (.lst xs)) (ht : t ≤ xs.length) (q : ∀ p, H p = Option.none → Q (.ref p) (upd H p (.lst (xs.drop t)))) : rSlL K (.ref a) (some (t : Int)) Option.none H Q := by
  refine ⟨a, xs, rfl, SqL.of h, fun p hp => ?_⟩
  have e : cutV xs (some (t : Int)) Option.none = xs.drop t := by
    unfold cutV
    rw [HT.sIx_nat, HT.sIx_none, Nat.min_eq_left ht]
    exact List.take_of_length_le (by rw [List.length_drop]; exact Nat.le_refl _)
  rw [e]
  exact q p hp
theorem slL_hi {K : PySem.W.Frag} {H : Hp} {a : Addr} {xs : List V} {t : Nat} {Q : VK} (h : H a = some (.lst xs)) (ht : t ≤ xs.length) (q : ∀ p, H p = Option.none → Q (.ref p) (upd H p (.lst (xs.take t)))) : rSlL K (.ref a) Option.none (some (t : Int)) H Q := by
  refine ⟨a, xs, rfl, SqL.of h, fun p hp => ?_⟩
  have e : cutV xs Option.none (some (t : Int)) = xs.take t := by
    unfold cutV
    rw [HT.sIx_nat, HT.sIx_none, Nat.min_eq_left ht]
    simp
  rw [e]
  exact q p hp
theorem SameT.put' {H : Hp} {D : Addr} {v : List V} (h : H D = Option.none ∨ ∃ l, H D = some (.lst l)) : SameT H (upd H D (.lst v)) := by
  rcases h with h | ⟨l, h⟩
  · exact SameT.of fun b o e => by rw [upd_ne (ne_of_none e h)]; exact e
  · exact SameT.put h
/-- all but the object at r stays -/
def SameX (r : Addr) (H H' : Hp) : Prop := ∀ b o, b ≠ r → H b = some o → H' b = some o
theorem SameX.refl (r : Addr) (H : Hp) : SameX r H H := fun _ _ _ h => h
theorem SameX.trans {r : Addr} {H H1 H2 : Hp} (a : SameX r H H1) (b : SameX r H1 H2) : SameX r H H2 := fun c o n h => b c o n (a c o n h)
theorem SameX.of {r : Addr} {H H' : Hp} (e : Same H H') : SameX r H H' := fun b o _ h => e b o h
theorem SameX.upd {r : Addr} {H : Hp} {o : HO} : SameX r H (upd H r o) := fun b u n h => by rw [upd_ne n]; exact h
theorem raw0 {P : Program} {w : World} {K : PySem.W.Frag} {mg : Str → Option Value} {base : Heap} {CX : CXT} {k : Nat} {f : Addr} {sp : Sp} {fd : FuncData} {ps : List Str} (F : FnOk P w K mg base CX k f fd ps sp) (hb : Binds K fd ps []) : FnR P w K mg base CX k f sp := by
  have h := F.raw hb .nil
  simpa using h
end My
/-! Own `__len__`, `__getitem__`, `__contains__`, `__eq__` of plain instances. -/
namespace My
open PySem PySem.Spec PyProof.Rows L2 StX ClX
section
variable {X : Cx} {CX : CXT} {g C : Addr} {n : Nat} {sp : Sp} {E : XK}
/-- a callee below the running body -/
theorem run_low {pins : List (Addr × Obj)} {σ : L2.St} {H : Hp} {s : Shared} {A : Around} {Q : VK} {us : List Value} {ws : List V} (F : FnR X.prog X.w X.K X.mg X.base CX n g sp) (room : Room n A) (e0 : Env0 X.prog X.w X.K X.mg X.base A X.stack s H) (pass : Passes CX X E) (I : Inv X pins σ H s) (r : Vals ws us) (h : sp ws H Q E) :
    codeAny (model X.prog X.w) A (.call (.ref g) ⟨us, []⟩) (fun r s' => match r with | .ok (.ret v) => EP X pins σ Q v s' | .ok _ => False | .error e => X.xe e s') s :=
  codeAny_mono (F A X.stack s H us ws Q E room e0 r h) fun r s' hq => match r, hq with
    | .error e, hq => pass pins σ H s e s' I hq
    | .ok (.ret u), hq => I.after hq
    | .ok .next, hq => hq.elim
    | .ok .brk, hq => hq.elim
    | .ok .cont, hq => hq.elim
def rLenOwn (C : Addr) (sp : Sp) (E : XK) : List V → Hp → VK → Prop := fun xs H Q => ∃ a dx fs, xs = [V.ref a] ∧ H a = some (.ins C dx fs) ∧ sp [.ref a] H (fun z H' => ∃ i : Int, z = .int i ∧ 0 ≤ i ∧ i < 2 ^ 63 ∧ Q z H') E
theorem call_lenOwn (look : PySem.W.findIn X.K (.ref C) "__len__" = some (some (.ref g))) (fn : PySem.W.isFn X.K (.ref g) = true) (F : FnR X.prog X.w X.K X.mg X.base CX n g sp) (room : Room (n + 1) X.A) (pass : Passes CX X E) : CallR X (.builtin "len") (rLenOwn C sp E) := by
  intro pins s σ H xs us Q I r h
  obtain ⟨a, dx, fs, rfl, ha, q⟩ := h
  obtain ⟨u, rfl, ru⟩ := r.one
  obtain rfl : u = Value.ref a := ru
  obtain ⟨_, O, _⟩ := ins_get I.hok ha
  obtain ⟨_, J, _⟩ := O.look
  obtain ⟨m, fr⟩ := I.fr
  refine PySem.W.len_K fr I.mod.kin J look fn (wpAny_mono (wpAny_call (run_low (us := [.ref a]) (ws := [.ref a]) F room.in1 I.env0.in1 pass I (.cons rfl .nil) q)) (fun v s' z => ?_) fun _ _ x => x)
  obtain ⟨z', H', I', rz, i, ei, i0, i1, qz⟩ := z
  subst ei
  obtain ⟨t, e⟩ := (show ∃ t, v = Value.int i t from rz)
  subst e
  exact ⟨⟨i0, i1⟩, .int i, H', I'.tok _, ⟨_, rfl⟩, qz⟩
def rIxOwn (C : Addr) (sp : Sp) (E : XK) : V → V → Hp → VK → Prop := fun x y H Q => ∃ a dx fs, x = .ref a ∧ H a = some (.ins C dx fs) ∧ sp [.ref a, y] H Q E
theorem pe_ixOwn {a b : Expr} {ta tb : TE} {pos : Pos} (look : PySem.W.findIn X.K (.ref C) "__getitem__" = some (some (.ref g))) (fn : PySem.W.isFn X.K (.ref g) = true) (fi : PySem.W.fnIn X.K g = true) (F : FnR X.prog X.w X.K X.mg X.base CX n g sp) (room : Room (n + 1) X.A) (pass : Passes CX X E)
    (ha : PE X a ta) (hb : PE X b tb) (sl : ∀ x i, subscripted b true (.ref x) i = runValue (.builtin "lifetime.subscript" ⟨[.ref x, i], []⟩) := by with_unfolding_all (intro _ _; rfl)) : PE X (.Subscript a b pos) (fun σ H Q => ta σ H fun x H1 => tb σ H1 fun y H2 => rIxOwn C sp E x y H2 Q) := by
  refine ⟨fun pins s σ H Q I h => ?_⟩
  refine Subscript_ (binT ha hb I h fun v u s2 x y H2 I2 rx ry q => ?_)
  obtain ⟨p, dx, fs, rfl, hp, q⟩ := q
  obtain rfl : v = Value.ref p := rx
  obtain ⟨_, O, _⟩ := ins_get I2.hok hp
  obtain ⟨_, J, _⟩ := O.look
  obtain ⟨m, fr⟩ := I2.fr
  exact PySem.W.sub_K fr I2.mod.kin J look fi fn (wpAny_call (run_low (us := [.ref p, u]) (ws := [.ref p, y]) F room.in1 I2.env0.in1 pass I2 (.cons rfl (.cons ry .nil)) q)) (sl _ _)
def rInOwn (C : Addr) (sp : Sp) (E : XK) (neg : Bool) : R2 := fun x y H Q => ∃ a dx fs, y = .ref a ∧ H a = some (.ins C dx fs) ∧ sp [.ref a, x] H (fun z H' => ∃ k : Bool, z = .bl k ∧ Q (.bl (k != neg)) H') E
theorem op_inOwn (look : PySem.W.findIn X.K (.ref C) "__contains__" = some (some (.ref g))) (fn : PySem.W.isFn X.K (.ref g) = true) (F : FnR X.prog X.w X.K X.mg X.base CX n g sp) (room : Room n X.A) (pass : Passes CX X E) : OpR X (compareOp .In) (rInOwn C sp E false) := by
  intro pins s σ H x y v u Q I rx ry h
  obtain ⟨a, dx, fs, rfl, ha, q⟩ := h
  obtain rfl : u = Value.ref a := ry
  obtain ⟨_, O, _⟩ := ins_get I.hok ha
  obtain ⟨_, J, _⟩ := O.look
  obtain ⟨m, fr⟩ := I.fr
  refine PySem.W.in_K fr I.mod.kin J look fn (wpAny_mono (wpAny_call (run_fnR (us := [.ref a, v]) (vs := [.ref a, x]) F room pass I (.cons rfl (.cons rx .nil)) q)) (fun z s' hz => ?_) fun _ _ x => x)
  obtain ⟨z', H', I', rz, k, ek, qz⟩ := hz
  subst ek
  obtain rfl : z = Value.bool k := rz
  have e : (k != false) = k := by cases k <;> rfl
  rw [e] at qz
  exact wpAny_pure ⟨.bl k, H', I', rfl, qz⟩
theorem op_notInOwn (look : PySem.W.findIn X.K (.ref C) "__contains__" = some (some (.ref g))) (fn : PySem.W.isFn X.K (.ref g) = true) (F : FnR X.prog X.w X.K X.mg X.base CX n g sp) (room : Room n X.A) (pass : Passes CX X E) : OpR X (compareOp .NotIn) (rInOwn C sp E true) := by
  intro pins s σ H x y v u Q I rx ry h
  obtain ⟨a, dx, fs, rfl, ha, q⟩ := h
  obtain rfl : u = Value.ref a := ry
  obtain ⟨_, O, _⟩ := ins_get I.hok ha
  obtain ⟨_, J, _⟩ := O.look
  obtain ⟨m, fr⟩ := I.fr
  refine PySem.W.notIn_K fr I.mod.kin J look fn (wpAny_mono (wpAny_call (run_fnR (us := [.ref a, v]) (vs := [.ref a, x]) F room pass I (.cons rfl (.cons rx .nil)) q)) (fun z s' hz => ?_) fun _ _ x => x)
  obtain ⟨z', H', I', rz, k, ek, qz⟩ := hz
  subst ek
  obtain rfl : z = Value.bool k := rz
  have e : (k != true) = !k := by cases k <;> rfl
  rw [e] at qz
  exact wpAny_pure ⟨.bl (!k), H', I', rfl, qz⟩
/-- both sides of the class -/
def rEqOwn (C : Addr) (sp : Sp) (E : XK) : R2 := fun x y H Q => ∃ a b dx dy fs gs, x = .ref a ∧ y = .ref b ∧ H a = some (.ins C dx fs) ∧ H b = some (.ins C dy gs) ∧ sp [.ref a, .ref b] H (fun z H' => ∃ k : Bool, z = .bl k ∧ Q z H') E
theorem op_eqOwn (look : PySem.W.findIn X.K (.ref C) "__eq__" = some (some (.ref g))) (fn : PySem.W.isFn X.K (.ref g) = true) (F : FnR X.prog X.w X.K X.mg X.base CX n g sp) (room : Room n X.A) (pass : Passes CX X E) : OpR X (compareOp .Eq) (rEqOwn C sp E) := by
  intro pins s σ H x y v u Q I rx ry h
  obtain ⟨a, b, dx, dy, fs, gs, rfl, rfl, ha, hb, q⟩ := h
  obtain rfl : v = Value.ref a := rx
  obtain rfl : u = Value.ref b := ry
  obtain ⟨_, O, _⟩ := ins_get I.hok ha
  obtain ⟨_, J, _⟩ := O.look
  obtain ⟨_, O2, _⟩ := ins_get I.hok hb
  obtain ⟨_, J2, _⟩ := O2.look
  obtain ⟨m, fr⟩ := I.fr
  show wpAny _ _ (richCompare .Eq (.ref a) (.ref b)) _ _ _
  refine PySem.W.cmp_K (op := .Eq) (tb := .ref C) room.units0 fr I.mod.kin J J2.type (by simp [PySem.W.notFirst]) look fn ?_
  refine wpAny_mono (wpAny_call (run_fnR (us := [.ref a, .ref b]) (vs := [.ref a, .ref b]) F room pass I (.cons rfl (.cons rfl .nil)) q)) (fun z s' hz => ?_) fun _ _ x => x
  obtain ⟨z', H', I', rz, k, ek, qz⟩ := hz
  subst ek
  obtain rfl : z = Value.bool k := rz
  exact ⟨.bl k, H', I', rfl, qz⟩
end

theorem maxOf_all : ∀ (xs : List Int) (x : Int), x ≤ PySem.W.maxOf x xs ∧ (∀ y ∈ xs, y ≤ PySem.W.maxOf x xs) ∧ (PySem.W.maxOf x xs = x ∨ PySem.W.maxOf x xs ∈ xs)
  | [], x => ⟨Int.le_refl _, fun y h => by simp at h, .inl rfl⟩
  | z :: xs, x => by
    have e : PySem.W.maxOf x (z :: xs) = PySem.W.maxOf (if x < z then z else x) xs := by
      show PySem.W.maxOf (if decide (x < z) = true then z else x) xs = _
      simp
    obtain ⟨h1, h2, h3⟩ := maxOf_all xs (if x < z then z else x)
    rw [e]
    by_cases c : x < z
    · rw [if_pos c] at *
      refine ⟨by omega, fun y hy => ?_, ?_⟩
      · rcases List.mem_cons.mp hy with q | q
        · rw [q]; exact h1
        · exact h2 y q
      · rcases h3 with q | q
        · rw [q]; exact .inr List.mem_cons_self
        · exact .inr (List.mem_cons_of_mem _ q)
    · rw [if_neg c] at *
      refine ⟨h1, fun y hy => ?_, ?_⟩
      · rcases List.mem_cons.mp hy with q | q
        · rw [q]; omega
        · exact h2 y q
      · rcases h3 with q | q
        · exact .inl q
        · exact .inr (List.mem_cons_of_mem _ q)

def rMinV (K : PySem.W.Frag) : List V → List V → Hp → VK → Prop := fun vs zs H Q => ∃ (a : Addr) (ns : List Int) (d : V), vs = [V.ref a] ∧ zs = [d] ∧ SqL K H a (ns.map V.int) ∧ (ns = [] → Q d H) ∧ ∀ m, m ∈ ns → (∀ y, y ∈ ns → m ≤ y) → Q (.int m) H
theorem cr_minV {X : Cx} (calm : X.calm = true) (room : X.A.units + 2 < cLine) : CallRK X (.builtin "min") [("default" : Str)] (rMinV X.K) := by
  intro pins s σ H vs zs us ws Q I r rz h
  obtain ⟨a, ns, d, rfl, rfl, sq, q0, q1⟩ := h
  rw [Vals.ref1 r]
  obtain ⟨its, rv, pl, _⟩ := I.list sq
  have HA : PySem.W.HoldAll s.heap its.toArray.toList ns := by
    rw [show its.toArray.toList = its by simp]
    exact PySem.W.HoldAll.of_ints rv.ints
  cases rz with
  | cons rd rest =>
    cases rest
    have hu : X.A.units + 1 + PySem.W.Datum.depth Int < cLine := by
      show X.A.units + 1 + 0 < cLine
      omega
    refine PySem.W.min_list_datum_default (I.ok.hd calm) pl.isList HA hu ?_ ?_
    · intro e0 h' tk keep
      exact ⟨d, H, I.kept keep, rd, q0 e0⟩
    · intro y ys i v h' tk e1 _ hv keep
      subst e1
      have z := PySem.W.HoldAll.toInts (PySem.W.HoldAll.cons hv PySem.W.HoldAll.nil)
      obtain ⟨g1, g2, g3⟩ := minOf_all ys y
      have inn : PySem.W.minOf y ys ∈ y :: ys := by
        rcases g3 with e | e
        · rw [e]; exact List.mem_cons_self
        · exact List.mem_cons_of_mem _ e
      cases z with
      | cons n t _ => exact ⟨.int _, H, I.kept keep, ⟨_, rfl⟩, q1 _ inn fun u hu => by
          rcases List.mem_cons.mp hu with e | e
          · rw [e]; exact g1
          · exact g2 u e⟩
theorem pe_minV {X : Cx} {e d : Expr} {te td : TE} {p pos kpos : Pos} (calm : X.calm = true) (room : X.A.units + 2 < cLine)
    (glob : Gl X "min") (own : X.mg "min" = none) (he : PE X e te) (hd : PE X d td)
    (h1 : starEach [e] X.env = (false, eval e X.env) :: starEach [] X.env := by rfl)
    (h2 : backTo pos (starEach [e] X.env) = (false, eval e X.env) :: backTo pos (starEach [] X.env) := by rfl)
    (h3 : (backTo pos (starEach [e] X.env)).any (·.1) = false := by rfl) :
    PE X (.Call (.Name "min" p) [e] [⟨some "default", d, kpos⟩] pos) (tCKw (rMinV X.K) (tCons te tNil) (tCons td tNil)) :=
  pe_callBK (cr_minV calm room) glob own (by decide +kernel) (pa_cons he pa_nil h1) (pk_cons hd pk_nil) (he := h2) (hpl := h3)

def rMaxV (K : PySem.W.Frag) : List V → List V → Hp → VK → Prop := fun vs zs H Q => ∃ (a : Addr) (ns : List Int) (d : V), vs = [V.ref a] ∧ zs = [d] ∧ SqL K H a (ns.map V.int) ∧ (ns = [] → Q d H) ∧ ∀ m, m ∈ ns → (∀ y, y ∈ ns → y ≤ m) → Q (.int m) H
theorem cr_maxV {X : Cx} (calm : X.calm = true) (room : X.A.units + 2 < cLine) : CallRK X (.builtin "max") [("default" : Str)] (rMaxV X.K) := by
  intro pins s σ H vs zs us ws Q I r rz h
  obtain ⟨a, ns, d, rfl, rfl, sq, q0, q1⟩ := h
  rw [Vals.ref1 r]
  obtain ⟨its, rv, pl, _⟩ := I.list sq
  have HA : PySem.W.HoldAll s.heap its.toArray.toList ns := by
    rw [show its.toArray.toList = its by simp]
    exact PySem.W.HoldAll.of_ints rv.ints
  cases rz with
  | cons rd rest =>
    cases rest
    have hu : X.A.units + 1 + PySem.W.Datum.depth Int < cLine := by
      show X.A.units + 1 + 0 < cLine
      omega
    refine PySem.W.max_list_datum_default (I.ok.hd calm) pl.isList HA hu ?_ ?_
    · intro e0 h' tk keep
      exact ⟨d, H, I.kept keep, rd, q0 e0⟩
    · intro y ys i v h' tk e1 _ hv keep
      subst e1
      have z := PySem.W.HoldAll.toInts (PySem.W.HoldAll.cons hv PySem.W.HoldAll.nil)
      obtain ⟨g1, g2, g3⟩ := maxOf_all ys y
      have inn : PySem.W.maxOf y ys ∈ y :: ys := by
        rcases g3 with e | e
        · rw [e]; exact List.mem_cons_self
        · exact List.mem_cons_of_mem _ e
      cases z with
      | cons n t _ => exact ⟨.int _, H, I.kept keep, ⟨_, rfl⟩, q1 _ inn fun u hu => by
          rcases List.mem_cons.mp hu with e | e
          · rw [e]; exact g1
          · exact g2 u e⟩
theorem pe_maxV {X : Cx} {e d : Expr} {te td : TE} {p pos kpos : Pos} (calm : X.calm = true) (room : X.A.units + 2 < cLine)
    (glob : Gl X "max") (own : X.mg "max" = none) (he : PE X e te) (hd : PE X d td)
    (h1 : starEach [e] X.env = (false, eval e X.env) :: starEach [] X.env := by rfl)
    (h2 : backTo pos (starEach [e] X.env) = (false, eval e X.env) :: backTo pos (starEach [] X.env) := by rfl)
    (h3 : (backTo pos (starEach [e] X.env)).any (·.1) = false := by rfl) :
    PE X (.Call (.Name "max" p) [e] [⟨some "default", d, kpos⟩] pos) (tCKw (rMaxV X.K) (tCons te tNil) (tCons td tNil)) :=
  pe_callBK (cr_maxV calm room) glob own (by decide +kernel) (pa_cons he pa_nil h1) (pk_cons hd pk_nil) (he := h2) (hpl := h3)
def tTruK (K : PySem.W.Frag) (ta : TE) : TT := fun σ H Q => ta σ H fun x H' => ∃ k, TruV K x H' k ∧ Q k H'
theorem pt_truthK {X : Cx} {K : PySem.W.Frag} {a : Expr} {ta : TE} (e : X.K = K) (ha : PE X a ta) (he : ∀ whole, isTrue a X.env whole = (do let v ← whole; standAt a.pos; holding [v] (truthy v))) : PT X a (tTruK K ta) := by
  have h := pt_truth ha he
  rw [e] at h
  exact h
theorem neS_of {H : Hp} {a b : Str} {Q : VK} (q : Q (.bl (!decide (a = b))) H) : rNe (.str a) (.str b) H Q := by
  refine ⟨rfl, ?_⟩
  have e : decide (V.str a = V.str b) = decide (a = b) := by simp
  rw [e]
  exact q
end My
/-! An own class's operator with a whole number at the right. -/
namespace My
open PySem PySem.Spec PyProof.Rows L2 StX ClX
/-- what the library wants to know of the class and of int for such an operator -/
structure OpT (K : PySem.W.Frag) (C g : Addr) (nm : String) : Prop where
  first : PySem.W.selfFirst K C = true
  look : PySem.W.findIn K (.ref C) (PySem.dunder nm) = some (some (.ref g))
  fn : PySem.W.isFn K (.ref g) = true
  noR : PySem.W.findIn K (.ref C) (PySem.dunderR nm) = some none
  fo : ∃ f, PySem.W.findIn K (.type "int") (PySem.dunder nm) = some f
  ro : ∃ f, PySem.W.findIn K (.type "int") (PySem.dunderR nm) = some f
  sub : PySem.W.subIn K (.type "int") (.ref C) = some false
def rOwnT (C : Addr) (sp : Sp) (E : XK) : R2 := fun x y H Q => ∃ a dx fs i, x = V.ref a ∧ y = V.int i ∧ H a = some (.ins C dx fs) ∧ sp [.ref a, .int i] H Q E
theorem op_ownT {X : Cx} {CX : CXT} {k : Nat} {g C : Addr} {sp : Sp} {E : XK} {op : Operator} (o : OpT X.K C g op.info.2) (F : FnR X.prog X.w X.K X.mg X.base CX k g sp) (room : Room k X.A) (pass : Passes CX X E) : OpR X (binaryOp op) (rOwnT C sp E) := by
  intro pins s σ H x y u v Q I rx ry h
  obtain ⟨a, dx, fs, i, rfl, rfl, ha, go⟩ := h
  obtain rfl : u = Value.ref a := rx
  obtain ⟨ti, rfl⟩ := (show ∃ t, v = Value.int i t from ry)
  obtain ⟨_, O1, _⟩ := ins_get I.hok ha
  obtain ⟨_, J1, _⟩ := O1.look
  obtain ⟨m, fr⟩ := I.fr
  obtain ⟨fo, h1⟩ := o.fo
  obtain ⟨ro, h2⟩ := o.ro
  refine PySem.W.ksp_binT (T := "int") fr I.mod.kin J1 rfl o.first o.look o.fn o.noR (.inl rfl) h1 h2 o.sub ?_
  refine wpAny_mono (wpAny_call (run_fnR (vs := [.ref a, .int i]) (us := [.ref a, .int i ti]) F room pass I (.cons rfl (.cons ⟨ti, rfl⟩ .nil)) go)) ?_ (fun _ _ z => z)
  intro w' s' hw
  obtain ⟨z, H', I', rz, q⟩ := hw
  have back : EP X pins σ Q w' s' := ⟨z, H', I', rz, q⟩
  cases z with
  | non => cases (show w' = Value.none from rz); exact back
  | bl _ => cases (show w' = Value.bool _ from rz); exact back
  | int _ => obtain ⟨t, e⟩ := (show ∃ t, w' = Value.int _ t from rz); cases e; exact back
  | str _ => obtain ⟨t, e⟩ := (show ∃ t, w' = Value.str _ t from rz); cases e; exact back
  | byt _ => obtain ⟨t, e⟩ := (show ∃ t, w' = Value.bytes _ t from rz); cases e; exact back
  | flt _ => obtain ⟨t, e⟩ := (show ∃ t, w' = Value.float _ t from rz); cases e; exact back
  | ref _ => cases (show w' = Value.ref _ from rz); exact back
  | ty _ => cases (show w' = Value.type _ from rz); exact back
/-- a method with a star, a class method: where they stand -/
structure StarA (K : PySem.W.Frag) (C : Addr) (x qual : Str) (st : Stmt) where
  f : Addr
  fd : FuncData
  m : Meth K C x f
  F : Fun K x qual st f fd
structure ClmA (K : PySem.W.Frag) (C : Addr) (x qual : Str) (st : Stmt) where
  p : Addr
  f : Addr
  fd : FuncData
  c : CMet K C (.type "type") x p f
  F : Fun K x qual st f fd
/-- cls(*e), cls a local name that holds the class -/
def tMakeSL (i : Nat) (K : PySem.W.Frag) (C : Addr) (sp : Sp) (E : XK) (te : TE) : TE := fun σ H Q => σ[i]? = some (some (V.ref C)) ∧ te σ H fun y H1 => ∃ a xs, y = V.ref a ∧ (SqT K H1 a xs ∨ SqL K H1 a xs) ∧ tMakeR C sp E (fun _ H2 Q2 => Q2 xs H2) σ H1 Q
theorem pe_makeSL {X : Cx} {CX : CXT} {k i : Nat} {f C : Addr} {sp : Sp} {E : XK} {x : Str} {e : Expr} {te : TE} {p pos q : Pos} (M : Mk X.K C f) (F : FnR X.prog X.w X.K X.mg X.base CX k f sp) (room : Room (k + 1) X.A) (hN : X.N[i]? = some x) (hv : Vis X.env.scope x) (pass : Passes CX X E) (he : PE X e te)
    (db : (x == ("__debug__" : Str)) = false := by decide) (cd : (x == ("__classdict__" : Str)) = false := by decide)
    (lone : starEach [.Starred e q] X.env = [(true, eval e X.env)] := by rfl) : PE X (.Call (.Name x p) [.Starred e q] [] pos) (tMakeSL i X.K C sp E te) := by
  constructor
  intro pins s σ H Q I h
  obtain ⟨hs, h⟩ := h
  refine wpAny_Call_Name_kw (thn ((pe_var (pos := p) hN hv db cd).run pins s σ H (fun v H1 => v = .ref C ∧ H1 = H) I ⟨.ref C, hs, rfl, rfl⟩) fun u s0 ⟨v, H0, I0, r0, q0⟩ => ?_)
  obtain ⟨rfl, rfl⟩ := q0
  cases r0
  refine PySem.W.callWith_S (h₀ := X.base) I0.ok.mod.kin M.kp ?_ lone
  refine thn (he.run pins s0 σ _ _ I0 h) ?_
  rintro v s1 ⟨y, H1, I1, ry, a, xs, rfl, seq, go⟩
  obtain rfl : v = Value.ref a := ry
  exact star_any I1 seq fun us s2 I2 rv => ⟨I2.kIn, run_makeR M F room pass I2 rv go⟩
theorem bind_star4 {B : List Value → Sem (List (Str × Value))} {p1 p2 p3 p4 pv : Str} (h0 : ∀ a b c d, B [a, b, c, d] = (newTuple [] >>= fun t => pure [(p1, a), (p2, b), (p3, c), (p4, d), (pv, t)]))
    (h1 : ∀ a b c d r rs, B (a :: b :: c :: d :: r :: rs) = (newTuple (r :: rs) >>= fun t => pure [(p1, a), (p2, b), (p3, c), (p4, d), (pv, t)])) :
    ∀ us rest : List Value, us.length = [p1, p2, p3, p4].length → B (us ++ rest) = (newTuple rest >>= fun t => pure ([p1, p2, p3, p4].zip us ++ [(pv, t)]))
  | [a, b, c, d], [], _ => h0 a b c d
  | [a, b, c, d], r :: rs, _ => h1 a b c d r rs
theorem tMethR_eq {C : Addr} {m : Str} {sp : Sp} {E : XK} {ta : TE} {t : TA} {σ : L2.St} {H : Hp} {Q : VK} : tMethR C m sp E ta t σ H Q = ta σ H fun x H1 => rMObj C m x H1 (t σ H1 fun vs H2 => sp (x :: vs) H2 Q E) := rfl
theorem walk_zipT {K : PySem.W.Frag} {a b : Addr} {xs ys : List V} {n : Nat} (hn : n = min xs.length ys.length) : Walk (RZ.ItzT K a b) n (fun H => SqT K H a xs ∧ SqT K H b ys) (YPair (fun i => xs[i]?) (fun i => ys[i]?)) := by
  subst hn
  refine ⟨fun i _ hi q => ?_, fun _ q => ⟨xs, ys, q.1, q.2, by omega⟩, ?_⟩
  · have l1 : i < xs.length := by omega
    have l2 : i < ys.length := by omega
    exact ⟨xs, ys, xs[i], ys[i], q.1, q.2, by simp [l1], by simp [l2]⟩
  · rintro i H v H' _ q ⟨T, x, z, g1, g2, g3, g4, g5⟩
    exact ⟨T, x, z, g1, g2, g3, g4 xs q.1, g5 ys q.2⟩
/-- t[1:] -/
theorem sl_drop1 {K : PySem.W.Frag} {H : Hp} {a : Addr} {xs : List V} {Q : VK} (h : H a = some (.tup xs)) (q : ∀ p H', Same H H' → H' p = some (.tup (xs.drop 1)) → Q (.ref p) H') : rSlA K (.ref a) (some (1 : Int)) Option.none H Q := by
  have e0 : HT.sIx xs.length 0 (some (1 : Int)) = min 1 xs.length := HT.sIx_nat _ _ 1
  have e1 : HT.sIx xs.length xs.length Option.none = xs.length := rfl
  refine ⟨a, xs, rfl, SqT.of h, fun w => ?_, fun _ p hp => ?_⟩
  · rw [e0] at w
    have z : xs = [] := List.length_eq_zero_iff.mp (by omega)
    subst z
    exact q a H (Same.refl H) h
  · have e : cutV xs (some (1 : Int)) Option.none = xs.drop 1 := by
      unfold cutV
      rw [e0, e1]
      cases xs with
      | nil => rfl
      | cons x r =>
        rw [Nat.min_eq_left (by simp)]
        exact List.take_of_length_le (by simp)
    rw [e]
    exact q p _ (same_new hp) upd_same
end My
/-! int(b) of a truth value; more of lists. -/
namespace My
open PySem PySem.Spec PyProof.Rows L2 StX ClX
theorem call_intB {X : Cx} : CallR X (.type "int") (fun xs H Q => ∃ k : Bool, xs = [.bl k] ∧ Q (.int (if k = true then 1 else 0)) H) := by
  intro pins s σ H xs us Q I r h
  exact call_int1 pins s σ H xs us Q I r (.inr h)
end My
namespace My
open PySem PySem.Spec PyProof.Rows L2 StX ClX
theorem catL_of {H : Hp} {a b : Addr} {xs zs : List V} {Q : VK} (ha : H a = some (.lst xs)) (hb : H b = some (.lst zs)) (len : xs.length + zs.length ≤ 100000) (q : ∀ p H', Same H H' → H' p = some (.lst (xs ++ zs)) → Q (.ref p) H') : rCat (.ref a) (.ref b) H Q :=
  ⟨a, b, xs, zs, rfl, rfl, ha, hb, Nat.le_trans len (by decide), fun p hp => q p _ (same_new hp) upd_same⟩
end My
namespace My
open PySem PySem.Spec PyProof.Rows L2 StX ClX
/-! ### l.count(x), a list of texts -/
def rCntS (K : PySem.W.Frag) : V → List V → Hp → VK → Prop := fun x xs H Q => ∃ (p : Addr) (ys : List Str) (z : Str), x = .ref p ∧ xs = [.str z] ∧ SqL K H p (ys.map V.str) ∧ Q (.int (ys.count z : Nat)) H
theorem count_strs {z : Str} : ∀ {ys : List Str} {us : List Value}, Vals (ys.map V.str) us → us.countP (eqU (.str z)) = ys.count z
  | [], _, .nil => rfl
  | y :: ys, _, .cons r t => by
    obtain ⟨k, rfl⟩ := r
    rw [List.countP_cons, List.count_cons, count_strs t]
    rfl
theorem mt_scount {X : Cx} {K : PySem.W.Frag} (eK : X.K = K := by rfl) : MtR X "list.count" (rCntS K) := by
  subst eK
  intro pins s σ H x xs v us Q I rx rxs h
  obtain ⟨p, ys, z, rfl, rfl, hs, q⟩ := h
  cases rx
  obtain ⟨u, rfl, ru⟩ := rxs.one
  obtain ⟨t, rfl⟩ := ru
  obtain ⟨its, rv, ⟨⟨cls, dd, data, sl⟩, n, ho, hc, hdn, hd⟩, hlen⟩ := I.list hs
  simp only at hc hd
  subst hc hd
  refine call_meets PySem.F.slot_list_count ⟨_, ho, rfl⟩ PySem.F.entry_list_count (PySem.F.args_list_count_2 _ _)
    (SeqAt.list_countAt p its.toArray n dd sl (.str z t) (eqU (.str z))) ⟨ho, fun w hw => mem_eqAt (x := .str z) ⟨t, rfl⟩ rfl rv (flat_strs ys) w (by simpa using hw), ?_⟩
  refine ⟨.int (ys.count z : Nat), H, I.tok _, ⟨s.toks, ?_⟩, q⟩
  have ec : its.toArray.toList.countP (eqU (.str z)) = ys.count z := count_strs rv
  show Value.int ((its.toArray.toList.countP (eqU (.str z)) : Nat) : Int) s.toks = _
  rw [ec]
end My
namespace My
open PySem PySem.Spec PyProof.Rows L2 StX ClX
theorem pe_bmK {X : Cx} {K : PySem.W.Frag} {T : String} {name : Str} {id : String} {r : V → List V → Hp → VK → Prop} {o e : Expr} {es : List Expr} {to : TE} {t : TA} {apos cpos : Pos} (eK : X.K = K) (pa : PlainAttrs T) (slot : Slot T name id) (hty : typeOf (.builtin id) = pure (.type "method_descriptor")) (hm : MtR X id r) (ho : PE X o to) (ha : PA X (e :: es) t)
    (hbase : attributeBase o name X.env (eval o X.env) = eval o X.env := by rfl)
    (hfew : ((backTo cpos (starEach (e :: es) X.env)).all (fun x => !x.1) && (backToKw cpos (keywordEach [] X.env)).all (fun x => x.1.isSome)
      && decide ((e :: es).length + ([] : List Keyword).length + (if ([] : List Keyword).isEmpty then 0 else 1) < 30)) = true := by rfl)
    (hline : (apos.endLine == cpos.line) = true := by rfl) (hs : starEach (e :: es) X.env = (false, eval e X.env) :: starEach es X.env := by rfl) (hplain : (backTo cpos (starEach es X.env)).any (·.1) = false := by rfl) :
    PE X (.Call (.Attribute o name apos) (e :: es) [] cpos) (tBM K T r to t) := eK ▸ pe_bm pa slot hty hm ho ha hbase hfew hline hs hplain
/-- a set knows how many it holds -/
theorem setR_few {w : World} {h : Heap} {a : Addr} {S : Int → Bool} {n : Nat} (R : SetR w h a S n) {ks : List Int} (sub : ∀ k, S k = true → k ∈ ks) : n ≤ ks.length := by
  obtain ⟨o, es, ep, t, _, _, _, _, nd, mem, _, _, e, _⟩ := R
  have main : ∀ {l m : List Int}, l.Nodup → (∀ x ∈ l, x ∈ m) → l.length ≤ m.length := by
    intro l
    induction l with
    | nil => intro m _ _; exact Nat.zero_le _
    | cons a l ih =>
      intro m nd sub
      obtain ⟨n1, n2⟩ := List.nodup_cons.mp nd
      have ha := sub a List.mem_cons_self
      have := ih (m := m.erase a) n2 fun x hx => (List.mem_erase_of_ne (fun z => by subst z; exact n1 hx)).mpr (sub x (List.mem_cons_of_mem _ hx))
      rw [List.length_erase_of_mem ha] at this
      have := List.length_pos_of_mem ha
      rw [List.length_cons]
      omega
  have := main nd fun k hk => sub k ((mem k).mpr hk)
  rw [List.length_map, Array.length_toList] at this
  omega
section
variable {X : Cx}
/-- sorted(found) where all that it holds are known -/
def rSortedFew (w : World) : List V → Hp → VK → Prop := fun vs H Q => ∃ (a : Addr) (S : Int → Bool) (n : Nat) (ks : List Int), vs = [V.ref a] ∧ H a = some (SetO w a S n) ∧ (∀ k, S k = true → k ∈ ks) ∧ ks.length < 64 ∧
  ∀ (ns : List Int) (p : Addr), ns.Pairwise (· < ·) → (∀ k : Int, k ∈ ns ↔ S k = true) → H p = none → Q (.ref p) (upd H p (.lst (ns.map V.int)))
theorem cr_sortedFew (hc : X.calm = true) : CallR X (.builtin "sorted") (rSortedFew X.w) := by
  intro pins s σ H vs us Q I r h
  obtain ⟨a, S, n, ks, rfl, ha, sub, k64, q⟩ := h
  have R := setO_get I ha
  have nk := setR_few R sub
  exact cr_sortedSet hc pins s σ H [.ref a] us Q I r ⟨a, S, n, rfl, ha, by omega, fun ns p h1 h2 _ h4 => q ns p h1 h2 h4⟩
end
end My
/-! sum(d.values()). -/
namespace My
open PySem PySem.Spec PyProof.Rows L2 StX ClX
theorem preSum_getD (ns : List Int) : ∀ n, n ≤ ns.length → preSum (fun i => ns.getD i 0) n = (ns.take n).sum
  | 0, _ => rfl
  | n + 1, h => by
    have e : ns[n]? = some ns[n] := List.getElem?_eq_getElem (by omega)
    have h1 : preSum (fun i => ns.getD i 0) (n + 1) = preSum (fun i => ns.getD i 0) n + ns.getD n 0 := rfl
    have e2 : ns.take (n + 1) = ns.take n ++ [ns[n]] := by
      rw [List.take_add_one, e]
      rfl
    rw [h1, preSum_getD ns n (by omega), e2, List.getD_eq_getElem?_getD, e]
    rw [List.sum_append]
    simp
/-- sum(o.values()), a dict of ints -/
def tSumVals (td : TE) : TE := fun σ H Q => td σ H fun x H1 => ∃ (a : Addr) (kvs : List (Key × V)) (ns : List Int), x = V.ref a ∧ H1 a = some (.dK kvs) ∧ kvs.map Prod.snd = ns.map V.int ∧ Q (.int ns.sum) H1
theorem pe_sumVals {X : Cx} {o : Expr} {p pos apos mpos : Pos} {td : TE} (hc : X.calm = true) (hg : Gl X "sum") (hm : X.mg "sum" = none) (hd : PE X o td)
    (hbase : attributeBase o "values" X.env (eval o X.env) = eval o X.env := by rfl) (hline : (apos.endLine == mpos.line) = true := by rfl)
    (hse : starEach [Expr.Call (.Attribute o "values" apos) [] [] mpos] X.env = [(false, eval (Expr.Call (.Attribute o "values" apos) [] [] mpos) X.env)] := by rfl) :
    PE X (.Call (.Name "sum" p) [.Call (.Attribute o "values" apos) [] [] mpos] [] pos) (tSumVals td) := by
  refine ⟨fun pins s σ H Q I h => ?_⟩
  refine wpAny_Call_Name_kw (ld_blt I hg hm (u := .builtin "sum") (by first | rfl | decide +kernel) ?_ (by first | decide +kernel | decide) (by first | decide +kernel | decide))
  rw [hse]
  refine PySem.callWith_builtin1 (wpAny_Call_method0_late hbase hline (thn (hd.run pins s σ H _ I h) fun v s1 ⟨x, H1, I1, r1, a, kvs, ns, ex, ha, hv, q⟩ => ?_))
  subst ex
  obtain rfl : v = Value.ref a := r1
  obtain ⟨_, hsys, vs, rel, dof⟩ := dk_of I1.hok ha
  obtain ⟨ep, dat⟩ := dof.dictAt
  obtain ⟨ob, _, ho, ex, _⟩ := id dat
  refine ⟨"dict", "dict.values", F.plainAttrs_dict, F.slot_dict_values, F.type_dict_values, ⟨ob, ho, ex.1⟩, fun b e => (by cases e; exact ⟨ob, ho, ex.2.1⟩), Calls.callWith_builtin rfl (PySem.evalArgs_none ?_)⟩
  refine call_meetsIn F.slot_dict_values ⟨ob, ho, ex.1⟩ F.entry_dict_values (F.args_dict_values_1 _) (meets_dict_values (mixKind X.prog X.w) a hsys) ⟨⟨vs, dof⟩, ?_⟩
  generalize eV : ({ cls := .type "dict_values", data := .fields #[.ref a] } : Obj) = view
  have old : ∀ b u, s1.heap.get? b = some u → (s1.heap.push view).get? b = some u := fun b u e => Heap.get?_push_of_some _ e
  have dat1 : (s1.heap.push view).DictAt (mixKind X.prog X.w) a vs ep := dat.keep old
  have len : vs.length = ns.length := by
    have e1 := congrArg List.length hv
    simp only [List.length_map] at e1
    rw [← e1]
    exact (KV.length rel).symm
  have each : ∀ (i : Nat) (v : Value), (∃ k, vs[i]? = some (k, v)) → ∃ t, v = Value.int (ns.getD i 0) t := fun i v ⟨k, hk⟩ => by
    obtain ⟨x, h1, h2⟩ := KV.at' rel hk
    have e1 : (kvs.map Prod.snd)[i]? = some x := by rw [List.getElem?_map, h1]; rfl
    rw [hv, List.getElem?_map] at e1
    obtain ⟨j, hj, e2⟩ := Option.map_eq_some_iff.mp e1
    subst e2
    obtain ⟨t, e3⟩ := h2
    exact ⟨t, by rw [e3, List.getD_eq_getElem?_getD, hj]; rfl⟩
  have below : a < s1.heap.objs.size := Heap.lt_size ho
  have size : (s1.heap.push view).objs.size = s1.heap.objs.size + 1 := Heap.size_push _ _
  have atv : (s1.heap.push view).get? s1.heap.objs.size = some view := Heap.get?_push_size _ (by rw [← eV]; rfl)
  refine call_sum_walkG (wpAny_pyIter_values (v := s1.heap.objs.size) (d := a) ⟨_, atv, by rw [← eV], by rw [← eV]⟩ dat1 ?_)
  refine ⟨_, _, _, _, _, _, _, rfl, Walks.dictValues (knd := mixKind X.prog X.w) (A := X.A.in1) (I.ok.hd hc) (s1.heap.push view).objs.size a (by rw [size]; exact Nat.ne_of_lt (Nat.lt_succ_of_lt below)) vs ep,
    ⟨⟨_, Heap.get?_push_size _ rfl, rfl, rfl⟩, dat1.keep fun b u e => Heap.get?_push_of_some _ e⟩, fun b hb => ?_, each, fun h' tk t' hk => ?_⟩
  · show b < ((s1.heap.push _).push _).objs.size
    rw [Heap.size_push, size]
    rw [size] at hb
    rcases List.mem_cons.mp hb with e | hb
    · rw [e]
      exact Nat.lt_succ_self _
    · rw [List.mem_singleton.mp hb]
      exact Nat.lt_succ_of_lt (Nat.lt_succ_of_lt below)
  · rw [len, preSum_getD ns _ (Nat.le_refl _), List.take_length]
    refine ⟨.int _, H1, I1.kept (t' := tk) fun b u e => hk b u (fun hmem => ?_) (Heap.get?_push_of_some _ (old b u e)), ⟨t', rfl⟩, q⟩
    have e1 : b = (s1.heap.push view).objs.size := List.mem_singleton.mp hmem
    have e2 := Heap.lt_size e
    rw [e1, size] at e2
    exact absurd e2 (Nat.not_lt.mpr (Nat.le_succ _))
end My
/-! Sets of texts: add, sorted(..), a comprehension with two `for`s. -/
namespace My
open PySem PySem.Spec PyProof.Rows L2 StX ClX
/-- two lists of the same members, the first without one twice and no shorter, are arrangements of each other -/
theorem perm_of_nodup {α : Type} [DecidableEq α] : ∀ {l m : List α}, l.Nodup → (∀ x ∈ l, x ∈ m) → m.length ≤ l.length → l.Perm m
  | [], m, _, _, h => by
    have : m = [] := List.length_eq_zero_iff.mp (Nat.le_zero.mp h)
    rw [this]
  | a :: l, m, nd, sub, h => by
    obtain ⟨n1, n2⟩ := List.nodup_cons.mp nd
    have ma := sub a List.mem_cons_self
    have e := List.length_erase_of_mem ma
    have pos := List.length_pos_of_mem ma
    refine ((perm_of_nodup (m := m.erase a) n2 (fun x hx => ?_) (by rw [List.length_cons] at h; omega)).cons a).trans (List.perm_cons_erase ma).symm
    exact (List.mem_erase_of_ne fun z => n1 (by rw [← z]; exact hx)).mpr (sub x (List.mem_cons_of_mem _ hx))
/-- the set at a holds just these texts, and can be walked -/
def SetS (P : Program) (w : World) (h : Heap) (a : Addr) (l : List Str) : Prop :=
  ∃ D : Froz.SD, h.get? a = some (Froz.sObj "set" D) ∧ Froz.TxOk P w D l ∧ l.Nodup ∧ l.length < scanBound ∧ Ris D.2.2.place.toList ∧ (w.params.followText "set-order" = true ∨ D.2.2.led = true)
section
variable {P : Program} {w : World} {A : Around} {E : Value → Shared → Prop} {s : Shared} {a : Addr} {l : List Str}
theorem SetS.keep {h h' : Heap} (R : SetS P w h a l) (k : ∀ o, h.get? a = some o → h'.get? a = some o) : SetS P w h' a l := by
  obtain ⟨D, ho, r⟩ := R
  exact ⟨D, k _ ho, r⟩
theorem setS_empty {h : Heap} (ho : h.get? a = some { cls := .type "set", dict := none, data := .set #[] 0 (.fresh 0 0 (!w.params.followText "set-order")) }) : SetS P w h a [] :=
  ⟨(#[], 0, .fresh 0 0 (!w.params.followText "set-order")), ho, Froz.TxOk.nil rfl, List.nodup_nil, by decide, List.Pairwise.nil, by
    show _ ∨ (!w.params.followText "set-order") = true
    cases w.params.followText "set-order"
    · exact .inr rfl
    · exact .inl rfl⟩
theorem walkable_tail {ep : Nat} {es : Array (Int × Value)} {t : SetTable} {b : Bool} (r : Ris t.place.toList) (d : w.params.followText "set-order" = true ∨ t.led = true) :
    Ris (Froz.tailTx ep es t b).2.2.place.toList ∧ (w.params.followText "set-order" = true ∨ (Froz.tailTx ep es t b).2.2.led = true) := by
  unfold Froz.tailTx
  split
  · exact ⟨relayAll_ris t es _, d.imp id fun z => (relayAll_led t es _).trans z⟩
  · exact ⟨r, d⟩
theorem walkable_add {k : Str} {u : Tok} {h : Int} {D : Froz.SD} (r : Ris D.2.2.place.toList) (d : w.params.followText "set-order" = true ∨ D.2.2.led = true) :
    Ris (Froz.addTx h (.str k u) D).2.2.place.toList ∧ (w.params.followText "set-order" = true ∨ (Froz.addTx h (.str k u) D).2.2.led = true) := by
  have r1 := layNew_ris D.2.2 D.1 h (.str k u) r
  have d1 := d.imp id fun z : D.2.2.led = true => (layNew_led D.2.2 D.1 h (.str k u)).trans z
  unfold Froz.addTx
  refine walkable_tail ?_ ?_
  · split <;> exact r1
  · split <;> exact d1
theorem txt_shape {k : Str} {v : Value} (h : (strKind P w).is k v = true) : ∃ x u, v = Value.str x u := by
  have h : Value.isStrOf k v = true := h
  cases v with
  | str x u => exact ⟨x, u, rfl⟩
  | _ => exact absurd h (by simp [Value.isStrOf])
/-- a text that is there already -/
theorem there_again {k : Str} {u : Tok} {Q : Bool → Shared → Prop} (R : SetS P w s.heap a l) (m : k ∈ l) (h : Q false s) : wpAny (model P w) A (setAddHashed a (.str k u) (hashStr w k)) Q E s := by
  obtain ⟨⟨es, ep, t⟩, ho, F, _, lb, _⟩ := R
  have few : es.size < scanBound := by
    have := F.sz
    dsimp only at this
    omega
  unfold setAddHashed setAddHashedIn
  refine wpAny_holding (wpAny_bind (wpAny_setState_of ho rfl F.fit ?_))
  dsimp only
  rw [byScan_of rfl few F.el, if_pos rfl]
  unfold setAddByScan
  refine wpAny_bind (wpAny_bind (wpAny_rule (wpAny_bind (wpAny_setScan_of (knd := strKind P w) (k := k) (Froz.is_str k u) ho rfl F.fit F.el ?_))))
  obtain ⟨e, he, q⟩ := (F.mem k).mp m
  cases f : List.findIdx? (fun e => (strKind P w).is k e.2) es.toList with
  | none =>
    have := List.findIdx?_eq_none_iff.mp f e he
    rw [q] at this
    cases this
  | some j => exact wpAny_pure (wpAny_pure h)
/-- found.add(text) -/
theorem setS_add {k : Str} {u : Tok} {Q : Value → Shared → Prop} (R : SetS P w s.heap a l) (room : l.length + 1 < scanBound)
    (hQ : ∀ h', Heap.SameBut a s.heap h' → SetS P w h' a (if k ∈ l then l else k :: l) → Q .none { s with heap := h', toks := s.toks + 1 }) :
    wpAny (model P w) A (call (.builtin "set.add") [.ref a, .str k u]) Q E s := by
  have hT : s.TypeIs (.ref a) "set" := by
    obtain ⟨D, ho, _⟩ := R
    exact ⟨_, ho, rfl⟩
  refine wpAny_call_entry F.slot_set_add hT F.entry_set_add ?_ (F.args_set_add_2 _ _)
  unfold Builtin.«set.add» Builtin.Frozenset.oneOther
  simp only [List.isEmpty_nil, bind_assoc]
  unfold Builtin.Frozenset.addrOf setAdd
  refine wpAny_bind (wpAny_pure ?_)
  try dsimp only
  refine wpAny_bind (wpAny_pure ?_)
  try dsimp only
  refine wpAny_bind (wpAny_holding (wpAny_bind ((strKind P w).pyHash (Froz.is_str k u) ?_)))
  by_cases m : k ∈ l
  · refine there_again (s := { s with toks := s.toks + 1 }) R m (wpAny_pure ⟨_, rfl, ?_⟩)
    have q := hQ s.heap (Heap.SameBut.refl a s.heap)
    rw [if_pos m] at q
    exact q R
  · obtain ⟨D, ho, F, nd, lb, r, d⟩ := R
    refine Froz.add_x (s := { s with toks := s.toks + 1 }) ho F m room (wpAny_pure ⟨_, rfl, ?_⟩)
    have q := hQ _ (Heap.SameBut.update s.heap a fun _ => Froz.sObj "set" (Froz.addTx (hashStr w k) (.str k u) D))
    rw [if_neg m] at q
    obtain ⟨r1, d1⟩ := walkable_add (w := w) (k := k) (u := u) (h := hashStr w k) r d
    exact q ⟨_, Froz.get_upd _ ho rfl, Froz.add_ok u F, List.nodup_cons.mpr ⟨m, nd⟩, room, r1, d1⟩
/-- sorted(found) -/
theorem sorted_setS {Q : Value → Shared → Prop} (R : SetS P w s.heap a l) (hh : A.handled = none) (h64 : l.length < 64)
    (hQ : ∀ s' p (out : Array Value) (c : Nat) (ys : List Str), (∀ b o, s.heap.get? b = some o → s'.heap.get? b = some o) → s'.gens = s.gens → s'.os = s.os → s.heap.objs.size ≤ p →
      s'.heap.get? p = some (seqObj "list" out c) → StrsAre out.toList ys → ys.Perm l → sortedS ys = true → Q (.ref p) s') : wpAny (model P w) A (call (.builtin "sorted") [.ref a]) Q E s := by
  obtain ⟨⟨es, ep, t⟩, ho, F, nd, lb, r, d⟩ := R
  have sz : es.size = l.length := F.sz
  refine Calls.call_function_entry kind_sorted plain_sorted entry_sorted (args_sorted1 _) ?_
  unfold Builtin.«sorted»
  refine wpAny_bind (m := checkCount "sorted" 1 1 _) (wpAny_pure ?_)
  refine wpAny_bind (collect_set (A := A.in1) hh ⟨_, ho, rfl, rfl⟩ F.fit (by show es.size < scanBound; omega) r d fun s1 vs k1 hz g1 o1 pm => ?_)
  have hvl : vs.length = l.length := by rw [pm.length_eq, List.length_map, Array.length_toList]; exact sz
  have all : ∀ v ∈ vs, ∃ x u, v = Value.str x u := fun v hv => by
    obtain ⟨e, he, rfl⟩ := List.mem_map.mp (pm.mem_iff.mp hv)
    obtain ⟨⟨k, hk, _⟩, _⟩ := F.el e he
    exact txt_shape hk
  have hS := PyProof.Rows.strsAre_map vs all
  have pl : (vs.map strOf).Perm l := by
    refine (perm_of_nodup nd (fun x hx => ?_) (by rw [List.length_map]; omega)).symm
    obtain ⟨e, he, q⟩ := (F.mem x).mp hx
    obtain ⟨y, u, ev⟩ := txt_shape q
    refine List.mem_map.mpr ⟨e.2, pm.mem_iff.mpr (List.mem_map_of_mem he), ?_⟩
    rw [ev] at q ⊢
    exact (strKind P w).inj (.str y u) y x (Froz.is_str y u) q
  refine wpAny_bind (wpAny_newList ?_ (by rw [hvl, sizeLine_eq]; omega))
  have hoL : (s1.heap.push (seqObj "list" vs.toArray 0)).get? s1.heap.objs.size = some (seqObj "list" vs.toArray 0) := Heap.get?_push_size _ rfl
  refine wpAny_bind (wpAny_holding (wpAny_call_entry slot_list_sort ⟨_, hoL, rfl⟩ entry_list_sort
    (list_sort_treeK strKind_oneLt hoL hS.keysOf (fun v₁ v₂ rest e => keyKind_strs (ss := vs.map strOf) (by rw [← e]; exact hS)) (by rw [hvl]; exact h64) fun st' hp hs => ⟨_, rfl, ?_⟩) (args_list_sort _)))
  obtain ⟨ys, g1', g2, g3⟩ := sorted_out_str hS hp hs
  obtain ⟨c, hc⟩ := sortedHeap_at (vs := vs) (out := (arrOf st').map (·.2)) hoL
  refine wpAny_pure ⟨_, rfl, hQ _ s1.heap.objs.size _ c ys (fun b u e => ?_) g1 o1 hz hc g1' (g2.trans pl) g3⟩
  have q := k1 b u e
  have hlt := Heap.lt_size q
  show (sortedHeap (s1.heap.push (seqObj "list" vs.toArray 0)) s1.heap.objs.size vs ((arrOf st').map (·.2))).get? b = some u
  rw [sortedHeap_old (Nat.ne_of_lt hlt) (by rw [Heap.size_push]; exact Nat.lt_succ_of_lt hlt)]
  exact Heap.get?_push_of_some _ q
end
/-! as a thing that is told of -/
def SetSO (P : Program) (w : World) (a : Addr) (l : List Str) : HO := .ext fun h => SetS P w h a l
section
variable {X : Cx}
theorem setSO_ok {P : Program} {w : World} {H : Hp} {h : Heap} {a : Addr} {l : List Str} (R : SetS P w h a l) : ObjOk P w H h a (SetSO P w a l) := by
  have ⟨_, ho, _⟩ := R
  exact ⟨R, ⟨_, ho⟩, fun h1 h2 p k => SetS.keep p k⟩
theorem addS_ok {pins : List (Addr × Obj)} {σ : L2.St} {H : Hp} {s : Shared} {E : Value → Shared → Prop} {D : Addr} {l : List Str} {y : Str} {u : Tok} {Q : Value → Shared → Prop} (I : Inv X pins σ H s) (hD : H D = some (SetSO X.prog X.w D l)) (room : l.length + 1 < scanBound)
    (h : ∀ s', Inv X pins σ (upd H D (SetSO X.prog X.w D (if y ∈ l then l else y :: l))) s' → Q .none s') : wpAny (model X.prog X.w) X.A (call (.builtin "set.add") [.ref D, .str y u]) Q E s := by
  refine setS_add (I.hok D _ hD).1 room fun h' sb new => ?_
  have ⟨_, ho, _⟩ := new
  exact h _ (I.write (e := D) (t' := s.toks + 1) (by rw [hD]; trivial) (.inl rfl) (fun b u hb hu => (sb.2 b hb).trans hu) ⟨_, ho⟩ (setSO_ok new))
/-- sorted(a set of fewer than 64 texts) -/
def rSortSS (P : Program) (w : World) : List V → Hp → VK → Prop := fun vs H Q => ∃ (a : Addr) (l : List Str), vs = [V.ref a] ∧ H a = some (SetSO P w a l) ∧ l.length < 64 ∧
  ∀ ys p, ys.Perm l → sortedS ys = true → H p = none → Q (.ref p) (upd H p (.lst (ys.map V.str)))
theorem cr_sortSS (hc : X.calm = true) : CallR X (.builtin "sorted") (rSortSS X.prog X.w) := by
  intro pins s σ H vs us Q I r h
  obtain ⟨a, l, rfl, ha, h64, q⟩ := h
  rw [Vals.ref1 r]
  refine sorted_setS (I.hok a _ ha).1 (I.ok.hd hc) h64 fun s' p out c ys k g o hp hg hi pe srt => ?_
  have hlen : (ys.map V.str).length ≤ sizeLine := by rw [List.length_map, pe.length_eq, sizeLine_eq]; omega
  have hn : H p = none := I.hok.fresh hp
  have J : Inv X pins σ (upd H p (.lst (ys.map V.str))) { s with heap := s'.heap, gens := s'.gens, drawn := s'.drawn, toks := s'.toks } :=
    I.call (ch := []) (Un.laid k hp hn) (I.hok.laid k hp ⟨hlen, out.toList, c, vals_of_strs hi, hg⟩) (by rw [g]; exact I.bare) (fun _ z => nomatch z)
  have e : s' = { s with heap := s'.heap, gens := s'.gens, drawn := s'.drawn, toks := s'.toks } := by
    cases s'
    cases s
    cases o
    rfl
  rw [e]
  exact ⟨.ref p, _, J, rfl, q ys p pe srt hn⟩
end
end My
/-! {e for a in o for b in i}, e a text. -/
namespace My
open PySem PySem.Spec PyProof.Rows L2 StX ClX
section
variable {prog : Program} {w : World} {A : Around} {R : Result → Shared → Prop} {s : Shared} {elt t0 i0 t1 i1 : Expr} {scope : Scope} {pos : Pos} {it acc : Value} {env : Env}
/-- the expression -/
abbrev dbl (elt t0 i0 t1 i1 : Expr) (scope : Scope) (pos : Pos) : Expr := .SetComp elt [⟨t0, i0, [], 0⟩, ⟨t1, i1, [], 0⟩] scope pos
theorem dbl_turn0 (elt t0 i0 t1 i1 : Expr) (scope : Scope) (pos : Pos) (it acc : Value) (env : Env) : compTurn (dbl elt t0 i0 t1 i1 scope pos) 0 it acc env = (do
    standAt i0.pos
    match ← pyNext it with
    | none => pure (.done .next)
    | some v =>
      letOwnedTupleGo t0 it v
      assign t0 env v
      let x ← eval i1 env
      standAt i1.pos
      let x ← foldedSetIterable i1 env x
      let _ ← runOwn (.compStart (dbl elt t0 i0 t1 i1 scope pos) 1 (← holding [x] (pyIter x)) acc env) env
      again (.compLoop (dbl elt t0 i0 t1 i1 scope pos) 0 it acc env)) := by rfl
theorem dbl_turn1 (elt t0 i0 t1 i1 : Expr) (scope : Scope) (pos : Pos) (it acc : Value) (env : Env) : compTurn (dbl elt t0 i0 t1 i1 scope pos) 1 it acc env = (do
    standAt i1.pos
    match ← pyNext it with
    | none => pure (.done .next)
    | some v =>
      letOwnedTupleGo t1 it v
      assign t1 env v
      (do let x ← eval elt env; standAt elt.pos; let _ ← call (.builtin "set.add") [acc, x])
      again (.compLoop (dbl elt t0 i0 t1 i1 scope pos) 1 it acc env)) := by rfl
/-- nothing is raised -/
abbrev Calm : Value → Shared → Prop := fun _ _ => False
theorem dbl_loop0 (fs : ∀ x, foldedSetIterable i1 env x = pure x) (I : Nat → Shared → Prop) (turn : ∀ n s, I n s → wpAny (model prog w) A (pyNext it) (fun r s1 => match r with
      | none => R (.ok .next) s1
      | some v => wpAny (model prog w) A (letOwnedTupleGo t0 it v) (fun _ s2 => wpAny (model prog w) A (assign t0 env v) (fun _ s3 => wpAny (model prog w) A (eval i1 env) (fun x s4 => wpAny (model prog w) A (pyIter x) (fun jt s5 =>
          codeAny (model prog w) A (.compStart (dbl elt t0 i0 t1 i1 scope pos) 1 jt acc env) (fun r s' => (∃ f, r = .ok f) ∧ ∃ m, m < n ∧ I m s') s5) Calm s4) Calm s3) Calm s2) Calm s1) Calm s)
    (n : Nat) (h : I n s) : codeAny (model prog w) A (.compLoop (dbl elt t0 i0 t1 i1 scope pos) 0 it acc env) R s := by
  refine codeAny_loop rfl I (fun n s hI => ?_) n h
  show wpAny _ A ((compTurn (dbl elt t0 i0 t1 i1 scope pos) 0 it acc env).onRaise (fun x => do noteFrame x env; theTreesLotGoes x)) _ _ s
  refine wpAny_noted ?_
  rw [dbl_turn0]
  refine wpAny_bind (wpAny_standAt (wpAny_bind (thnF (turn n s hI) fun r s1 h1 => ?_)))
  cases r with
  | none => exact wpAny_pure h1
  | some v =>
    refine wpAny_bind (thnF h1 fun _ s2 h2 => wpAny_bind (thnF h2 fun _ s3 h3 => wpAny_bind (thnF h3 fun x s4 h4 => wpAny_bind (wpAny_standAt ?_))))
    refine wpAny_bind (wpAny_of_eq (fs x) (wpAny_bind (wpAny_holding (thnF h4 fun jt s5 h5 => ?_))))
    refine wpAny_bind (wpAny_runOwn ?_)
    rw [Around.mark_none]
    refine codeAny_mono h5 fun r s' hr => ?_
    obtain ⟨⟨f, rfl⟩, hr⟩ := hr
    first
      | exact wpAny_pure ⟨rfl, hr⟩
      | exact wpAny_bind (wpAny_pure (wpAny_pure ⟨rfl, hr⟩))
theorem dbl_loop1 (I : Nat → Shared → Prop) (turn : ∀ n s, I n s → wpAny (model prog w) A (pyNext it) (fun r s1 => match r with
      | none => R (.ok .next) s1
      | some v => wpAny (model prog w) A (letOwnedTupleGo t1 it v) (fun _ s2 => wpAny (model prog w) A (assign t1 env v) (fun _ s3 => wpAny (model prog w) A (eval elt env) (fun x s4 => wpAny (model prog w) A (call (.builtin "set.add") [acc, x]) (fun _ s5 =>
          ∃ m, m < n ∧ I m s5) Calm s4) Calm s3) Calm s2) Calm s1) Calm s)
    (n : Nat) (h : I n s) : codeAny (model prog w) A (.compLoop (dbl elt t0 i0 t1 i1 scope pos) 1 it acc env) R s := by
  refine codeAny_loop rfl I (fun n s hI => ?_) n h
  show wpAny _ A ((compTurn (dbl elt t0 i0 t1 i1 scope pos) 1 it acc env).onRaise (fun x => do noteFrame x env; theTreesLotGoes x)) _ _ s
  refine wpAny_noted ?_
  rw [dbl_turn1]
  refine wpAny_bind (wpAny_standAt (wpAny_bind (thnF (turn n s hI) fun r s1 h1 => ?_)))
  cases r with
  | none => exact wpAny_pure h1
  | some v => exact wpAny_bind (thnF h1 fun _ s2 h2 => wpAny_bind (thnF h2 fun _ s3 h3 => wpAny_bind (wpAny_bind (thnF h3 fun x s4 h4 => wpAny_bind (wpAny_standAt (wpAny_bind (thnF h4 fun _ s5 h5 => wpAny_pure (wpAny_pure ⟨rfl, h5⟩))))))))
theorem dbl_start1 (same : codeAny (model prog w) A (.compLoop (dbl elt t0 i0 t1 i1 scope pos) 1 it acc env) R s)
    (other : wpAny (model prog w) A (pyIter it) (fun jt s' => codeAny (model prog w) A (.compLoop (dbl elt t0 i0 t1 i1 scope pos) 1 jt acc env) R s') (notedBy (model prog w) A env fun x s' => R (.error x) s') s) :
    codeAny (model prog w) A (.compStart (dbl elt t0 i0 t1 i1 scope pos) 1 it acc env) R s := by
  refine codeAny_of_tree ?_
  show wpAny _ _ ((compStart (dbl elt t0 i0 t1 i1 scope pos) 1 it acc env).onRaise (fun x => do noteFrame x env; standAt theWindowsPlace)) _ _ s
  refine wpAny_notedAt ?_
  unfold compStart
  show wpAny _ _ (ask >>= _) _ _ s
  refine wpAny_bind (wpAny_askSetting (wpAny_ite ?_))
  split
  · first
      | exact wpAny_bind (wpAny_pure (wpAny_pure ⟨rfl, same⟩))
      | exact wpAny_pure ⟨rfl, same⟩
  · refine wpAny_bind (wpAny_rule ?_)
    show wpAny _ _ (standAt i1.pos >>= _) _ _ s
    exact wpAny_bind (wpAny_standAt (wpAny_bind (wpAny_mono other (fun jt s' h => wpAny_pure ⟨rfl, h⟩) fun _ _ x => x)))
end
/-- the set's fill: an outer walk of J, at each turn an inner one; W, V: what holds at each turn's start, with what is left to do -/
def tDbl (P : Program) (w : World) (wi : TI) (g : TG) (wj : TI) (gj : TG) (te : TE) (vs us : List Nat) : TE := fun σ H Q => wi σ H fun J H1 => ∀ D, H1 D = none → ∃ W : Nat → Nat → Hp → Prop, (∃ m, W 0 m (upd H1 D (SetSO P w D []))) ∧ ∀ i m H, W i m H →
  (J.stop i H ∧ Q (.ref D) H) ∨ (J.go i H ∧ ∃ Nx : Hp → Prop, (∀ H', Nx H' → ∃ m', m' < m ∧ W (i + 1) m' H') ∧ ∀ x H', J.yld i H x H' → g x (wipe σ vs) H' fun σ2 H2 => wipe σ2 vs = wipe σ vs ∧ wj σ2 H2 fun K H4 => ∃ V : Nat → Nat → Hp → Prop, (∃ m, V 0 m H4) ∧ ∀ j n H, V j n H →
    (K.stop j H ∧ Nx H) ∨ (K.go j H ∧ ∃ Nk : Hp → Prop, (∀ H', Nk H' → ∃ n', n' < n ∧ V (j + 1) n' H') ∧ ∀ x H', K.yld j H x H' → gj x (wipe σ2 us) H' fun σ3 H5 => wipe σ3 us = wipe σ2 us ∧ te σ3 H5 fun y H7 =>
      ∃ (z : Str) (l : List Str), y = .str z ∧ H7 D = some (SetSO P w D l) ∧ l.length + 1 < scanBound ∧ Nk (upd H7 D (SetSO P w D (if z ∈ l then l else z :: l)))))
section
variable {X : Cx}
theorem pins_back {Y : Cx} {pins : List (Addr × Obj)} {fp : List Addr} {h : Heap} {σ : L2.St} {H : Hp} {s : Shared} (I : Inv Y (pins ++ pinsAt fp h) σ H s) {b : Addr} (hb : b ∈ fp) {o : Obj} (e : h.get? b = some o) : s.heap.get? b = some o ∧ H b = none := by
  have z := I.pin (b, o) (List.mem_append_right _ (List.mem_append_right _ (mem_pinsAt hb e)))
  exact ⟨z.1, z.2.1⟩
theorem dbl_core {pins : List (Addr × Obj)} {s : Shared} {σ : L2.St} {H : Hp} {Q : VK} {elt t0 i0 t1 i1 : Expr} {scope : Scope} {own : List (PySem.Str × Nat)} {us : List Nat} {pos pos' : Pos} {wi wj : TI} {g gj : TG} {te : TE} {use : Option (Value → Sem Unit)} {Qf : Value → Shared → Prop}
    (hc : X.calm = true) (hN : X.N.Nodup) (I : Inv X pins σ H s) (hi : PI X t0 i0 wi) (ok : BlkOk X.N X.env.scope scope own) (hu : ∀ i ∈ us, i ∈ own.map (·.2))
    (hg : ∀ (s : Shared) (H : Hp) (C : Addr) (cl : List (PySem.Str × Addr)) (fp : List Addr), PG (X.blk s H scope (compEnvC scope cl C X.env) fp) t0 g)
    (hj : ∀ (s : Shared) (H : Hp) (C : Addr) (cl : List (PySem.Str × Addr)) (fp : List Addr), PI (X.blk s H scope (compEnvC scope cl C X.env) fp) t1 i1 wj)
    (hk : ∀ (s : Shared) (H : Hp) (C : Addr) (cl : List (PySem.Str × Addr)) (fp : List Addr), PG (X.blk s H scope (compEnvC scope cl C X.env) fp) t1 gj)
    (he : ∀ (s : Shared) (H : Hp) (C : Addr) (cl : List (PySem.Str × Addr)) (fp : List Addr), PE (X.blk s H scope (compEnvC scope cl C X.env) fp) elt te)
    (f0 : ∀ x, foldedSetIterable i0 X.env x = pure x) (f1 : ∀ env x, foldedSetIterable i1 env x = pure x)
    (h : tDbl X.prog X.w wi g wj gj te (own.map (·.2)) us σ H Q)
    (back : ∀ D C s' m H', Inv X pins σ H' s' → Q (.ref D) H' → s'.heap.Ns C m → FpOk X pins H' C → compPost (model X.prog X.w) X.A X.xe use Qf (.ref D) C (.ok .next) s') :
    wpAny (model X.prog X.w) X.A (comprehension (dbl elt t0 i0 t1 i1 scope pos) scope X.env pos' (newSet (.type "set")) false (eval i0 X.env) use) Qf X.xe s := by
  refine wpAny_comprehension_free (use := use) rfl f0 (closure_ok fun y hy e => (ok.free y hy e).elim (fun k => I.ok.has _ (.inl k)) fun k => I.ok.has _ (.inr k)) ok.kind (fun y hy e => by rw [ok.uniq y hy, e])
    (thn (hi.run pins s σ H _ I h) fun xv s1 hx => thn hx fun itv s2 h2 => ?_)
  obtain ⟨it, fp, tn, J, H2, rfl, I2, T, st2, fp2, q⟩ := h2
  refine PpSet.newSet_ok (newEnv_comp ?_)
  obtain ⟨D, hD⟩ : ∃ D, s2.heap.objs.size = D := ⟨_, rfl⟩
  obtain ⟨s3, hs3⟩ : ∃ s3 : Shared, { s2 with heap := s2.heap.push { cls := .type "set", dict := none, data := .set #[] 0 (.fresh 0 0 (!X.w.params.followText "set-order")) } } = s3 := ⟨_, rfl⟩
  obtain ⟨H3, hH3⟩ : ∃ H3, upd H2 D (SetSO X.prog X.w D []) = H3 := ⟨_, rfl⟩
  obtain ⟨W, ⟨m0, w0⟩, turn⟩ := q D (I2.hok.fresh (Nat.le_of_eq hD))
  have old : ∀ b o, s2.heap.get? b = some o → s3.heap.get? b = some o := fun b o e => by rw [← hs3]; exact Heap.get?_push_of_some _ e
  have I3 : Inv X pins σ H3 s3 := by
    rw [← hs3, ← hH3]
    refine I2.laid (t' := s2.toks) (fun b o e => Heap.get?_push_of_some _ e) (Nat.le_of_eq hD) (setSO_ok (setS_empty ?_))
    rw [← hD]
    exact Heap.get?_push_size _ rfl
  have low : ∀ b ∈ fp, b < s2.heap.objs.size := fun b hb => by
    obtain ⟨o, e, _⟩ := T.obj _ _ st2 b hb
    exact Heap.lt_size e
  have fp3 : ∀ b ∈ fp, FpOk X pins H3 b ∧ b < s3.heap.objs.size := fun b hb => by
    have lt := low b hb
    refine ⟨⟨?_, (fp2 b hb).2⟩, by rw [← hs3]; show b < (s2.heap.push _).objs.size; rw [Heap.size_push]; exact Nat.lt_succ_of_lt lt⟩
    rw [← hH3, upd_ne (by rw [← hD]; exact Nat.ne_of_lt lt)]
    exact (fp2 b hb).1
  rw [hs3, hD]
  rw [hH3] at w0
  obtain ⟨cl, hcl⟩ : ∃ cl, cellsFrom (s3.heap.objs.size + 1) scope.names (cloFrom X.env.cells scope.names []) = cl := ⟨_, rfl⟩
  obtain ⟨ce, hce⟩ : ∃ ce, compEnvC scope cl s3.heap.objs.size X.env = ce := ⟨_, rfl⟩
  obtain ⟨s4, hs4⟩ : ∃ s4 : Shared, { s3 with heap := pushCells (s3.heap.push { cls := .type "dict", data := .dict #[] }) scope.names } = s4 := ⟨_, rfl⟩
  have I4 := block_start I3 ok hN fp3
  rw [hcl, hce, hs4] at I4
  obtain ⟨Y, hY⟩ : ∃ Y, X.blk s3 H3 scope ce fp = Y := ⟨_, rfl⟩
  have pg := hg s3 H3 s3.heap.objs.size cl fp
  have pj := hj s3 H3 s3.heap.objs.size cl fp
  have pk := hk s3 H3 s3.heap.objs.size cl fp
  have pe := he s3 H3 s3.heap.objs.size cl fp
  rw [hce] at pg pj pk pe
  have cL : ce.locals = s3.heap.objs.size := by rw [← hce]; rfl
  have st4 : tn 0 s4.heap := T.keep _ _ _ st2 fun b _ o e => by rw [← hs4]; exact pushCells_keeps _ _ _ _ (Heap.get?_push_of_some _ (old b o e))
  have stay : ∀ {τ : L2.St} {H' : Hp} {s' : Shared}, Inv (X.blk s3 H3 scope ce fp) [] τ H' s' → (∀ b ∈ fp, H' b = none) → ∀ b ∈ fp, FpOk (X.blk s3 H3 scope ce fp) [] H' b := fun {τ H' s'} I' hn b hb =>
    ⟨hn b hb, (I'.ok.exf b hb).1, I'.ok.exfs b hb, .inl hb, fun x c e => (I'.ok.exf b hb).2 x c e, fun p hp => absurd (show p ∈ ([] : List (Addr × Obj)) ++ [] from hp) (by simp)⟩
  show codeAny _ _ (.compStart (dbl elt t0 i0 t1 i1 scope pos) 0 (.ref it) (.ref D) (compEnvC scope (cellsFrom (s3.heap.objs.size + 1) scope.names (cloFrom X.env.cells scope.names [])) s3.heap.objs.size X.env)) (compPost (model X.prog X.w) X.A X.xe use Qf (.ref D) s3.heap.objs.size) { s3 with heap := pushCells (s3.heap.push { cls := .type "dict", data := .dict #[] }) scope.names }
  rw [hcl, hce, hs4]
  -- what holds at each outer turn's start
  obtain ⟨Out, hOut⟩ : ∃ Out : Nat → Shared → Prop, Out = fun n s' => ∃ i H', Inv (X.blk s3 H3 scope ce fp) [] (wipe σ (own.map (·.2))) H' s' ∧ tn i s'.heap ∧ (∀ b ∈ fp, H' b = none) ∧ W i n H' := ⟨_, rfl⟩
  have loop : codeAny (model X.prog X.w) X.A (.compLoop (dbl elt t0 i0 t1 i1 scope pos) 0 (.ref it) (.ref D) ce) (compPost (model X.prog X.w) X.A X.xe use Qf (.ref D) s3.heap.objs.size) s4 := by
    refine dbl_loop0 (f1 ce) Out (fun n s5 ho => ?_) m0 (by rw [hOut]; exact ⟨0, H3, I4, st4, fun b hb => (fp3 b hb).1.1, w0⟩)
    rw [hOut] at ho
    obtain ⟨i, H5, I5, st5, n5, w5⟩ := ho
    rcases turn i n H5 w5 with ⟨stop, qq⟩ | ⟨go, Nx, hNx, step⟩
    · refine thnF (T.done (X.blk s3 H3 scope ce fp) rfl rfl rfl hc i [] s5 _ H5 (fun _ _ => False) I5 (stay I5 n5) st5 stop) fun r s6 ⟨hr, I6⟩ => ?_
      subst hr
      have I7 : Inv X pins σ H5 s6 := I3.call' (ch := fp) I6.os I6.base I6.hok I6.bare fun b hb => ⟨(fp3 b hb).1.2.2.2.1, (fp3 b hb).1.2.1, (fp3 b hb).1.2.2.2.2.1, (fp3 b hb).1.2.2.2.2.2⟩
      have nC : H5 ce.locals = none := I6.free
      obtain ⟨m, hn, _⟩ := I6.loc
      have hn : s6.heap.Ns ce.locals m := hn
      rw [cL] at hn nC
      exact back D s3.heap.objs.size s6 m H5 I7 qq hn (I3.fpOk (Nat.le_refl _) nC)
    · refine thnF (T.item (X.blk s3 H3 scope ce fp) rfl rfl rfl hc i [] s5 _ H5 (fun _ _ => False) I5 (stay I5 n5) st5 go) fun r s6 ⟨u, hr, h6⟩ => ?_
      subst hr
      refine thnF h6 fun _ s7 ⟨x, H7, I7, r7, y7, st7, n7⟩ => ?_
      refine thnF (pg.run _ s7 _ H7 x u _ (I7.pinned (stay I7 n7) (T.obj _ _ st7)) r7 (step x H7 y7)) fun _ s8 ⟨σ8, H8, I8, hw8, q8⟩ => ?_
      have len8 : (wipe σ (own.map (·.2))).length = σ8.length := by rw [← hw8, wipe_length]
      have knows8 : ∀ (j : Nat) v, (wipe σ (own.map (·.2)))[j]? = some (some v) → (wipe σ8 us)[j]? = some (some v) := fun j v e => by
        rw [← hw8] at e
        obtain ⟨e1, e2⟩ := wipe_some e
        rw [wipe_out fun z => e2 (hu j z)]
        exact e1
      -- the outer turn's end
      have fin : ∀ {s' : Shared} {H' : Hp}, Inv (X.blk s3 H3 scope ce fp) ([] ++ pinsAt fp s7.heap) (wipe σ8 us) H' s' → Nx H' → ∃ m, m < n ∧ Out m s' := fun {s' H'} I' nx => by
        obtain ⟨m', hm, w'⟩ := hNx H' nx
        rw [hOut]
        refine ⟨m', hm, i + 1, H', (I'.unpinned (pins := [])).weak (len8.trans (wipe_length σ8 us).symm) knows8, T.keep _ _ _ st7 fun b hb o e => (pins_back I' hb e).1, fun b hb => ?_, w'⟩
        obtain ⟨o, e, _⟩ := T.obj _ _ st7 b hb
        exact (pins_back I' hb e).2
      refine thnF (pj.run _ s8 σ8 H8 _ I8 q8) fun xv s10 hx => thnF hx fun itv s11 h11 => ?_
      obtain ⟨jt, gp, un, K, H11, rfl, I11, U, su11, gp11, V, ⟨k0, v0⟩, turnK⟩ := h11
      have stayK : ∀ {H' : Hp}, (∀ b ∈ gp, H' b = none) → ∀ b ∈ gp, FpOk (X.blk s3 H3 scope ce fp) ([] ++ pinsAt fp s7.heap) H' b := fun hn b hb => ⟨hn b hb, (gp11 b hb).2⟩
      have inner : codeAny (model X.prog X.w) X.A (.compLoop (dbl elt t0 i0 t1 i1 scope pos) 1 (.ref jt) (.ref D) ce) (fun r s' => (∃ f, r = .ok f) ∧ ∃ m, m < n ∧ Out m s') s11 := by
        refine dbl_loop1 (fun k s' => ∃ j H', Inv (X.blk s3 H3 scope ce fp) ([] ++ pinsAt fp s7.heap) (wipe σ8 us) H' s' ∧ un j s'.heap ∧ (∀ b ∈ gp, H' b = none) ∧ V j k H') (fun k s12 ho => ?_) k0 ⟨0, H11, I11.weak (wipe_length _ _) (fun j v e => (wipe_some e).1), su11, fun b hb => (gp11 b hb).1, v0⟩
        obtain ⟨j, H12, I12, su12, n12, w12⟩ := ho
        rcases turnK j k H12 w12 with ⟨stop1, nx⟩ | ⟨go1, Nk, hNk, stepK⟩
        · refine thnF (U.done (X.blk s3 H3 scope ce fp) rfl rfl rfl hc j _ s12 (wipe σ8 us) H12 (fun _ _ => False) I12 (stayK n12) su12 stop1) fun r s13 ⟨hr, I13⟩ => ?_
          subst hr
          exact ⟨⟨_, rfl⟩, fin I13 nx⟩
        · refine thnF (U.item (X.blk s3 H3 scope ce fp) rfl rfl rfl hc j _ s12 (wipe σ8 us) H12 (fun _ _ => False) I12 (stayK n12) su12 go1) fun r s13 ⟨u1, hr, h13⟩ => ?_
          subst hr
          refine thnF h13 fun _ s14 ⟨x1, H14, I14, r14, y14, su14, n14⟩ => ?_
          refine thnF (pk.run _ s14 (wipe σ8 us) H14 x1 u1 _ (I14.pinned (stayK n14) (U.obj _ _ su14)) r14 (stepK x1 H14 y14)) fun _ s15 ⟨σ15, H15, I15, hw15, q15⟩ => ?_
          refine thnF (pe.run _ s15 σ15 H15 _ I15 q15) fun z s17 ⟨yv, H17, I17, r17, zz, l, ey, hD17, room, nx⟩ => ?_
          subst ey
          obtain ⟨uu, rfl⟩ := r17
          refine addS_ok (X := X.blk s3 H3 scope ce fp) I17 hD17 room fun s18 I18 => ?_
          obtain ⟨n', hn, v'⟩ := hNk _ nx
          refine ⟨n', hn, j + 1, _, I18.unpinned.weak (by rw [← hw15, wipe_length]) (fun j v e => by rw [← hw15] at e; exact (wipe_some e).1), U.keep _ _ _ su14 fun b hb o e => (pins_back I18 hb e).1, fun b hb => ?_, v'⟩
          obtain ⟨o, e, _⟩ := U.obj _ _ su14 b hb
          exact (pins_back I18 hb e).2
      exact dbl_start1 inner (U.self X.A 0 _ _ _ su11 inner)
  exact PpSet.codeAny_compStart_set loop (T.self X.A 0 _ _ _ st4 loop)
theorem pe_dbl {elt t0 i0 t1 i1 : Expr} {scope : Scope} {own : List (PySem.Str × Nat)} {us : List Nat} {pos : Pos} {wi wj : TI} {g gj : TG} {te : TE} (hc : X.calm = true) (hN : X.N.Nodup) (hi : PI X t0 i0 wi) (ok : BlkOk X.N X.env.scope scope own) (hu : ∀ i ∈ us, i ∈ own.map (·.2))
    (hg : ∀ (s : Shared) (H : Hp) (C : Addr) (cl : List (PySem.Str × Addr)) (fp : List Addr), PG (X.blk s H scope (compEnvC scope cl C X.env) fp) t0 g)
    (hj : ∀ (s : Shared) (H : Hp) (C : Addr) (cl : List (PySem.Str × Addr)) (fp : List Addr), PI (X.blk s H scope (compEnvC scope cl C X.env) fp) t1 i1 wj)
    (hk : ∀ (s : Shared) (H : Hp) (C : Addr) (cl : List (PySem.Str × Addr)) (fp : List Addr), PG (X.blk s H scope (compEnvC scope cl C X.env) fp) t1 gj)
    (he : ∀ (s : Shared) (H : Hp) (C : Addr) (cl : List (PySem.Str × Addr)) (fp : List Addr), PE (X.blk s H scope (compEnvC scope cl C X.env) fp) elt te)
    (f0 : ∀ x, foldedSetIterable i0 X.env x = pure x := by intro _; rfl) (f1 : ∀ env x, foldedSetIterable i1 env x = pure x := by intro _ _; rfl) :
    PE X (.SetComp elt [⟨t0, i0, [], 0⟩, ⟨t1, i1, [], 0⟩] scope pos) (tDbl X.prog X.w wi g wj gj te (own.map (·.2)) us) := by
  refine ⟨fun pins s σ H Q I h => ?_⟩
  rw [PpSet.eval_SetComp]
  refine dbl_core hc hN I hi ok hu hg hj hk he f0 f1 h fun D C s' m H' I' q hn f => ⟨m, hn, fun h'' sb => ?_⟩
  obtain ⟨f0, f1, f2, f3, f4, f5⟩ := f
  exact ⟨.ref D, H', I'.turned (t' := s'.toks) (fun b o hb e => (sb.2 b hb).trans e) f0 f1 f3 f4 f5, rfl, q⟩
end
section
variable {X : Cx} {K : PySem.W.Frag}
theorem pi_tupK {l tg : Expr} {tl : TE} (hl : PE X l tl) (e : X.K = K := by rfl) : PI X tg l (iTup K tl) := e ▸ pi_tup hl
theorem sl_tupAK (e : X.K = K := by rfl) : SlR X (rSlA K) := e ▸ sl_tupA
end
/-- the inner walk -/
theorem dbl_inner {P : Program} {w : World} {J : It} {n : Nat} {G : Hp → Prop} {Y : Nat → Hp → V → Hp → Prop} (wk : Walk J n G Y) {gj : TG} {te : TE} {us : List Nat} {σ : L2.St} {H : Hp} {D : Addr} {Nx : Hp → Prop} (Pv : Nat → Hp → Prop) (h0 : Pv 0 H) (hG : ∀ j H, Pv j H → G H)
    (turn : ∀ j x H H', j < n → Pv j H → Y j H x H' → gj x (wipe σ us) H' fun σ3 H5 => wipe σ3 us = wipe σ us ∧ te σ3 H5 fun y H7 => ∃ (z : Str) (l : List Str), y = .str z ∧ H7 D = some (SetSO P w D l) ∧ l.length + 1 < scanBound ∧ Pv (j + 1) (upd H7 D (SetSO P w D (if z ∈ l then l else z :: l))))
    (fin : ∀ H, Pv n H → Nx H) : ∃ V : Nat → Nat → Hp → Prop, (∃ m, V 0 m H) ∧ ∀ j k H, V j k H →
    (J.stop j H ∧ Nx H) ∨ (J.go j H ∧ ∃ Nk : Hp → Prop, (∀ H', Nk H' → ∃ n', n' < k ∧ V (j + 1) n' H') ∧ ∀ x H', J.yld j H x H' → gj x (wipe σ us) H' fun σ3 H5 => wipe σ3 us = wipe σ us ∧ te σ3 H5 fun y H7 =>
      ∃ (z : Str) (l : List Str), y = .str z ∧ H7 D = some (SetSO P w D l) ∧ l.length + 1 < scanBound ∧ Nk (upd H7 D (SetSO P w D (if z ∈ l then l else z :: l)))) := by
  refine ⟨fun j m H => m = n - j ∧ j ≤ n ∧ Pv j H, ⟨n, by simp, Nat.zero_le _, h0⟩, ?_⟩
  rintro j m H ⟨rfl, hj, p⟩
  by_cases lt : j < n
  · exact .inr ⟨wk.goes j H lt (hG j H p), fun H' => Pv (j + 1) H', fun H' q => ⟨n - (j + 1), by omega, rfl, lt, q⟩, fun x H' y => turn j x H H' lt p (wk.yields j H x H' lt (hG j H p) y)⟩
  · have e : j = n := by omega
    subst e
    exact .inl ⟨wk.stops H (hG _ H p), fin H p⟩
/-- the outer one -/
theorem dbl_outer {P : Program} {w : World} {J : It} {n : Nat} {G : Hp → Prop} {Y : Nat → Hp → V → Hp → Prop} (wk : Walk J n G Y) {D : Addr} {H1 : Hp} {Qd : Hp → Prop} {B : Nat → Hp → (Hp → Prop) → V → Hp → Prop} (Pv : Nat → Hp → Prop) (h0 : Pv 0 H1) (hG : ∀ j H, Pv j H → G H)
    (turn : ∀ i x H H', i < n → Pv i H → Y i H x H' → B i H (Pv (i + 1)) x H') (fin : ∀ H, Pv n H → Qd H) : ∃ W : Nat → Nat → Hp → Prop, (∃ m, W 0 m H1) ∧ ∀ i m H, W i m H →
    (J.stop i H ∧ Qd H) ∨ (J.go i H ∧ ∃ Nx : Hp → Prop, (∀ H', Nx H' → ∃ m', m' < m ∧ W (i + 1) m' H') ∧ ∀ x H', J.yld i H x H' → B i H Nx x H') := by
  refine ⟨fun j m H => m = n - j ∧ j ≤ n ∧ Pv j H, ⟨n, by simp, Nat.zero_le _, h0⟩, ?_⟩
  rintro j m H ⟨rfl, hj, p⟩
  by_cases lt : j < n
  · exact .inr ⟨wk.goes j H lt (hG j H p), Pv (j + 1), fun H' q => ⟨n - (j + 1), by omega, rfl, lt, q⟩, fun x H' y => turn j x H H' lt p (wk.yields j H x H' lt (hG j H p) y)⟩
  · have e : j = n := by omega
    subst e
    exact .inl ⟨wk.stops H (hG _ H p), fin H p⟩
/-- a dict that is only read from here on -/
def tFrzK (te : TE) : TE := fun σ H Q => te σ H fun x H1 => ∃ (d : Addr) (kvs : List (Key × V)), x = .ref d ∧ H1 d = some (.dK kvs) ∧ ∀ od, Q x (upd H1 d (.frz od (.dK kvs)))
theorem pe_frz {X : Cx} {e : Expr} {te : TE} (h : PE X e te) : PE X e (tFrzK te) := by
  refine ⟨fun pins s σ H Q I q => thn (h.run pins s σ H _ I q) fun v s1 ⟨x, H1, I1, r1, d, kvs, ex, hd, k⟩ => ?_⟩
  obtain ⟨od, I2⟩ := I1.lock hd trivial
  exact ⟨x, _, I2, r1, k od⟩
end My
/-! f"{n:,}" -/
namespace My
open PySem PySem.Spec PyProof.Rows L2 StX ClX Builtin Float
/-- what the spec "," tells -/
def fC : FormatSpec := { align := 62, grouping := some ',' }
def commaS (a : Int) : Str := intField' fC (decide (a < 0)) [] ((Nat.toDigits 10 a.natAbs).map fun c => (if (100 : Nat) == 88 then c.toUpper else c).toNat) [] 3
theorem wif_neg {α : Type} {c : Prop} {i : Decidable c} {M : PySem.Model} {A : Around} {a b : Sem α} {Q : α → Shared → Prop} {E : Value → Shared → Prop} {s : Shared} (h : ¬ c) (k : wpAny M A b Q E s) : wpAny M A (@ite _ c i a b) Q E s := by
  rw [if_neg h]
  exact k
theorem ret_eq {M : PySem.Model} {A : Around} {Q : PySem.Fin → Shared → Prop} {E : Value → Shared → Prop} {s : Shared} {z : Str} (y : Str) (e : z = y) (k : wpAny M A (retStr y) Q E s) : wpAny M A (retStr z) Q E s := by
  rw [e]
  exact k
section
variable {prog : Program} {w : World} {A : Around} {E : Value → Shared → Prop} {s : Shared}
theorem spec_comma : parseFormatSpec (Str.ofString ",").cps.toList "int" 62 = .ok fC := by rfl
def specS (f : FormatSpec) (a : Int) : Str := intField' f (decide (a < 0)) [] ((Nat.toDigits 10 a.natAbs).map fun c => (if (100 : Nat) == 88 then c.toUpper else c).toNat) [] 3
theorem field_spec {a : Int} {t : Tok} {sp : Str} {f : FormatSpec} {Q : Value → Shared → Prop} (hd : a.natAbs.log2 < 1920) (hl : (specS f a).length ≤ sizeLine)
    (hp : parseFormatSpec sp.cps.toList "int" 62 = .ok f) (hne : (sp.length == 0) = false)
    (hasc : ((sp.cps.toList.drop 1).any (· ≥ 128) || (sp.cps.getD 0 0 ≥ 128 && !([60, 62, 61, 94] : List Nat).contains (sp.cps.getD 1 0))) = false)
    (hty : f.type.getD (if sp.cps.back? == some 0 then 0 else 100) = 100) (hpr : f.precision = none) (hz : f.noNeg0 = false) (hal : f.alt = false) (hw : f.width = none) (hsz : sp.length ≤ sizeLine)
    (h : Q (.str (specS f a) (s.toks + 1)) { s with toks := s.toks + 1 + 1 }) : wpAny (model prog w) A (formatField (.int a t) sp) Q E s := by
  show wpAny _ _ (holding [.int a t] (pyFormat (.int a t) sp)) Q E s
  refine wpAny_holding ?_
  unfold pyFormat
  refine wpAny_bind (wpAny_mkStr ?_ hsz)
  refine wpAny_bind (m := callSpecial? (.int a t) (Str.ofString "__format__") [.str sp s.toks]) (wpAny_callSpecial?_slot (name := Str.ofString "__format__") (typeIs_int _ a t) F.slot_int_format ?_)
  refine wpAny_call (codeAny_call_builtin F.slot_int_format.plain F.entry_int_format (F.slot_int_format.check _ _ _ _ _ _ _ _ (typeIs_int _ a t) (F.args_int_format_2 _ _) ?_))
  unfold Builtin.«int.__format__»
  simp only [selfAndOne, noKeywords, Int.intOfSelf, asInt?, asStr?, List.isEmpty_nil, if_true, pure_bind, bind_pure, bind_assoc, hne, hasc, Bool.false_eq_true, if_false,
    show (Value.str sp s.toks == Value.none) = false from rfl]
  refine wpAny_bind (wpAny_typeNameOf (T := "str") (typeIs_str _ _ _) (by decide) fun _ => ?_)
  refine wpAny_bind (wpAny_typeNameOfCut_int ?_)
  simp only [hp, hty]
  rw [if_pos]
  rotate_left
  · decide
  show wpAny _ _ (if f.precision.isSome = true then _ else _) _ _ _
  refine wif_neg (by rw [hpr]; decide) ?_
  show wpAny _ _ (if f.noNeg0 = true then _ else _) _ _ _
  refine wif_neg (by rw [hz]; decide) ?_
  show wpAny _ _ (if ((100 : Nat) == 99) = true then _ else _) _ _ _
  refine wif_neg (by decide) ?_
  show wpAny _ _ (do let r ← Builtin.overDigitLimit? a; _) _ _ _
  rw [PySem.overDigitLimit_small hd]
  show wpAny _ _ (if f.width.getD 0 > 100000 then _ else _) _ _ _
  refine wif_neg (by rw [hw]; decide) ?_
  show wpAny _ _ (retStr _) _ _ _
  rw [hal]
  simp only [Bool.false_eq_true, if_false, show ((10 : Nat) == 10) = true by decide, if_true]
  refine ret_eq (specS f a) ?_ ?_
  · unfold specS
    kernel_rfl
  unfold retStr
  refine wpAny_bind (wpAny_mkStr (wpAny_pure ?_) hl)
  dsimp only
  exact wpAny_bind (wpAny_isInstance (typeIs_str _ _ _) isSubtype_str_str (wpAny_pure h))
theorem field_comma {a : Int} {t : Tok} {Q : Value → Shared → Prop} (hd : a.natAbs.log2 < 1920) (hl : (commaS a).length ≤ sizeLine)
    (h : Q (.str (commaS a) (s.toks + 1)) { s with toks := s.toks + 1 + 1 }) : wpAny (model prog w) A (formatField (.int a t) (Str.ofString ",")) Q E s :=
  field_spec hd hl spec_comma (by decide) (by decide) (by decide) rfl rfl rfl rfl (by decide) h
end
/-- {n:,} -/
def tFmtC (te : TE) : TE := fun σ H Q => te σ H fun x H1 => ∃ i : Int, x = .int i ∧ i.natAbs.log2 < 1920 ∧ (commaS i).length ≤ sizeLine ∧ Q (.str (commaS i)) H1
theorem pe_fmtC {X : Cx} {e sp : Expr} {te : TE} {pos : Pos} (he : PE X e te) (hs : PE X sp (tC (.str (Str.ofString ",")))) : PE X (.FormattedValue e (-1) (some sp) pos) (tFmtC te) := by
  refine ⟨fun pins s σ H Q I h => wpAny_FormattedValue_spec (thn (he.run pins s σ H _ I h) fun v s1 ⟨x, H1, I1, r1, i, ex, hd, hl, q⟩ => ?_)⟩
  subst ex
  obtain ⟨t, rfl⟩ := r1
  refine thn (hs.run pins s1 σ H1 (fun y H2 => y = .str (Str.ofString ",") ∧ H2 = H1) I1 ⟨rfl, rfl⟩) fun u s2 ⟨y, H2, I2, r2, ey, eH⟩ => ?_
  subst ey
  rw [eH] at I2
  obtain ⟨t2, rfl⟩ := r2
  exact ⟨_, t2, rfl, field_comma hd hl ⟨.str (commaS i), H1, I2.tok _, ⟨_, rfl⟩, q⟩⟩
/-- .ljust(n, c), .rjust(n, c) -/
theorem mt_fill {X : Cx} {id : String} {g : Str → Int → Nat → Str} (rule : ∀ (a f : Str) (i : Int) (t u v : Tok) (s : Shared) (Q : Value → Shared → Prop), PadOk i = true → f.length = 1 → (∀ t' k, Q (.str (g a i (f.cps.getD 0 0)) t') { s with toks := k }) →
    wpAny (model X.prog X.w) X.A (call (.builtin id) [.str a t, .int i u, .str f v]) Q X.xe s) : MtR X id (fun x xs H Q => ∃ (a : Str) (i : Int) (f : Str), x = .str a ∧ xs = [.int i, .str f] ∧ PadOk i = true ∧ f.length = 1 ∧ Q (.str (g a i (f.cps.getD 0 0))) H) := by
  intro pins s σ H x xs v us Q I rx rs h
  obtain ⟨a, i, f, rfl, rfl, hp, hf, h⟩ := h
  obtain ⟨t, rfl⟩ := rx
  cases rs with
  | cons r1 rs =>
    cases rs with
    | cons r2 rs =>
      cases rs
      obtain ⟨u, rfl⟩ := r1
      obtain ⟨z, rfl⟩ := r2
      exact rule a f i t u z s _ hp hf fun t' k => ⟨V.str _, H, I.tok k, ⟨t', rfl⟩, h⟩
theorem mt_ljustF {X : Cx} : MtR X "str.ljust" (fun x xs H Q => ∃ (a : Str) (i : Int) (f : Str), x = .str a ∧ xs = [.int i, .str f] ∧ PadOk i = true ∧ f.length = 1 ∧ Q (.str (Txt.ljustF a i (f.cps.getD 0 0))) H) := mt_fill fun _ _ _ _ _ _ _ _ hp hf hq => ljust_fill hp hf hq
theorem mt_rjustF {X : Cx} : MtR X "str.rjust" (fun x xs H Q => ∃ (a : Str) (i : Int) (f : Str), x = .str a ∧ xs = [.int i, .str f] ∧ PadOk i = true ∧ f.length = 1 ∧ Q (.str (Txt.rjustF a i (f.cps.getD 0 0))) H) := mt_fill fun _ _ _ _ _ _ _ _ hp hf hq => rjust_fill hp hf hq
end My
/-! Lambdas that are kept in a list and called later: made (pe_lam), told by what a call does (LOk), handed to a def. -/
namespace My
open PySem PySem.Spec PyProof.Rows L2 StX ClX LamX NdefX
/-- the object at f is a lambda: its words but the body are F's, its body is e -/
def LamO (f : Addr) (F : NF) (e : Expr) : HO := .ext fun h => ∃ pm ctv : Value, h.get? f = some (PySem.W.kla_obj F.name F.qual F.params e F.scope F.cl pm F.c ctv)
theorem lamO_ne {f : Addr} {F : NF} {e : Expr} (ps : Array Value) : LamO f F e ≠ .tbl ps := fun z => by
  unfold LamO at z
  cases z
theorem lamO_at {P : Program} {w : World} {H : Hp} {h : Heap} {f : Addr} {F : NF} {e : Expr} (hok : HOk P w H h) (z : H f = some (LamO f F e)) : ∃ pm ctv : Value, h.get? f = some (PySem.W.kla_obj F.name F.qual F.params e F.scope F.cl pm F.c ctv) := (hok f _ z).1
section
variable {X : Cx} {pins : List (Addr × Obj)} {σ : L2.St} {H : Hp} {s : Shared}
/-- a lambda's object, just laid, is known from now on -/
theorem inv_lam {F : NF} {e : Expr} {h' : Heap} {tk : Nat} {pm ctv : Value} (I : Inv X pins σ H { s with heap := h', toks := tk }) :
    Inv X pins σ (upd H h'.objs.size (LamO h'.objs.size F e)) { s with heap := h'.push (PySem.W.kla_obj F.name F.qual F.params e F.scope F.cl pm F.c ctv), toks := tk } := by
  have at_ : (h'.push (PySem.W.kla_obj F.name F.qual F.params e F.scope F.cl pm F.c ctv)).get? h'.objs.size = some (PySem.W.kla_obj F.name F.qual F.params e F.scope F.cl pm F.c ctv) := Heap.get?_push_size _ rfl
  exact I.laid (a := h'.objs.size) (t' := tk) (fun b u z => Heap.get?_push_of_some _ z) (Nat.le_refl _) ⟨⟨pm, ctv, at_⟩, ⟨_, at_⟩, fun h1 h2 ⟨p, t, z⟩ st => ⟨p, t, st _ z⟩⟩
theorem lam_mk {T : List (Addr × Str)} {c P : Addr} {params : Arguments} {body : Expr} {scope : Scope} {pos : Pos} {E : Value → Shared → Prop} {Q : Value → Shared → Prop} (I : Inv X pins σ H s) (TB : TabB X.base X.mg c P) (hcode : X.env.code = .ref c)
    (hm : (P, X.env.qual ++ "<lambda>") ∈ T) (hu : ∀ p ∈ T, p.1 = P → p.2 = X.env.qual ++ "<lambda>") (hT : Tabs T H) (hdef : defaultsOf params X.env = ([], [])) (hfree : ∀ y ∈ scope.names, y.2 = .free → ∃ c, X.env.cells.lookup y.1 = some c)
    (k : ∀ (f c' : Addr) (H1 : Hp) (s' : Shared), Inv X pins σ H1 s' → ExtN H H1 → (∀ b, H1 b = Option.none → H b = Option.none) → Tabs T H1 → H f = Option.none →
      H1 f = some (LamO f ⟨"<lambda>", X.env.qual ++ "<lambda>", params, [], scope, cloFrom X.env.cells scope.names [], c'⟩ body) → H1 c' = some (CodeO c' (X.env.qual ++ "<lambda>")) → Q (.ref f) s') :
    wpAny (model X.prog X.w) X.A (eval (.Lambda params body scope pos) X.env) Q E s := by
  obtain ⟨tab, hP, triples, among⟩ := hT _ hm
  have hPh : s.heap.get? P = some { cls := .none, data := .fields tab } := I.hok P _ hP
  have blt : s.heap.BuiltinsAt X.mg P := TB.bm.keeps I.bk
  have glo := I.mod.glob.keeps I.bk
  have cod := TB.code.keeps I.bk
  refine PySem.W.kla_eval hdef ?_
  -- the end that both ways share
  have last : ∀ (c' : Addr) (H1 : Hp) (h' : Heap) (tk : Nat) (pm ctv : Value), Inv X pins σ H1 { s with heap := h', toks := tk } → ExtN H H1 → (∀ b, H1 b = Option.none → H b = Option.none) → Tabs T H1 → H1 c' = some (CodeO c' (X.env.qual ++ "<lambda>")) →
      Q (.ref h'.objs.size) { s with heap := h'.push (PySem.W.kla_obj "<lambda>" (X.env.qual ++ "<lambda>") params body scope (cloFrom X.env.cells scope.names []) pm c' ctv), toks := tk } := by
    intro c' H1 h' tk pm ctv J ext back tabs hc'
    have fresh : H1 h'.objs.size = Option.none := J.hok.fresh (Nat.le_refl _)
    have J2 := inv_lam (F := ⟨"<lambda>", X.env.qual ++ "<lambda>", params, [], scope, cloFrom X.env.cells scope.names [], c'⟩) (e := body) (pm := pm) (ctv := ctv) J
    have up : ∀ b o, H1 b = some o → upd H1 h'.objs.size (LamO h'.objs.size ⟨"<lambda>", X.env.qual ++ "<lambda>", params, [], scope, cloFrom X.env.cells scope.names [], c'⟩ body) b = some o := fun b o z => by
      rw [upd_ne (ne_of_none z fresh)]
      exact z
    exact k h'.objs.size c' _ _ J2 (fun b o z n => up b o (ext b o z n)) (fun b z => back b (upd_none z)) (tabs.ext up) (back _ fresh) upd_same (up _ _ hc')
  cases hc : codeAmong pos tab.toList with
  | some cv =>
    obtain ⟨c', rfl, hco⟩ := among pos cv hc
    exact PySem.W.kla_makeFunctionHit (mg := X.mg) (c := c) (P := P) (ps := tab) (closure_ok hfree) I.ok.glob glo hcode cod hPh triples hc blt fun ctv h' tk old _ => last c' H h' tk _ ctv (I.kept old) (ExtN.refl H) (fun _ z => z) hT hco
  | none =>
    refine PySem.W.kla_makeFunction (mg := X.mg) (c := c) (P := P) (ps := tab) (closure_ok hfree) I.ok.glob glo hcode cod hPh triples hc TB.gP blt fun c' ctv h' tk old big below hrec written => ?_
    obtain ⟨c2, oc, vs, t, e2, hoc, hd, hv⟩ := hrec
    cases e2
    have freshC : H c' = Option.none := I.hok.fresh big
    have J := inv_table (t' := tk) (more := #[rawInt pos.line, rawInt pos.col, .ref c']) (h' := h') I hP (fun b o n z => old b o n z) written big ⟨oc, vs, t, hoc, hd, hv⟩
    have ext : ExtN H (upd (upd H P (.tbl (tab ++ #[rawInt pos.line, rawInt pos.col, .ref c']))) c' (CodeO c' (X.env.qual ++ "<lambda>"))) := fun b o z n => by
      have nP : b ≠ P := fun y => n tab (Option.some.inj (z.symm.trans (by rw [y]; exact hP)))
      rw [upd_ne (ne_of_none z freshC), upd_ne nP]
      exact z
    have back : ∀ b, (upd (upd H P (.tbl (tab ++ #[rawInt pos.line, rawInt pos.col, .ref c']))) c' (CodeO c' (X.env.qual ++ "<lambda>"))) b = Option.none → H b = Option.none := fun b z => upd_none (upd_none z)
    have lst : (tab ++ #[rawInt pos.line, rawInt pos.col, .ref c']).toList = tab.toList ++ [rawInt pos.line, rawInt pos.col, .ref c'] := by simp
    refine last c' _ h' tk _ ctv J ext back (fun p hp => ?_) upd_same
    by_cases here : p.1 = P
    · rw [hu p hp here, here]
      refine ⟨_, by rw [upd_ne (ne_of_none hP freshC), upd_same], by rw [lst]; exact PySem.TriplesOk_snoc _ _ _ _ triples, fun p' cv hcv => ?_⟩
      rw [lst] at hcv
      rcases among_app _ triples hcv with z | z
      · obtain ⟨c0, y1, y2⟩ := among p' cv z
        exact ⟨c0, y1, ext _ _ y2 codeO_ne⟩
      · exact ⟨c', z, upd_same⟩
    · obtain ⟨tab2, a1, a2, a3⟩ := hT p hp
      refine ⟨tab2, by rw [upd_ne (ne_of_none a1 freshC), upd_ne here]; exact a1, a2, fun p' cv hcv => ?_⟩
      obtain ⟨c0, y1, y2⟩ := a3 p' cv hcv
      exact ⟨c0, y1, ext _ _ y2 codeO_ne⟩
/-- lambda: e, as a value -/
def tLamV (T : List (Addr × Str)) (mk : Addr → NF) (e : Expr) : TE := fun σ H Q => Tabs T H ∧ ∀ (f c' : Addr) (H1 : Hp), ExtN H H1 → (∀ b, H1 b = Option.none → H b = Option.none) → Tabs T H1 → H f = Option.none → H1 f = some (LamO f (mk c') e) → H1 c' = some (CodeO c' (mk c').qual) → Q (.ref f) H1
theorem pe_lam {T : List (Addr × Str)} {c P : Addr} {params : Arguments} {body : Expr} {scope : Scope} {pos : Pos} (TB : TabB X.base X.mg c P) (hcode : X.env.code = .ref c) (hm : (P, X.env.qual ++ "<lambda>") ∈ T) (hu : ∀ p ∈ T, p.1 = P → p.2 = X.env.qual ++ "<lambda>")
    (hdef : defaultsOf params X.env = ([], [])) (hfree : ∀ y ∈ scope.names, y.2 = .free → X.env.scope.names.lookup y.1 = some .cell ∨ X.env.scope.names.lookup y.1 = some .free) :
    PE X (.Lambda params body scope pos) (tLamV T (fun c' => ⟨"<lambda>", X.env.qual ++ "<lambda>", params, [], scope, cloFrom X.env.cells scope.names [], c'⟩) body) := by
  refine ⟨fun pins s σ H Q I h => ?_⟩
  obtain ⟨hT, h⟩ := h
  exact lam_mk I TB hcode hm hu hT hdef (fun y hy e => (hfree y hy e).elim (fun z => I.ok.has _ (.inl z)) fun z => I.ok.has _ (.inr z)) fun f c' H1 s' J ext back tabs fn at_ co => ⟨.ref f, H1, J, rfl, h f c' H1 ext back tabs fn at_ co⟩
end
end My
/-! What a call of a lambda does (LOk); a lambda called by its name; a lambda handed to a def. -/
namespace My
open PySem PySem.Spec PyProof.Rows L2 StX ClX LamX NdefX
/-- cells hold on while only others run -/
theorem cells_un {cl : List (Str × Addr)} {fr : List Str} {ws : List (Option V)} {fs ex : List Addr} {H H1 : Hp} {h h1 : Heap} (C : CellsAt cl fr ws h H) (u : Un fs ex H H1 h h1) (hx : ∀ y c, cl.lookup y = some c → c ∉ ex) : CellsAt cl fr ws h1 H1 := by
  have go : ∀ y c, cl.lookup y = some c → ∀ v, h.IsCell c v → h1.IsCell c v := fun y c e v ⟨o, ho, hd⟩ => by
    obtain ⟨sl, z⟩ := u.any ho (C.all y c e).1 (hx y c e)
    exact ⟨_, z, hd⟩
  refine ⟨C.len, fun y c e => ?_, C.inj, fun i y e => ?_⟩
  · obtain ⟨n, v, z⟩ := C.all y c e
    obtain ⟨o, ho, _⟩ := id z
    exact ⟨u.free c o ho n (hx y c e), v, go y c e v z⟩
  · obtain ⟨c, hc, hv⟩ := C.has i y e
    refine ⟨c, hc, fun v ev => ?_⟩
    obtain ⟨x, r, z⟩ := hv v ev
    exact ⟨x, r, go y c hc _ z⟩
abbrev SpL := List (Option V) → Hp → VK → XK → Prop
/-- the promise of the lambda at f: sp ws, ws what its captured cells hold at the call -/
structure LOk (P : Program) (w : World) (K : PySem.W.Frag) (mg : Str → Option Value) (base : Heap) (CX : CXT) (k : Nat) (f : Addr) (F : NF) (e : Expr) (fr : List Str) (sp : SpL) : Prop where
  run : ∀ (A : Around) (outer : List Env) (s : Shared) (H : Hp) (ws : List (Option V)) (Q : VK) (E : XK), Room k A → Env0 P w K mg base A outer s H → H f = some (LamO f F e) → H F.c = some (CodeO F.c F.qual) → CellsAt F.cl fr ws s.heap H → sp ws H Q E →
    codeAny (model P w) A (.call (.ref f) ⟨[], []⟩) (CR CX outer P w H s Q E) s
section
variable {CX : CXT} {P : Program} {w : World} {K : PySem.W.Frag} {mg : Str → Option Value} {base : Heap} {N fr : List Str} {F : NF} {e : Expr} {f : Addr} {k j : Nat} {sp : SpL}
theorem LOk.mono (o : LOk P w K mg base CX j f F e fr sp) (h : j ≤ k) : LOk P w K mg base CX k f F e fr sp := ⟨fun A outer s H ws Q E hr => o.run A outer s H ws Q E (hr.mono h)⟩
/-- a lambda by its body -/
theorem lok_of (S : NScope N [] fr F.scope) (hb : ∀ pm ctv : Value, bindArgs (PySem.W.kla_fn F.name F.qual F.params e F.scope F.cl pm (.ref F.c) ctv) ⟨[], []⟩ = pure [])
    (hbody : ∀ (A : Around) (outer : List Env) (s : Shared) (H : Hp) (ws : List (Option V)) (Q : VK) (E : XK), Room k (A.deeper (envF F f s.heap.objs.size)) → ws.length = fr.length → sp ws H Q E → ∃ t, PE (ncx CX P w K mg base N F f A outer s H E) e t ∧ t (startF N [] ws) H Q) :
    LOk P w K mg base CX (k + 1) f F e fr sp := by
  refine ⟨fun A outer s H ws Q E hr e0 hf hc C hsp => ?_⟩
  have lim : s.heap.NoLimit := e0.mod.nolimit.keeps fun b o z => (e0.bs b o z).1
  obtain ⟨pm, ctv, ho⟩ := lamO_at e0.hok hf
  refine PySem.W.kla_callFunE hr.depth ho rfl S.co S.gen rfl (codeO_at e0.hok hc) ?_
  rw [hb]
  refine wpAny_pure (wpAny_newFunctionEnv S.nocell (fun y hy => absurd hy (by simp)) (fun h₁ hns hsb => ⟨lim.fresh _ hsb, ?_⟩) S.kind)
  show codeAny _ _ (.expr e (envF F f s.heap.objs.size)) _ _
  have old : ∀ b o, s.heap.get? b = some o → h₁.get? b = some o := fun b o z => hsb.extBut b o (Nat.ne_of_lt (Heap.lt_size z)) (Heap.get?_push_of_some _ z)
  obtain ⟨t, ht, hq⟩ := hbody A outer s H ws Q E (hr.deeper _) C.len hsp
  have I : Inv (ncx CX P w K mg base N F f A outer s H E) [] (startF N [] ws) H { s with heap := h₁, toks := s.toks + ([] : List (Str × Value)).length } := inv_startN (ps := []) (us := []) (vs := []) S hr.hd e0 rfl .nil C hns old
  refine PySem.W.kla_codeExpr (wpAny_mono (ht.run [] _ _ H Q I hq) (fun v s' hs => ?_) fun x s' hs => hs)
  obtain ⟨y, H', J, rv, q⟩ := hs
  exact ⟨y, H', J.os, J.bare, J.base, J.hok, rv, q⟩
end
section
variable {X : Cx}
/-- x(), x a name that holds a lambda -/
def tCallL (i : Nat) (f : Addr) (F : NF) (e : Expr) (ws : List (Option V)) (sp : SpL) (E : XK) : TE := fun σ H Q => σ[i]? = some (some (.ref f)) ∧ H f = some (LamO f F e) ∧ H F.c = some (CodeO F.c F.qual) ∧ sp ws H Q E
theorem pe_lcall {CX : CXT} {i j k : Nat} {f : Addr} {F : NF} {e : Expr} {fr : List Str} {ws : List (Option V)} {sp : SpL} {E : XK} {x : Str} {p pos : Pos} (L : LOk X.prog X.w X.K X.mg X.base CX k f F e fr sp) (cells : ∀ (pins : List (Addr × Obj)) (σ : L2.St) (H : Hp) (s : Shared), Inv X pins σ H s → CellsAt F.cl fr ws s.heap H)
    (hr : Room j X.A) (hk : k ≤ j) (hx : Passes CX X E) (hN : X.N[i]? = some x) (hv : Vis X.env.scope x) (hd : (x == ("__debug__" : Str)) = false := by decide) (hcd : (x == ("__classdict__" : Str)) = false := by decide) :
    PE X (.Call (.Name x p) [] [] pos) (tCallL i f F e ws sp E) := by
  refine ⟨fun pins s σ H Q I ⟨hs, hf, hc, q⟩ => ?_⟩
  refine wpAny_Call_Name_kw (thn ((pe_var (pos := p) hN hv hd hcd).run pins s σ H (fun v H1 => v = .ref f ∧ H1 = H) I ⟨.ref f, hs, rfl, rfl⟩) fun u s1 ⟨v, H1, I1, r1, ev, eH⟩ => ?_)
  subst ev
  rw [eH] at I1
  obtain rfl : u = Value.ref f := r1
  obtain ⟨pm, ctv, ho⟩ := lamO_at I1.hok hf
  refine PySem.W.callWith_F0 (first := []) ⟨_, _, _, _, ho⟩ ?_
  refine wpAny_call (codeAny_mono (L.run X.A X.stack s1 H ws Q E (hr.mono hk) I1.env0 hf hc (cells _ _ _ _ I1) q) fun r s' hq => ?_)
  match r, hq with
  | .error y, hq => exact hx pins σ H s1 y s' I1 hq
  | .ok (.ret y), hq => exact I1.after hq
  | .ok .next, hq => exact False.elim hq
  | .ok .brk, hq => exact False.elim hq
  | .ok .cont, hq => exact False.elim hq
end
/-- what a def does that gets a lambda and calls it: TT, told of the lambda's promise -/
def GetsL (P : Program) (w : World) (K : PySem.W.Frag) (mg : Str → Option Value) (base : Heap) (j k : Nat) (g : Addr) (TT : (Hp → VK → XK → Prop) → Hp → VK → Prop) : Prop :=
  ∀ (A : Around) (outer : List Env) (s : Shared) (H : Hp) (f : Addr) (F : NF) (e : Expr) (fr : List Str) (ws : List (Option V)) (sp : SpL) (Q : VK), Room j A → Env0 P w K mg base A outer s H → LOk P w K mg base (L2.CX P w) k f F e fr sp → H f = some (LamO f F e) → H F.c = some (CodeO F.c F.qual) →
    CellsAt F.cl fr ws s.heap H → TT (sp ws) H Q → codeAny (model P w) A (.call (.ref g) ⟨[.ref f], []⟩) (CR C8.CX0 outer P w H s Q C8.E0) s
section
variable {X : Cx}
/-- g(e), e a lambda or what holds one; caps: how the cells of those that may come are known here -/
def tGets (P : Program) (w : World) (K : PySem.W.Frag) (mg : Str → Option Value) (base : Heap) (k : Nat) (good : L2.St → List (Str × Addr) → List Str → List (Option V) → Prop) (TT : (Hp → VK → XK → Prop) → Hp → VK → Prop) (te : TE) : TE := fun σ H Q => te σ H fun v H1 => ∃ (f : Addr) (F : NF) (e : Expr) (fr : List Str) (ws : List (Option V)) (sp : SpL),
  v = .ref f ∧ H1 f = some (LamO f F e) ∧ H1 F.c = some (CodeO F.c F.qual) ∧ good σ F.cl fr ws ∧ LOk P w K mg base (L2.CX P w) k f F e fr sp ∧ TT (sp ws) H1 Q
theorem pe_gets {j k : Nat} {g : Addr} {TT : (Hp → VK → XK → Prop) → Hp → VK → Prop} {good : L2.St → List (Str × Addr) → List Str → List (Option V) → Prop} {x : Str} {a : Expr} {te : TE} {p pos : Pos} (G : GetsL X.prog X.w X.K X.mg X.base j k g TT) (ha : PE X a te)
    (cells : ∀ (pins : List (Addr × Obj)) (σ : L2.St) (H : Hp) (s : Shared) cl fr ws, Inv X pins σ H s → good σ cl fr ws → CellsAt cl fr ws s.heap H) (hr : Room j X.A) (hg : Gl X x) (hm : X.mg x = some (.ref g)) (hk : PySem.W.keepIn X.K (.ref g) = true) (hdb : (x == ("__debug__" : Str)) = false := by decide)
    (he : starEach [a] X.env = (false, eval a X.env) :: starEach [] X.env := by rfl) (hpl : (backTo pos (starEach [] X.env)).any (·.1) = false := by rfl) : PE X (.Call (.Name x p) [a] [] pos) (tGets X.prog X.w X.K X.mg X.base k good TT te) := by
  refine ⟨fun pins s σ H Q I h => ?_⟩
  refine wpAny_Call_Name_kw (ld_glob I hg hm ?_ hdb)
  have pa : PA X [a] (tCons te tNil) := pa_cons ha pa_nil he
  refine PySem.W.callWith_K (h₀ := X.base) I.ok.mod.kin hk (thn (pa.run pos pins s σ H (fun vs H1 => ∃ v, vs = [v] ∧ ∃ (f : Addr) (F : NF) (e : Expr) (fr : List Str) (ws : List (Option V)) (sp : SpL),
    v = .ref f ∧ H1 f = some (LamO f F e) ∧ H1 F.c = some (CodeO F.c F.qual) ∧ good σ F.cl fr ws ∧ LOk X.prog X.w X.K X.mg X.base (L2.CX X.prog X.w) k f F e fr sp ∧ TT (sp ws) H1 Q) I ?_) fun us s1 hh => ?_) he hpl
  · unfold tGets at h
    simp only [tCons, tNil]
    simpa only [List.cons.injEq, and_true, exists_eq_left'] using h
  obtain ⟨vs, H1, I1, rv, v, rfl, f, F, e, fr, ws, sp, ev, hf, hc, gd, L, tt⟩ := hh
  refine ⟨I1.kIn, ?_⟩
  subst ev
  cases rv with
  | cons r1 rn =>
  cases rn
  rename_i u
  obtain rfl : u = Value.ref f := r1
  show wpAny _ _ (call (.ref g) [.ref f]) _ _ _
  refine wpAny_call (codeAny_mono (G X.A X.stack s1 H1 f F e fr ws sp Q hr I1.env0 L hf hc (cells _ _ _ _ _ _ _ I1 gd) tt) fun r s' hq => ?_)
  match r, hq with
  | .error y, hq => exact (show False from hq).elim
  | .ok (.ret y), hq => exact I1.after hq
  | .ok .next, hq => exact False.elim hq
  | .ok .brk, hq => exact False.elim hq
  | .ok .cont, hq => exact False.elim hq
end
end My
/-! [e for t in i if c], c read with what is known of the def's own cells when the loop begins. -/
namespace My
open PySem PySem.Spec PyProof.Rows L2 StX ClX
section
variable {X : Cx}
def tLcS (wi : TI) (g : TG) (tt : L2.St → TT) (te : TE) (vs : List Nat) : TE := fun σ H Q => tLc wi g (tt σ) te vs σ H Q
theorem lcS_core {pins : List (Addr × Obj)} {s : Shared} {σ : L2.St} {H : Hp} {Q : VK} {elt tg iter : Expr} {ifs : List Expr} {scope : Scope} {own : List (PySem.Str × Nat)} {pos pos' : Pos} {wi : TI} {g : TG} {tt : TT} {te : TE} {use : Option (Value → Sem Unit)} {Qf : Value → Shared → Prop}
    (hc : X.calm = true) (hN : X.N.Nodup) (I : Inv X pins σ H s) (hi : PI X tg iter wi) (ok : BlkOk X.N X.env.scope scope own)
    (hg : ∀ (s : Shared) (H : Hp) (C : Addr) (cl : List (PySem.Str × Addr)) (fp : List Addr), PG (X.blk s H scope (compEnvC scope cl C X.env) fp) tg g)
    (ht : ∀ (s : Shared) (H : Hp) (C : Addr) (cl : List (PySem.Str × Addr)) (fp : List Addr), Inv X pins σ H s → (∀ b ∈ fp, FpOk X pins H b) → PTs (X.blk s H scope (compEnvC scope cl C X.env) fp) ifs tt)
    (he : ∀ (s : Shared) (H : Hp) (C : Addr) (cl : List (PySem.Str × Addr)) (fp : List Addr), PE (X.blk s H scope (compEnvC scope cl C X.env) fp) elt te) (hs : ∀ x, foldedSetIterable iter X.env x = pure x)
    (h : tLc wi g tt te (own.map (·.2)) σ H Q)
    (back : ∀ D C s' m H', Inv X pins σ H' s' → Q (.ref D) H' → s'.heap.Ns C m → FpOk X pins H' C → compPost (model X.prog X.w) X.A X.xe use Qf (.ref D) C (.ok .next) s') :
    wpAny (model X.prog X.w) X.A (comprehension (.ListComp elt [⟨tg, iter, ifs, 0⟩] scope pos) scope X.env pos' (newList []) false (eval iter X.env) use) Qf X.xe s := by
  refine wpAny_comprehension_free (use := use) rfl hs (closure_ok fun y hy e => (ok.free y hy e).elim (fun k => I.ok.has _ (.inl k)) fun k => I.ok.has _ (.inr k)) ok.kind (fun y hy e => by rw [ok.uniq y hy, e])
    (thn (hi.run pins s σ H _ I h) fun xv s1 hx => thn hx fun itv s2 h2 => ?_)
  obtain ⟨it, fp, tn, J, H2, rfl, I2, T, st2, fp2, q⟩ := h2
  refine wpAny_newObj_type (newEnv_comp ?_) (by show 0 ≤ sizeLine; decide)
  obtain ⟨D, hD⟩ : ∃ D, s2.heap.objs.size = D := ⟨_, rfl⟩
  obtain ⟨s3, hs3⟩ : ∃ s3 : Shared, { s2 with heap := s2.heap.push { cls := .type "list", data := .seq ([] : List Value).toArray } } = s3 := ⟨_, rfl⟩
  obtain ⟨H3, hH3⟩ : ∃ H3, upd H2 D (.lst []) = H3 := ⟨_, rfl⟩
  obtain ⟨W, ⟨m0, w0⟩, turn⟩ := q D (I2.hok.fresh (Nat.le_of_eq hD))
  have old : ∀ b o, s2.heap.get? b = some o → s3.heap.get? b = some o := fun b o e => by rw [← hs3]; exact Heap.get?_push_of_some _ e
  have I3 : Inv X pins σ H3 s3 := by
    rw [← hs3, ← hH3]
    refine I2.laid (t' := s2.toks) (fun b o e => Heap.get?_push_of_some _ e) (Nat.le_of_eq hD) ⟨Nat.zero_le _, [], 0, .nil, ?_⟩
    rw [← hD]
    exact Heap.get?_push_size _ rfl
  have low : ∀ b ∈ fp, b < s2.heap.objs.size := fun b hb => by
    obtain ⟨o, e, _⟩ := T.obj _ _ st2 b hb
    exact Heap.lt_size e
  have fp3 : ∀ b ∈ fp, FpOk X pins H3 b ∧ b < s3.heap.objs.size := fun b hb => by
    have lt := low b hb
    refine ⟨⟨?_, (fp2 b hb).2⟩, by rw [← hs3]; show b < (s2.heap.push _).objs.size; rw [Heap.size_push]; exact Nat.lt_succ_of_lt lt⟩
    rw [← hH3, upd_ne (by rw [← hD]; exact Nat.ne_of_lt lt)]
    exact (fp2 b hb).1
  rw [hs3, hD]
  rw [hH3] at w0
  obtain ⟨cl, hcl⟩ : ∃ cl, cellsFrom (s3.heap.objs.size + 1) scope.names (cloFrom X.env.cells scope.names []) = cl := ⟨_, rfl⟩
  obtain ⟨ce, hce⟩ : ∃ ce, compEnvC scope cl s3.heap.objs.size X.env = ce := ⟨_, rfl⟩
  obtain ⟨s4, hs4⟩ : ∃ s4 : Shared, { s3 with heap := pushCells (s3.heap.push { cls := .type "dict", data := .dict #[] }) scope.names } = s4 := ⟨_, rfl⟩
  have I4 := block_start I3 ok hN fp3
  rw [hcl, hce, hs4] at I4
  have pg := hg s3 H3 s3.heap.objs.size cl fp
  have pt := ht s3 H3 s3.heap.objs.size cl fp I3 fun b hb => (fp3 b hb).1
  have pe := he s3 H3 s3.heap.objs.size cl fp
  rw [hce] at pg pt pe
  have cL : ce.locals = s3.heap.objs.size := by rw [← hce]; rfl
  have st4 : tn 0 s4.heap := T.keep _ _ _ st2 fun b _ o e => by rw [← hs4]; exact pushCells_keeps _ _ _ _ (Heap.get?_push_of_some _ (old b o e))
  have stay : ∀ {τ : L2.St} {H' : Hp} {s' : Shared}, Inv (X.blk s3 H3 scope ce fp) [] τ H' s' → (∀ b ∈ fp, H' b = none) → ∀ b ∈ fp, FpOk (X.blk s3 H3 scope ce fp) [] H' b := fun {τ H' s'} I' hn b hb =>
    ⟨hn b hb, (I'.ok.exf b hb).1, I'.ok.exfs b hb, .inl hb, fun x c e => (I'.ok.exf b hb).2 x c e, fun p hp => absurd (show p ∈ ([] : List (Addr × Obj)) ++ [] from hp) (by simp)⟩
  show codeAny _ _ (.compStart (.ListComp elt [⟨tg, iter, ifs, 0⟩] scope pos) 0 (.ref it) (.ref D) (compEnvC scope (cellsFrom (s3.heap.objs.size + 1) scope.names (cloFrom X.env.cells scope.names [])) s3.heap.objs.size X.env)) (compPost (model X.prog X.w) X.A X.xe use Qf (.ref D) s3.heap.objs.size) { s3 with heap := pushCells (s3.heap.push { cls := .type "dict", data := .dict #[] }) scope.names }
  rw [hcl, hce, hs4]
  obtain ⟨Out, hOut⟩ : ∃ Out : Nat → Shared → Prop, Out = fun n s' => ∃ i H', Inv (X.blk s3 H3 scope ce fp) [] (wipe σ (own.map (·.2))) H' s' ∧ tn i s'.heap ∧ (∀ b ∈ fp, H' b = none) ∧ W i n H' := ⟨_, rfl⟩
  have loop : codeAny (model X.prog X.w) X.A (.compLoop (.ListComp elt [⟨tg, iter, ifs, 0⟩] scope pos) 0 (.ref it) (.ref D) ce) (compPost (model X.prog X.w) X.A X.xe use Qf (.ref D) s3.heap.objs.size) s4 := by
    refine compLoop_any Out (fun n s5 ho => ?_) m0 (by rw [hOut]; exact ⟨0, H3, I4, st4, fun b hb => (fp3 b hb).1.1, w0⟩)
    rw [hOut] at ho
    obtain ⟨i, H5, I5, st5, n5, w5⟩ := ho
    rcases turn i n H5 w5 with ⟨stop, qq⟩ | ⟨go, Nx, hNx, step⟩
    · refine thnF (T.done (X.blk s3 H3 scope ce fp) rfl rfl rfl hc i [] s5 _ H5 (fun _ _ => False) I5 (stay I5 n5) st5 stop) fun r s6 ⟨hr, I6⟩ => ?_
      subst hr
      have I7 : Inv X pins σ H5 s6 := I3.call' (ch := fp) I6.os I6.base I6.hok I6.bare fun b hb => ⟨(fp3 b hb).1.2.2.2.1, (fp3 b hb).1.2.1, (fp3 b hb).1.2.2.2.2.1, (fp3 b hb).1.2.2.2.2.2⟩
      have nC : H5 ce.locals = none := I6.free
      obtain ⟨m, hn, _⟩ := I6.loc
      have hn : s6.heap.Ns ce.locals m := hn
      rw [cL] at hn nC
      exact back D s3.heap.objs.size s6 m H5 I7 qq hn (I3.fpOk (Nat.le_refl _) nC)
    · refine thnF (T.item (X.blk s3 H3 scope ce fp) rfl rfl rfl hc i [] s5 _ H5 (fun _ _ => False) I5 (stay I5 n5) st5 go) fun r s6 ⟨u, hr, h6⟩ => ?_
      subst hr
      refine thnF h6 fun _ s7 ⟨x, H7, I7, r7, y7, st7, n7⟩ => ?_
      refine thnF (pg.run _ s7 _ H7 x u _ (I7.pinned (stay I7 n7) (T.obj _ _ st7)) r7 (step x H7 y7)) fun _ s8 ⟨σ8, H8, I8, hw8, q8⟩ => ?_
      refine thnF (pt.run _ s8 σ8 H8 _ I8 q8) fun b s9 ⟨H9, I9, q9⟩ => ?_
      have fin : ∀ {s' : Shared} {H' : Hp}, Inv (X.blk s3 H3 scope ce fp) ([] ++ pinsAt fp s7.heap) σ8 H' s' → Nx H' → ∃ m, m < n ∧ Out m s' := fun {s' H'} I' nx => by
        obtain ⟨m', hm, w'⟩ := hNx H' nx
        rw [hOut]
        refine ⟨m', hm, i + 1, H', (I'.unpinned (pins := [])).weak (by rw [← hw8, wipe_length]) (fun j v e => by rw [← hw8] at e; exact (wipe_some e).1), T.keep _ _ _ st7 fun b hb o e => (pins_back I' hb e).1, fun b hb => ?_, w'⟩
        obtain ⟨o, e, _⟩ := T.obj _ _ st7 b hb
        exact (pins_back I' hb e).2
      cases b with
      | false =>
        rw [if_neg (by decide)] at q9
        rw [if_neg (by decide)]
        exact fin I9 q9
      | true =>
        rw [if_pos rfl] at q9
        rw [if_pos rfl]
        exact thnF (pe.run _ s9 σ8 H9 _ I9 q9) fun z s10 ⟨yv, H10, I10, r10, acc, hD10, room, nx⟩ => app_ok (X := X.blk s3 H3 scope ce fp) I10 hD10 room r10 fun s11 I11 => fin I11 nx
  exact codeAny_compStart_list loop (T.self X.A 0 _ _ _ st4 loop)
theorem pe_lcS {elt tg iter : Expr} {ifs : List Expr} {scope : Scope} {own : List (PySem.Str × Nat)} {pos : Pos} {wi : TI} {g : TG} {tt : L2.St → TT} {te : TE} (hc : X.calm = true) (hN : X.N.Nodup) (hi : PI X tg iter wi) (ok : BlkOk X.N X.env.scope scope own)
    (hg : ∀ (s : Shared) (H : Hp) (C : Addr) (cl : List (PySem.Str × Addr)) (fp : List Addr), PG (X.blk s H scope (compEnvC scope cl C X.env) fp) tg g)
    (ht : ∀ (pins : List (Addr × Obj)) (σ : L2.St) (s : Shared) (H : Hp) (C : Addr) (cl : List (PySem.Str × Addr)) (fp : List Addr), Inv X pins σ H s → (∀ b ∈ fp, FpOk X pins H b) → PTs (X.blk s H scope (compEnvC scope cl C X.env) fp) ifs (tt σ))
    (he : ∀ (s : Shared) (H : Hp) (C : Addr) (cl : List (PySem.Str × Addr)) (fp : List Addr), PE (X.blk s H scope (compEnvC scope cl C X.env) fp) elt te) (hs : ∀ x, foldedSetIterable iter X.env x = pure x := by intro _; rfl) :
    PE X (.ListComp elt [⟨tg, iter, ifs, 0⟩] scope pos) (tLcS wi g tt te (own.map (·.2))) := by
  refine ⟨fun pins s σ H Q I h => ?_⟩
  rw [eval_ListComp]
  refine lcS_core hc hN I hi ok hg (fun s H C cl fp => ht pins σ s H C cl fp) he hs h fun D C s' m H' I' q hn f => ⟨m, hn, fun h'' sb => ?_⟩
  obtain ⟨f0, f1, f2, f3, f4, f5⟩ := f
  exact ⟨.ref D, H', I'.turned (t' := s'.toks) (fun b o hb e => (sb.2 b hb).trans e) f0 f1 f3 f4 f5, rfl, q⟩
end
/-- what the def's own cells hold is known in the block too -/
theorem cells_blk {X : Cx} {pins : List (Addr × Obj)} {σ : L2.St} {H : Hp} {s : Shared} {scope : Scope} {cenv : Env} {fp : List Addr} {cl : List (PySem.Str × Addr)} {fr : List PySem.Str} {js : List Nat} (I : Inv X pins σ H s) (f : ∀ b ∈ fp, FpOk X pins H b) (c : NdefX.Caps X cl fr js)
    {qins : List (Addr × Obj)} {τ : L2.St} {G : Hp} {t : Shared} (J : Inv (X.blk s H scope cenv fp) qins τ G t) : NdefX.CellsAt cl fr (js.map (NdefX.slotAt σ)) t.heap G :=
  cells_un (NdefX.cells_of I c) J.base fun y a e z => (f a z).2.2.2.2.1 y a (c.sub y a e) rfl
end My
/-! raise C("..") of an own class without an __init__ of its own. -/
namespace My
open PySem PySem.Spec PyProof.Rows L2 StX ClX
structure ErrA (K : PySem.W.Frag) (mg : Str → Option Value) (x : Str) where
  C : Addr
  mg : mg x = some (.ref C)
  keep : PySem.W.keepIn K (.ref C) = true
  exc : PySem.W.excIn K C [.type "ValueError", .type "Exception", .type "BaseException", .type "object"] "ValueError.__new__" = true
  sub : PySem.W.subIn K (.ref C) (.type "BaseException") = some true
  ty : PySem.W.typeIn K (.ref C) = some (.type "type")
theorem ps_err {X : Cx} {W : WX} {x m : Str} {j : Nat} {p p2 pos pos' : Pos} (A : ErrA X.K X.mg x) (hc : X.calm = true) (tk : Takes X W) (hg : Gl X x) (hdb : (x == ("__debug__" : Str)) = false := by decide) :
    PS X (.Raise (some (.Call (.Name x p) [.Constant (.str m) j p2] [] pos)) none pos') (fun _ σ H => W (.ref A.C) none σ H) :=
  ps_raise hc tk (pmk_own F.excBase_ValueError A.exc A.mg A.keep (raises_own A.sub A.ty) hg hdb)
structure GlobA (mg : Str → Option Value) (x : Str) where
  C : Addr
  mg : mg x = some (.ref C)
/-- what the law's own word for an exception asks of its class D -/
structure RaisedA (K : PySem.W.Frag) (D CO CU CA CD CN CM : Addr) (b0 b1 b2 b3 b4 : Bool) : Prop where
  ec : ExcC K D
  m : PySem.W.exmOne K (.ref D) (.ref CM) = some true
  v : PySem.W.kitOne K (.ref D) (.type "ValueError") = some true
  k0 : PySem.W.kitOne K (.ref D) (.ref CO) = some b0
  k1 : PySem.W.kitOne K (.ref D) (.ref CU) = some b1
  k2 : PySem.W.kitOne K (.ref D) (.ref CA) = some b2
  k3 : PySem.W.kitOne K (.ref D) (.ref CD) = some b3
  k4 : PySem.W.kitOne K (.ref D) (.ref CN) = some b4
/-- l.count(x), a list of bools -/
def rCntB (K : PySem.W.Frag) : V → List V → Hp → VK → Prop := fun x xs H Q => ∃ (p : Addr) (ys : List Bool) (z : Bool), x = .ref p ∧ xs = [.bl z] ∧ SqL K H p (ys.map V.bl) ∧ Q (.int (ys.count z : Nat)) H
theorem count_bools {z : Bool} : ∀ {ys : List Bool} {us : List Value}, Vals (ys.map V.bl) us → us.countP (eqU (.bl z)) = ys.count z
  | [], _, .nil => rfl
  | y :: ys, _, .cons r t => by
    obtain rfl := r
    rw [List.countP_cons, List.count_cons, count_bools t]
    cases y <;> cases z <;> rfl
theorem flat_bools (ys : List Bool) : (ys.map V.bl).all flatV = true := by
  rw [List.all_map, List.all_eq_true]
  intro x _
  rfl
theorem mt_indexK {X : Cx} {K : PySem.W.Frag} (eK : X.K = K := by rfl) : MtR X "list.index" (rIndex K) := eK ▸ mt_index
theorem mt_bcount {X : Cx} {K : PySem.W.Frag} (eK : X.K = K := by rfl) : MtR X "list.count" (rCntB K) := by
  subst eK
  intro pins s σ H x xs v us Q I rx rxs h
  obtain ⟨p, ys, z, rfl, rfl, hs, q⟩ := h
  cases rx
  obtain ⟨u, rfl, ru⟩ := rxs.one
  obtain rfl := ru
  obtain ⟨its, rv, ⟨⟨cls, dd, data, sl⟩, n, ho, hc, hdn, hd⟩, hlen⟩ := I.list hs
  simp only at hc hd
  subst hc hd
  refine call_meets PySem.F.slot_list_count ⟨_, ho, rfl⟩ PySem.F.entry_list_count (PySem.F.args_list_count_2 _ _)
    (SeqAt.list_countAt p its.toArray n dd sl (.bool z) (eqU (.bl z))) ⟨ho, fun w hw => mem_eqAt (x := .bl z) rfl rfl rv (flat_bools ys) w (by simpa using hw), ?_⟩
  refine ⟨.int (ys.count z : Nat), H, I.tok _, ⟨s.toks, ?_⟩, q⟩
  have ec : its.toArray.toList.countP (eqU (.bl z)) = ys.count z := count_bools rv
  show Value.int ((its.toArray.toList.countP (eqU (.bl z)) : Nat) : Int) s.toks = _
  rw [ec]
def clsA : Value → Addr
  | .ref a => a
  | _ => 0
theorem suite_or {X : Cx} {ss : List Stmt} {G : Prop} {R : TS} (h : G → PSs X ss R) : PSs X ss (fun D σ H => G ∧ R D σ H) := ⟨fun pins s σ H D I ⟨g, r⟩ => (h g).run pins s σ H D I r⟩
/-- what is never reached -/
theorem pe_never {X : Cx} {e : Expr} : PE X e (fun _ _ _ => False) := ⟨fun _ _ _ _ _ _ h => h.elim⟩
theorem pss_never {X : Cx} {ss : List Stmt} : PSs X ss (fun _ _ _ => False) := ⟨fun _ _ _ _ _ _ h => h.elim⟩
section
open LamX NdefX
variable {X : Cx}
/-- x(), what it lets out taken at the names' present values -/
def tCallLS (i : Nat) (f : Addr) (F : NF) (e : Expr) (ws : List (Option V)) (sp : SpL) (W : WX) : TE := fun σ H Q => σ[i]? = some (some (.ref f)) ∧ H f = some (LamO f F e) ∧ H F.c = some (CodeO F.c F.qual) ∧ sp ws H Q (fun cls d H' => W cls d σ H')
theorem pe_lcallS {i j k : Nat} {f : Addr} {F : NF} {e : Expr} {fr : List Str} {ws : List (Option V)} {sp : SpL} {W : WX} {x : Str} {p pos : Pos} (L : LOk X.prog X.w X.K X.mg X.base (L2.CX X.prog X.w) k f F e fr sp) (cells : ∀ (pins : List (Addr × Obj)) (σ : L2.St) (H : Hp) (s : Shared), Inv X pins σ H s → CellsAt F.cl fr ws s.heap H)
    (hr : Room j X.A) (hk : k ≤ j) (tk : Takes X W) (hN : X.N[i]? = some x) (hv : Vis X.env.scope x) (hd : (x == ("__debug__" : Str)) = false := by decide) (hcd : (x == ("__classdict__" : Str)) = false := by decide) :
    PE X (.Call (.Name x p) [] [] pos) (tCallLS i f F e ws sp W) := by
  refine ⟨fun pins s σ H Q I ⟨hs, hf, hc, q⟩ => ?_⟩
  refine wpAny_Call_Name_kw (thn ((pe_var (pos := p) hN hv hd hcd).run pins s σ H (fun v H1 => v = .ref f ∧ H1 = H) I ⟨.ref f, hs, rfl, rfl⟩) fun u s1 ⟨v, H1, I1, r1, ev, eH⟩ => ?_)
  subst ev
  rw [eH] at I1
  obtain rfl : u = Value.ref f := r1
  obtain ⟨pm, ctv, ho⟩ := lamO_at I1.hok hf
  refine PySem.W.callWith_F0 (first := []) ⟨_, _, _, _, ho⟩ ?_
  refine wpAny_call (codeAny_mono (L.run X.A X.stack s1 H ws Q _ (hr.mono hk) I1.env0 hf hc (cells _ _ _ _ I1) q) fun r s' hq => ?_)
  match r, hq with
  | .error y, hq => exact passAt tk σ pins H s1 y s' I1 hq
  | .ok (.ret y), hq => exact I1.after hq
  | .ok .next, hq => exact False.elim hq
  | .ok .brk, hq => exact False.elim hq
  | .ok .cont, hq => exact False.elim hq
end
end My
/-! A def that makes lambdas: its code object is known; the cells of a lambda of its own, known in a block. -/
namespace My
open PySem PySem.Spec PyProof.Rows L2 StX ClX LamX NdefX
/-- the def at f has the code object c, whose table stands at P -/
structure CodeA (K : PySem.W.Frag) (f : Addr) where
  c : Addr
  tab : Addr
  cd : ∀ (oc : Value) (od : Option Addr) (fd : FuncData) (osl : Array (Option Value)), K.lookup f = some ⟨oc, od, .func fd, osl⟩ → fd.code = .ref c
theorem okXc {P : Program} {w : World} {K : PySem.W.Frag} {mg : Str → Option Value} {base : Heap} {x qual : Str} {st : Stmt} {f : Addr} {fd : FuncData} {N ps : List Str} {k : Nat} {sp : Sp} (F : L2.Fun K x qual st f fd) (C : CodeA K f) (S : FnScope N ps (defScope st)) (len : ∀ vs H Q E, sp vs H Q E → vs.length = ps.length)
    (hbody : ∀ (A : Around) (outer : List Env) (s : Shared) (H : Hp) (vs : List V) (Q : VK) (E : XK), Room k (A.deeper (envOfC qual (defScope st) s.heap.objs.size f (.ref C.c))) → sp vs H Q E →
      ∃ t, PSs (cxOf (L2.CX P w) P w K mg base N qual (defScope st) f (.ref C.c) A outer s H E) (defBody st) t ∧ t { nx := fun _ H' => Q .non H', rt := Q } (L2.start N vs) H) : FnOk P w K mg base (L2.CX P w) (k + 1) f fd ps sp := by
  obtain ⟨oc, od, kV, doc, pm, an, cdv, ct, osl, rfl, lk, hcd⟩ := F.ex
  have e : cdv = .ref C.c := C.cd _ _ _ _ lk
  subst e
  exact fn_of lk hcd S len fun A outer s H vs Q E hr hsp => hbody A outer s H vs Q E hr hsp
/-- a lambda's cells are those of the def X that made it; ws: what they hold by σ -/
structure GoodL (X : Cx) (σ : L2.St) (cl : List (Str × Addr)) (fr : List Str) (ws : List (Option V)) : Prop where
  ex : ∃ (scope : Scope) (js : List Nat), cl = cloFrom X.env.cells scope.names [] ∧ (∀ y ∈ scope.names, y.2 = .free → X.env.scope.names.lookup y.1 = some .cell ∨ X.env.scope.names.lookup y.1 = some .free) ∧ (∀ y ∈ fr, (y, NameKind.free) ∈ scope.names) ∧ js.map (fun j => X.N[j]?) = fr.map some ∧ ws = js.map (slotAt σ)
theorem good_own {X : Cx} {pins : List (Addr × Obj)} {σ : L2.St} {H : Hp} {s : Shared} {cl : List (Str × Addr)} {fr : List Str} {ws : List (Option V)} (I : Inv X pins σ H s) (g : GoodL X σ cl fr ws) : CellsAt cl fr ws s.heap H := by
  obtain ⟨scope, js, rfl, h1, h2, h3, rfl⟩ := g.ex
  exact cells_of I (Caps.made I.ok h1 h2 h3)
theorem good_blk {X : Cx} {pins : List (Addr × Obj)} {σ : L2.St} {H : Hp} {s : Shared} {scope : Scope} {cenv : Env} {fp : List Addr} (I : Inv X pins σ H s) (f : ∀ b ∈ fp, FpOk X pins H b) {qins : List (Addr × Obj)} {τ : L2.St} {G : Hp} {t : Shared} {cl : List (Str × Addr)} {fr : List Str} {ws : List (Option V)}
    (J : Inv (X.blk s H scope cenv fp) qins τ G t) (g : GoodL X σ cl fr ws) : CellsAt cl fr ws t.heap G := by
  obtain ⟨scope, js, rfl, h1, h2, h3, rfl⟩ := g.ex
  exact cells_blk I f (Caps.made I.ok h1 h2 h3) J
theorem one_tab {P : Addr} {q : Str} : ∀ p ∈ [(P, q)], p.1 = P → p.2 = q := fun p hp _ => by
  rw [List.mem_singleton.mp hp]
theorem tabs_new {P : Addr} {q : Str} {H : Hp} (h : H P = some (.tbl #[])) : Tabs [(P, q)] H := fun p hp => by
  rw [List.mem_singleton.mp hp]
  exact TabS.nil h
end My
/-! set(l) of a list of texts. -/
namespace My
open PySem PySem.Spec PyProof.Rows L2 StX ClX
/-- a text put to the others, if it is new -/
def putT (l : List Str) (y : Str) : List Str := if y ∈ l then l else y :: l
theorem putT_mem {l : List Str} {y z : Str} : z ∈ putT l y ↔ z = y ∨ z ∈ l := by
  unfold putT
  by_cases c : y ∈ l
  · rw [if_pos c]
    exact ⟨.inr, fun h => h.elim (fun e => e ▸ c) id⟩
  · rw [if_neg c, List.mem_cons]
theorem putT_len (l : List Str) (y : Str) : (putT l y).length ≤ l.length + 1 := by
  unfold putT
  split <;> simp
theorem fold_len : ∀ (ys l : List Str), (ys.foldl putT l).length ≤ l.length + ys.length
  | [], l => Nat.le_refl _
  | y :: ys, l => by
    have h := fold_len ys (putT l y)
    have := putT_len l y
    rw [List.foldl_cons, List.length_cons]
    omega
theorem fold_mem {z : Str} : ∀ (ys l : List Str), z ∈ ys.foldl putT l ↔ z ∈ l ∨ z ∈ ys
  | [], l => by simp
  | y :: ys, l => by
    rw [List.foldl_cons, fold_mem ys, putT_mem, List.mem_cons]
    constructor
    · rintro ((h | h) | h)
      · exact .inr (.inl h)
      · exact .inl h
      · exact .inr (.inr h)
    · rintro (h | h | h)
      · exact .inl (.inr h)
      · exact .inl (.inl h)
      · exact .inr h
theorem fold_nodup : ∀ (ys l : List Str), l.Nodup → (ys.foldl putT l).Nodup
  | [], l, h => h
  | y :: ys, l, h => by
    refine fold_nodup ys _ ?_
    unfold putT
    by_cases c : y ∈ l
    · rw [if_pos c]
      exact h
    · rw [if_neg c]
      exact List.nodup_cons.mpr ⟨c, h⟩
section
variable {P : Program} {w : World} {A : Around} {E : Value → Shared → Prop} {s : Shared}
theorem hashed_add {a : Addr} {l : List Str} {k : Str} {u : Tok} {Q : Bool → Shared → Prop} (R : SetS P w s.heap a l) (room : l.length + 1 < scanBound)
    (hQ : ∀ b h', Heap.SameBut a s.heap h' → SetS P w h' a (putT l k) → Q b { s with heap := h' }) : wpAny (model P w) A (setAddHashed a (.str k u) (hashStr w k)) Q E s := by
  by_cases m : k ∈ l
  · refine there_again R m ?_
    have q := hQ false s.heap (Heap.SameBut.refl a s.heap)
    unfold putT at q
    rw [if_pos m] at q
    exact q R
  · obtain ⟨D, ho, F, nd, lb, r, d⟩ := R
    refine Froz.add_x ho F m room ?_
    have q := hQ true _ (Heap.SameBut.update s.heap a fun _ => Froz.sObj "set" (Froz.addTx (hashStr w k) (.str k u) D))
    unfold putT at q
    rw [if_neg m] at q
    obtain ⟨r1, d1⟩ := walkable_add (w := w) (k := k) (u := u) (h := hashStr w k) r d
    exact q ⟨_, Froz.get_upd _ ho rfl, Froz.add_ok u F, List.nodup_cons.mpr ⟨m, nd⟩, room, r1, d1⟩
theorem updated {I : Addr} {fp wr : List Addr} {G : Array GenState → Array GenState → Prop} {n : Nat} {Pv : Nat → Value → Prop} {St : Nat → Shared → Prop} {R : Result → Shared → Prop}
    (W : WalksS P w A.in1 I fp wr G n Pv St) (S : Addr) (far : S ∉ fp) (ys : List Str) (en : n = ys.length) (few : ys.length + 1 < scanBound) (each : ∀ i v, Pv i v → ∃ k t, ys[i]? = some k ∧ v = .str k t) :
    ∀ (k i : Nat) (s : Shared), n - i = k → i ≤ n → St i s → SetS P w s.heap S ((ys.take i).foldl putT []) →
      (∀ s', Moved (S :: wr) G s s' → SetS P w s'.heap S (ys.foldl putT []) → R (.ok (.ret .none)) s') →
      codeAny (model P w) A (.builtin "set.update.loop" ⟨[.ref S, .ref I], []⟩) R s := by
  have far' : S ∉ wr := fun h => far (W.sub _ h)
  have more : ∀ b ∈ wr, b ∈ S :: wr := fun b hb => List.mem_cons_of_mem _ hb
  intro k
  induction k with
  | zero =>
    intro i s ek le st RS done
    obtain rfl : i = n := by omega
    refine codeAny_builtin F.entry_set_update_loop ?_
    rw [Around.under_plainId F.plain_set_update_loop _]
    show wpAny _ A.in1 (pyNext (.ref I) >>= _) _ _ s
    refine wpAny_bind (W.done s _ _ st fun s' mv => ?_)
    show wpAny _ A.in1 (ret Value.none) _ _ s'
    rw [List.take_of_length_le (by omega)] at RS
    exact wpAny_pure (done s' (mv.mono more) (RS.keep fun o e => mv.heap S o far' e))
  | succ k ih =>
    intro i s ek le st RS done
    have lt : i < n := by omega
    refine codeAny_builtin F.entry_set_update_loop ?_
    rw [Around.under_plainId F.plain_set_update_loop _]
    show wpAny _ A.in1 (pyNext (.ref I) >>= _) _ _ s
    refine wpAny_bind (W.item i s _ _ lt st fun v s' pv st' mv => ?_)
    obtain ⟨z, t, hz, rfl⟩ := each i v pv
    have RS' := RS.keep fun o e => mv.heap S o far' e
    show wpAny _ A.in1 (holding [Value.str z t] (setAdd S (.str z t)) >>= _) _ _ s'
    refine wpAny_bind (wpAny_holding ?_)
    unfold setAdd
    refine wpAny_holding (wpAny_bind ((strKind P w).pyHash (Froz.is_str z t) ?_))
    have lf := fold_len (ys.take i) []
    rw [List.length_take] at lf
    refine hashed_add (s := { s' with toks := s'.toks + 1 }) RS' (by simp at lf; omega) fun b h' sb new => ?_
    have new' : SetS P w h' S ((ys.take (i + 1)).foldl putT []) := by
      rw [List.take_add_one, hz, List.foldl_append]
      exact new
    refine wpAny_pure ⟨plainId_quiet F.plain_set_update_loop _, ih (i + 1) _ (by omega) lt (W.frame _ s' _ _ st' (Nat.le_succ _) fun b hb o e => ?_) new' fun s'' mv2 RS2 => ?_⟩
    · rw [sb.2 b fun h : b = S => far (h ▸ hb)]
      exact e
    · refine done s'' (Moved.trans W.gtrans ((mv.mono more).then_heap (Nat.le_succ _) fun b o hb e => ?_) mv2) RS2
      rw [sb.2 b fun h : b = S => hb (h ▸ List.mem_cons_self)]
      exact e
theorem setS_of_list {l : Addr} {items : Array Value} (ys : List Str) {Q : Value → Shared → Prop} (calm : A.handled = none) (isl : s.heap.IsList l items) (strs_ : StrsAre items.toList ys) (few : ys.length + 1 < scanBound)
    (done : ∀ (h2 : Heap) (tk : Nat), SetS P w h2 s.heap.objs.size (ys.foldl putT []) → (∀ b o, s.heap.get? b = some o → h2.get? b = some o) → Q (.ref s.heap.objs.size) { s with heap := h2, toks := tk }) :
    wpAny (model P w) A (call (.type "set") [.ref l]) Q E s := by
  have size : items.size = ys.length := by simpa using StrsAre.length strs_
  obtain ⟨_, _, hmro⟩ := F.called_set.mro
  have hmade := F.called_set.made
  have hsub := F.called_set.sub
  refine wpAny_call (codeAny_of_tree ?_)
  show wpAny _ _ (callAny (.type "set") _) _ _ _
  refine wpAny_pure ⟨Code.quiet_builtin _ (by decide +kernel), codeAny_builtin PySem.F.entry_type_call ?_⟩
  rw [Around.under_plain (weight_type_call_type "set" [.ref l] []) rfl]
  have h1 := F.called_set.notType
  have h2 := F.called_set.canCreate
  have hct := F.typeCall_set_1 (.ref l)
  repeat (any_goals (first | assumption | wp_step))
  let led := !w.params.followText "set-order"
  have eled : (!w.params.followText "set-order") = led := rfl
  refine codeAny_mono (code_set_led1 (.ref l) (E := E) (Q₁ := fun made s₁ => made = .ref s.heap.objs.size ∧ s₁ = { s with heap := s.heap.push (bareSet led) }) ⟨rfl, rfl⟩) fun r s₁ hr => ?_
  cases r with
  | error e => exact hr
  | ok fl =>
  cases fl with
  | ret made =>
    obtain ⟨rfl, rfl⟩ := hr
    have atS : (s.heap.push (bareSet led)).get? s.heap.objs.size = some (bareSet led) := Heap.get?_push_size _ rfl
    have isS : Shared.TypeIs { s with heap := s.heap.push (bareSet led) } (.ref s.heap.objs.size) "set" := ⟨_, atS, rfl⟩
    have hli := F.called_set.init.lookup
    have hbi := F.called_set.init.bind (.ref s.heap.objs.size)
    repeat (any_goals (first | assumption | wp_step))
    refine codeAny_mono (codeAny_call_builtin (R := wants (fun r s₂ => r = .none ∧ ∃ h2 tk, s₂ = { s with heap := h2, toks := tk } ∧ SetS P w h2 s.heap.objs.size (ys.foldl putT []) ∧
      (∀ b o, s.heap.get? b = some o → h2.get? b = some o)) E) F.called_set.init.plain F.entry_set_init (check_set_init_1 isS ?_)) fun r₂ s₂ hr₂ => ?_
    · obtain ⟨⟨ocls, odict, odata, oslots⟩, atL, hcl, nl, hdl⟩ := isl
      simp only at hcl hdl
      subst hcl; subst hdl
      have atL2 : (s.heap.push (bareSet led)).get? l = some { cls := .type "list", dict := odict, data := .seq items nl, slots := oslots } := Heap.get?_push_of_some _ atL
      have hsls := PySem.F.sub_list_set
      have hslf := PySem.F.sub_list_frozenset
      have hne : (Value.type "list" == Value.type "dict") = false := by decide
      have isl2 : (s.heap.push (bareSet led)).IsList l items := ⟨_, atL2, rfl, nl, rfl⟩
      unfold Builtin.«set.__init__» noKeywords Builtin.Frozenset.updateFrom
      generalize hPI : pyIter = PI
      wp_walk
      subst hPI
      refine wpAny_pyIter_list isl2 ?_
      refine wpAny_bind (wpAny_runValue ?_)
      have below : l < s.heap.objs.size := Heap.lt_size atL
      have calm3 : A.in1.in1.in1.handled = none := by simp [calm]
      have grown : (s.heap.push (bareSet led)).objs.size = s.heap.objs.size + 1 := Heap.size_push ..
      have apart : l ≠ (s.heap.push (bareSet led)).objs.size := Nat.ne_of_lt (by rw [grown]; exact Nat.lt_succ_of_lt below)
      have fresh : s.heap.objs.size ∉ [(s.heap.push (bareSet led)).objs.size, l] := by
        simp only [List.mem_cons, List.not_mem_nil, or_false, not_or]
        exact ⟨Nat.ne_of_lt (by rw [grown]; exact Nat.lt_succ_self _), Nat.ne_of_gt below⟩
      have each : ∀ (i : Nat) (v : Value), items[i]? = some v → ∃ k t, ys[i]? = some k ∧ v = .str k t := fun i v hv => by
        obtain ⟨y, t, e1, e2⟩ := PyProof.Rows.StrsAre.item strs_ i v (by simpa using hv)
        exact ⟨y, t, e2, e1⟩
      refine updated ((Walks.list calm3 _ l apart items).toS) s.heap.objs.size fresh ys size few each (items.size - 0) 0 _ (by omega) (Nat.zero_le _)
        ⟨⟨_, Heap.get?_push_size _ rfl, rfl, rfl⟩, (isl2.push _)⟩ (setS_empty (Heap.get?_push_of_some _ atS)) ?_
      rintro ⟨h2, gens, drawn, tk, os⟩ moved R
      have eg : gens = s.gens := moved.gens
      have ed : drawn = s.drawn := moved.drawn
      have eo : os = s.os := moved.os
      subst eg; subst ed; subst eo
      show wpAny _ _ _ _ _ _
      refine wpAny_pure ?_
      show wpAny _ _ (ret Value.none) _ _ _
      refine wpAny_pure ⟨rfl, h2, tk, rfl, R, fun b o e => ?_⟩
      have lt := Heap.lt_size e
      refine moved.heap b o ?_ (Heap.get?_push_of_some _ (Heap.get?_push_of_some _ e))
      simp only [List.mem_cons, List.not_mem_nil, or_false, not_or]
      exact ⟨Nat.ne_of_lt lt, Nat.ne_of_lt (by rw [grown]; exact Nat.lt_succ_of_lt lt)⟩
    · cases r₂ with
      | error e => exact hr₂
      | ok fl₂ =>
      cases fl₂ with
      | ret r =>
        obtain ⟨rfl, h2, tk, rfl, R, kept⟩ := hr₂
        repeat (any_goals (first | assumption | wp_step))
        exact done _ _ R kept
      | _ => exact hr₂.elim
  | _ => exact hr.elim
end
section
variable {X : Cx}
def rSetLS (P : Program) (w : World) : List V → Hp → VK → Prop := fun vs H Q => ∃ (l : Addr) (ys : List Str), vs = [.ref l] ∧ H l = some (.lst (ys.map V.str)) ∧ ys.length + 1 < scanBound ∧
  ∀ p, H p = none → Q (.ref p) (upd H p (SetSO P w p (ys.foldl putT [])))
theorem cr_setLS (calm : X.calm = true) : CallR X (.type "set") (rSetLS X.prog X.w) := by
  intro pins s σ H vs us Q I r h
  obtain ⟨l, ys, rfl, hl, few, q⟩ := h
  cases r with
  | cons r rr =>
  cases rr
  cases r
  obtain ⟨its, rv, ⟨o, n, ho, hc, hd, hs⟩, hz⟩ := I.list (SqL.of hl)
  refine setS_of_list ys (I.ok.hd calm) ⟨o, ho, hc, n, hs⟩ (strs_of_vals rv) few fun h2 tk R kept => ?_
  exact ⟨.ref _, upd H s.heap.objs.size (SetSO X.prog X.w s.heap.objs.size (ys.foldl putT [])), I.laid (t' := tk) (fun b u e => kept b u e) (Nat.le_refl _) (setSO_ok R), rfl, q _ (I.hok.fresh (Nat.le_refl _))⟩
end
end My
/-! super().__init__(text) in the __init__ of an own exception over ValueError. -/
namespace My
open PySem PySem.Spec PyProof.Rows L2 StX ClX LamX NdefX
section
variable {prog : Program} {w : World} {A : Around} {E : Value → Shared → Prop} {hp : Heap} {g : Array GenState} {d : Drawn} {t : Nat} {os : OsState}
variable {nm q : Str} {C N : Addr} {bs bm : List Value} {hdct : Bool} {sn : List Str} {sub : List Value} {ab : Bool} {col : Option Bool} {dd : Option Addr} {k0 k1 k2 k3 k5 : Option Value}
/-- the bound ValueError.__init__ is called -/
theorem call_mw {u e t0 : Addr} {rest : List Value} {Q : Value → Shared → Prop} (hC : hp.get? C = some (excClassObj nm q C N bs bm hdct sn sub ab col dd k0 k1 k2 k3 k5 "ValueError.__new__")) (he : hp.get? e = some (PySem.HandSPX.excO C t0))
    (hu : hp.get? u = some (PySem.W.kxs_mw "ValueError.__init__" e)) (hrest : rest.length ≤ sizeLine)
    (hq : ∀ h' t1, (∀ b o, b ≠ e → hp.get? b = some o → h'.get? b = some o) → h'.get? e = some (PySem.HandSPX.excO C t1) → Q .none ⟨h', g, d, t, os⟩) :
    wpAny (model prog w) A (call (.ref u) rest) Q E ⟨hp, g, d, t, os⟩ := by
  refine wpAny_call (codeAny_of_tree ?_)
  show wpAny _ A.in1 (callAny (.ref u) ⟨rest, []⟩) _ _ _
  simp only [callAny]
  refine wpAny_bind (wpAny_load hu ?_)
  simp only [PySem.W.kxs_mw, show (Value.type "method-wrapper" == Value.type "method" || Value.type "method-wrapper" == Value.type "builtin_function_or_method" || Value.type "method-wrapper" == Value.type "method-wrapper") = true by decide, if_true]
  refine PySem.W.KFB.if_so (by decide) ?_
  refine wpAny_bind (PySem.ESX.check_bound PySem.F.excBase_ValueError hC he rfl ?_)
  refine wpAny_bind (wpAny_pure (wpAny_pure ?_))
  refine ⟨Code.quiet_builtin _ (by decide +kernel), codeAny_builtin PySem.F.excBase_ValueError.initEntry ?_⟩
  rw [Around.under_plainId PySem.F.excBase_ValueError.init.plain _]
  wp_walk
  refine hq _ hp.objs.size (fun b o hb ho => ?_) ?_
  · rw [Heap.get?_update_other _ _ (Ne.symm hb)]
    exact Heap.get?_push_of_some _ ho
  · rw [Heap.get?_update_self _ (Heap.get?_push_of_some _ he) rfl]
    rfl
end
/-- the __init__ of the own exception C that begins with super().__init__(text) -/
structure SupA (K : PySem.W.Frag) (x qual : Str) (st : Stmt) (f C cc cda : Addr) (fd : FuncData) (file : Str) : Prop where
  ex : ∃ (oc : Value) (od : Option Addr) (kV doc pm : Value) (an : Option Addr) (ct : Value) (osl : Array (Option Value)),
    fd = PySem.W.fnX x qual (defArgs st) (defBody st) (defScope st) [("__class__", cc)] .none kV doc pm an (.ref cda) ct ∧ K.lookup f = some ⟨oc, od, .func fd, osl⟩
  code : PySem.W.codeIn K (.ref cda) qual = true
  file : ∃ (ccl : Value) (cdd : Option Addr) (vs : Array Value) (ccs : Array (Option Value)) (tf : Tok), K.lookup cda = some ⟨ccl, cdd, .fields vs, ccs⟩ ∧ vs[2]? = some (.str file tf)
  cell : ∃ (cl : Value) (cld : Option Addr) (csl : Array (Option Value)), K.lookup cc = some ⟨cl, cld, .cell (some (.ref C)), csl⟩
  sub : PySem.W.mroIn K C (.ref C) = some true
  ve : PySem.W.subIn K (.ref C) (.type "ValueError") = some true
  sup : PySem.W.ks_superIn K C C "__init__" = some (some (.builtin "ValueError.__init__"))
  opq : PySem.W.nsIn K cStatics "thirdparty.any" = some none
/-- what the program's text says of itself -/
structure PF (P : Program) (file : Str) : Prop where
  file : ((P.main.file : Str) == file) = true
  top : (P.main.scope.names.lookup ("super" : Str)).isSome = false
section
variable {CX : CXT} {P : Program} {w : World} {K : PySem.W.Frag} {mg : Str → Option Value} {base : Heap} {N ps : List Str} {x qual : Str} {st : Stmt} {f C cc cda : Addr} {fd : FuncData} {file : Str} {k : Nat} {sp : Sp}
/-- the def as NF -/
abbrev supF (x qual : Str) (st : Stmt) (cc cda : Addr) : NF := ⟨x, qual, defArgs st, defBody st, defScope st, [("__class__", cc)], cda⟩
theorem ok_sup {j : Nat} {p5 : Pos} {rest : List Stmt} {ar : Arg} {p0 p1 p2 p3 p4 : Pos} {z : Str} (S : SupA K x qual st f C cc cda fd file) (pf : PF P file) (T : OexC K C) (Sc : NScope N ps ["__class__"] (defScope st)) (hm : mg "super" = none)
    (hks : (defScope st).names.lookup ("super" : Str) = some .globalImplicit) (hp : ((defArgs st).posonlyargs ++ (defArgs st).args).head? = some ar) (hps : ps.head? = some ar.arg)
    (hst : defBody st = .Expr (.Call (.Attribute (.Call (.Name "super" p0) [] [] p1) "__init__" p2) [.Constant (.str z) j p5] [] p3) p4 :: rest)
    (hev : ∀ L : Addr, ∃ pl : Sem Bool, eval (.Call (.Attribute (.Call (.Name "super" p0) [] [] p1) "__init__" p2) [.Constant (.str z) j p5] [] p3) (envF (supF x qual st cc cda) f L) = (do
      let ov ← attributeBase (.Call (.Name "super" p0) [] [] p1) "__init__" (envF (supF x qual st cc cda) f L) (eval (.Call (.Name "super" p0) [] [] p1) (envF (supF x qual st cc cda) f L))
      standAt p2.atName
      let (g, first) ← holding [ov] (getMethod ov "__init__" pl)
      callWith p3 g first (backTo p3 (starEach [.Constant (.str z) j p5] (envF (supF x qual st cc cda) f L))) []))
    (len : ∀ vs H Q E, sp vs H Q E → vs.length = ps.length)
    (hbody : ∀ (A : Around) (outer : List Env) (s : Shared) (H : Hp) (vs : List V) (Q : VK) (E : XK), Room k (A.deeper (envF (supF x qual st cc cda) f s.heap.objs.size)) → sp vs H Q E →
      ∃ (a : Addr) (ws : List V), vs = .ref a :: ws ∧ H a = some (exo a C none) ∧ ∃ t, PSs (ncx CX P w K mg base N (supF x qual st cc cda) f A outer s H E) rest t ∧ t { nx := fun _ H' => Q .non H', rt := Q } (startF N vs [none]) H) :
    FnOk P w K mg base CX (k + 1) f fd ps sp := by
  obtain ⟨oc, od, kV, doc, pm, an, ct, osl, efd, lk⟩ := S.ex
  obtain ⟨ccl, cdd, vsc, ccs, tf, lc, hvs⟩ := S.file
  have hfile := pf.file
  obtain ⟨cl, cld, csl, lcell⟩ := S.cell
  refine ⟨len, fun A outer s H args us vs Q E hr e0 hb r hsp => ?_⟩
  have KX : K.In s.heap := e0.mod.kin.keeps fun b o e => (e0.bs b o e).1
  have lim : s.heap.NoLimit := e0.mod.nolimit.keeps fun b o e => (e0.bs b o e).1
  have hl := len _ _ _ _ hsp
  refine ks_codeAny_call_defAt (fd := fd) (body := defBody st) (binds := ps.zip us) hr.depth (KX _ _ lk) rfl lim (by rw [efd]; exact PySem.W.codeRec_of KX S.code) (by rw [efd] <;> rfl) hb (by rw [efd]; exact Sc.nocell)
    (by rw [efd]; exact fun ⟨n, _⟩ hy => Sc.par n (List.of_mem_zip hy).1) (fun h₁ hns kp => ?_) (by rw [efd]; exact Sc.co) (by rw [efd]; exact Sc.gen) (by rw [efd]; exact Sc.kind)
  obtain ⟨a, ws, ev, ha, tt, ht, hq⟩ := hbody A outer s H vs Q E (hr.deeper _) hsp
  have cells : CellsAt (supF x qual st cc cda).cl ["__class__"] [none] s.heap H := by
    obtain ⟨c1, c2⟩ := e0.bs cc _ (e0.mod.kin _ _ lcell)
    have at_ : s.heap.IsCell cc (some (.ref C)) := ⟨_, c1, rfl⟩
    have only : ∀ y c, List.lookup y [(("__class__" : Str), cc)] = some c → y = ("__class__" : Str) ∧ c = cc := fun y c h => by
      by_cases hy : y = ("__class__" : Str)
      · subst hy
        simp at h
        exact ⟨rfl, h.symm⟩
      · have : (y == ("__class__" : Str)) = false := by simpa using hy
        simp [List.lookup, this] at h
    refine ⟨rfl, fun y c h => ?_, fun x y c h1 h2 => (only x c h1).1.trans (only y c h2).1.symm, fun i y h => ?_⟩
    · obtain ⟨_, rfl⟩ := only y c h
      exact ⟨c2, _, at_⟩
    · have : y = ("__class__" : Str) := by
        cases i with
        | zero => simpa using h.symm
        | succ i => simp at h
      subst this
      refine ⟨cc, by simp, fun v hv => ?_⟩
      cases i <;> simp at hv
  have I : Inv (ncx CX P w K mg base N (supF x qual st cc cda) f A outer s H E) [] (startF N vs [none]) H { s with heap := h₁, toks := s.toks + (ps.zip us).length } := inv_startN Sc hr.hd e0 hl r cells hns kp
  rw [efd]
  have hint : interactive (envF (supF x qual st cc cda) f s.heap.objs.size) = false := by
    unfold interactive
    simp [Sc.kind]
  show PySem.wpAt (model P w) (A.deeper (envF (supF x qual st cc cda) f s.heap.objs.size)) (.func (defBody st) (envF (supF x qual st cc cda) f s.heap.objs.size)) (execs (defBody st) (envF (supF x qual st cc cda) f s.heap.objs.size)) _ _ _
  rw [hst]
  refine ks_wpAt_execs_cons ?_
  refine ks_wpAt_Expr_any ?_ hint
  obtain ⟨pl, hpl0⟩ := hev s.heap.objs.size
  refine ks_wpAt_MethodCall ?_ hpl0
  have hpl : ps.length = us.length := by rw [← hl, Vals.length r]
  have ndP : ps.Nodup := by
    have q := (Sc.nd.sublist (List.take_sublist (ps.length + 1) N))
    have e : N.take (ps.length + 1) = ps ++ [("__class__" : Str)] := Sc.pre
    rw [e] at q
    exact q.sublist (List.sublist_append_left _ _)
  have nF : fd.params = defArgs st := by rw [efd]
  have hself : (ps.zip us).reverse.lookup ar.arg = some (Value.ref a) := by
    subst ev
    cases r with
    | cons r1 rr =>
      cases r1
      refine zip_look (i := 0) ndP ?_ rfl
      rw [← List.head?_eq_getElem?]
      exact hps
  obtain ⟨mb, bl1, bl2⟩ := I.mod.blt
  have hC : ∃ cd, PySem.W.clsIn K C = some cd ∧ PySem.W.alongIn K "__init__" ((cd.mro.dropWhile (· != .ref C)).drop 1) = some (some (.builtin "ValueError.__init__")) := by
    have q := S.sup
    unfold PySem.W.ks_superIn at q
    cases hc : PySem.W.clsIn K C with
    | none => rw [hc] at q; cases q
    | some cd => rw [hc] at q; exact ⟨cd, rfl, q⟩
  obtain ⟨cd, hcd, hal⟩ := hC
  obtain ⟨t1, hx⟩ := exo_at I.hok ha
  have X1 : K.In h₁ := KX.keeps kp
  obtain ⟨oC, oC1, oC2⟩ : ∃ oC, K.lookup C = some oC ∧ oC.data = .cls cd := by
    unfold PySem.W.clsIn at hcd
    split at hcd
    · rename_i c d cd' sl ho
      cases hcd
      exact ⟨_, ho, rfl⟩
    · cases hcd
  refine ks_wpAt_super_base (env := envF (supF x qual st cc cda) f s.heap.objs.size) hks (Sc.frk _ (by simp)) rfl rfl (kp _ _ (KX _ _ lk)) rfl (by rw [nF]; exact hp) rfl (kp _ _ (KX _ _ lc)) rfl hvs hfile pf.top ?_
  refine PySem.W.ks_loadName_global Sc.kind hks (Calls.loadGlobal_builtin (I.mod.glob.keeps I.bk) hm (bl1.keeps I.bk) ((bl2 "super" (by decide)).trans PyProof.Rows.Boot.«super») ⟨rfl, ?_⟩)
  refine wpAny_loadName_free Sc.kind (Sc.frk _ (by simp)) rfl ⟨_, kp _ _ (KX _ _ lcell), rfl⟩ ?_
  refine wpAny_loadName_local Sc.kind (Sc.par _ (List.mem_of_head? hps)) hns hself ?_
  refine ks_wpAny_isType_cls (kp _ _ (KX _ _ oC1)) oC2 ⟨rfl, ?_⟩
  refine ks_wpAny_call_super (kp _ _ (KX _ _ oC1)) oC2 hx rfl (fun c z => by cases z) (PySem.W.looks_mroIn X1 S.sub) fun h2 hso k2 => ?_
  have I2 := I.kept (h' := h2) (t' := s.toks + (ps.zip us).length) k2
  have X2 : K.In h2 := X1.keeps k2
  have inst : PySem.W.InstAt h2 a { cls := .ref C, dict := Option.none, data := .fields #[.ref t1, .none, .none, .none, .bool false, .none] } C Option.none := ⟨k2 _ _ hx, rfl, rfl, trivial⟩
  refine PySem.W.kxs_getMethod PySem.W.kxs_ValueError hso (PySem.W.looks_opaque X2 S.opq) (l₀ := cd.mro) (fun A Q E s k q => wpAny_bind ((PySem.W.looks_clsIn X2 hcd) A _ E s k (wpAny_pure q))) rfl X2 hal (inst.type.andThen (PySem.W.looks_subIn X2 S.ve)) (PySem.W.ks_ne X2 inst hcd) (by decide) ?_
  have k3 : ∀ b o, h2.get? b = some o → (h2.push (PySem.W.kxs_mw "ValueError.__init__" a)).get? b = some o := fun b o z => Heap.get?_push_of_some _ z
  have hu : (h2.push (PySem.W.kxs_mw "ValueError.__init__" a)).get? h2.objs.size = some (PySem.W.kxs_mw "ValueError.__init__" a) := Heap.get?_push_at rfl rfl
  generalize h2.push (PySem.W.kxs_mw "ValueError.__init__" a) = h3 at k3 hu ⊢
  have I3 := I2.kept (h' := h3) (t' := s.toks + (ps.zip us).length + 1) k3
  have he : starEach [.Constant (.str z) j p5] (envF (supF x qual st cc cda) f s.heap.objs.size) = (false, eval (.Constant (.str z) j p5) (envF (supF x qual st cc cda) f s.heap.objs.size)) :: starEach [] (envF (supF x qual st cc cda) f s.heap.objs.size) := rfl
  show wpAny _ _ (callWith p3 (Value.ref h2.objs.size) [] (backTo p3 (starEach [.Constant (.str z) j p5] (envF (supF x qual st cc cda) f s.heap.objs.size))) []) _ _ _
  rw [he]
  refine PySem.W.kxs_callWith (x := a) (i := "ValueError.__init__") rfl (Calls.evalArgs_plain (Calls.spliced_cons (Calls.Constant_str (k := j) (pos := p5) (Calls.spliced_nil ⟨hu, ?_⟩))))
  obtain ⟨nm, q, N', bs, bm, sn, sub, ab, col, dd, k0, k1, k2', k3', k5, hCK, hbm⟩ := T.cls
  refine call_mw (k3 _ _ (X2 _ _ hCK)) (k3 _ _ (k2 _ _ hx)) hu (by rw [sizeLine_eq]; show 1 ≤ 16777216; decide) fun h4 t4 k4 hx4 => ?_
  have I4 := I3.write (h' := h4) (t' := s.toks + (ps.zip us).length + 1 + 1) (x := a) (e := a) (o := exo a C Option.none) (by rw [ha]; exact True.intro) (.inl rfl) k4 ⟨_, hx4⟩ (exo_ok hx4)
  have eu : upd H a (exo a C Option.none) = H := by
    funext b
    by_cases hb : b = a
    · rw [hb, upd_same, ha]
    · rw [upd_ne hb]
  rw [eu] at I4
  refine wpAt_of_wpAny (wpAny_mono (ht.run [] _ (startF N vs [Option.none]) H _ I4 hq) (fun fl s' hs => ?_) fun e s' hs => hs)
  have fin : ∀ {σ' : L2.St} {H' : Hp} {v : V} {u : Value}, Inv (ncx CX P w K mg base N (supF x qual st cc cda) f A outer s H E) [] σ' H' s' → RelV v u → Q v H' → CE outer P w H s Q u s' :=
    fun {σ' H' v u} J rv q => ⟨v, H', J.os, J.bare, J.base, J.hok, rv, q⟩
  cases fl with
  | ret u =>
    obtain ⟨v, σ', H', J, rv, q⟩ := hs
    exact fin J rv q
  | next =>
    obtain ⟨σ', H', J, q⟩ := hs
    exact fin (v := V.non) (u := Value.none) J rfl q
  | brk =>
    obtain ⟨_, _, _, q⟩ := hs
    exact False.elim q
  | cont =>
    obtain ⟨_, _, _, q⟩ := hs
    exact False.elim q
end
/-- an own exception with a field, index -/
structure ErrI (K : PySem.W.Frag) (mg : Str → Option Value) (x q : Str) (st : Stmt) where
  C : Addr
  f : Addr
  cc : Addr
  cda : Addr
  fd : FuncData
  file : Str
  mg : mg x = some (.ref C)
  S : SupA K "__init__" q st f C cc cda fd file
  T : OexC K C
  iC : PySem.W.findIn K (.ref C) "__init__" = some (some (.ref f))
  tI : PySem.W.typeIn K (.ref f) = some (.type "function")
  b : Binds K fd ["self", "index"] []
  no : PySem.W.findIn K (.ref C) "index" = some none
  xf : XfC K C
/-- what its __init__ does -/
def sp_ini (C : Addr) : Sp := fun vs H Q _ => ∃ (a : Addr) (v : V), vs = [.ref a, v] ∧ H a = some (exo a C none) ∧ ∀ d, H d = none → d ≠ a → Q .non (upd (upd H d (exd d [("index", v)])) a (exo a C (some d)))
def rErrI (C : Addr) (v : V) (H1 : Hp) (Q : XK) : Prop := 1 ≤ 1000 ∧ ∀ a, H1 a = none → sp_ini C [.ref a, v] (upd H1 a (exo a C none))
  (fun u H2 => u = .non ∧ ∃ (d : Addr) (fs : List (Str × V)), H2 a = some (exo a C (some d)) ∧ H2 d = some (exd d fs) ∧ H1 d = none ∧ Q (.ref C) (some d) (upd (del H2 a) d (.xd fs))) (fun _ _ _ => False)
theorem erri_of {C : Addr} {v : V} {H1 : Hp} {Q : XK} (k : ∀ d H2, Same H1 H2 → H1 d = none → H2 d = some (.xd [("index", v)]) → Q (.ref C) (some d) H2) : rErrI C v H1 Q := by
  refine ⟨by decide, fun a ha => ⟨a, v, rfl, upd_same, fun d hd ne => ⟨rfl, d, [("index", v)], upd_same, ?_, ?_, ?_⟩⟩⟩
  · rw [upd_ne ne, upd_same]
  · rw [upd_ne ne] at hd
    exact hd
  · rw [upd_ne ne] at hd
    refine k d _ (fun b o h => ?_) hd upd_same
    have nb : b ≠ d := ne_of_none h hd
    have na : b ≠ a := ne_of_none h ha
    rw [upd_ne nb, del_ne na, upd_ne na, upd_ne nb, upd_ne na]
    exact h
theorem ps_erri {X : Cx} {W : WX} {CX : CXT} {x : Str} {C fI : Addr} {fd : FuncData} {k : Nat} {e : Expr} {te : TE} {p pos pos' : Pos} (F1 : FnOk X.prog X.w X.K X.mg X.base CX k fI fd ["self", "index"] (sp_ini C)) (T : OexC X.K C) (iC : PySem.W.findIn X.K (.ref C) "__init__" = some (some (.ref fI)))
    (tI : PySem.W.typeIn X.K (.ref fI) = some (.type "function")) (hb : Binds X.K fd ["self", "index"] []) (hm : X.mg x = some (.ref C)) (hc : X.calm = true) (tk : Takes X W) (hr : Room (k + 1) X.A)
    (hx : Passes CX X (fun _ _ _ => False)) (hg : Gl X x) (he : PE X e te) (hdb : (x == ("__debug__" : Str)) = false := by decide) (hs : starEach (e :: []) X.env = (false, eval e X.env) :: starEach [] X.env := by rfl) :
    PS X (.Raise (some (.Call (.Name x p) [e] [] pos)) none pos') (fun _ σ H => te σ H fun v H1 => rErrI C v H1 fun cls d H' => W cls d σ H') := by
  have R := ps_raise (pos := pos') hc tk (pmk_oex (p := p) (pos := pos) (ds := []) (dvs := []) T iC tI F1 hr hb .nil hx hg hm (pa_cons he pa_nil hs) hdb hs)
  exact ⟨fun pins s σ H D I h => R.run pins s σ H D I h⟩
/-- isinstance(e, c), e the exception that the suite holds, with or without a dict of its own -/
def rIsD (K : PySem.W.Frag) (D a : Addr) (d : Option Addr) : List V → Hp → VK → Prop := fun xs H Q => ∃ (c : V) (cv : Value) (b : Bool), xs = [.ref a, c] ∧ (∀ u, RelV c u → u = cv) ∧ PySem.W.kitOne K (.ref D) cv = some b ∧ (∀ dd, d = some dd → ∃ fs, H dd = some (.xd fs)) ∧ Q (.bl b) H
theorem call_isD {X : Cx} {a D : Addr} {d : Option Addr} {oe : Obj} {pn : List (Addr × Obj)} (C : ExcC X.K D) (hz : Zc (.ref D) d oe) (hf : ∃ vs, oe.data = .fields vs) : CallR (X.suite a ((a, oe) :: pn)) (.builtin "isinstance") (rIsD X.K D a d) := by
  intro pins s σ H xs us Q I r h
  obtain ⟨c, cv, b, rfl, hcv, e, hd, q⟩ := h
  cases r with
  | cons rx rr =>
    cases rr with
    | cons rt rr =>
      cases rr
      cases rx
      have ec := hcv _ rt
      subst ec
      obtain ⟨hget, _⟩ := I.pin (a, oe) (List.mem_append.mpr (.inl List.mem_cons_self))
      obtain ⟨vs, hv⟩ := hf
      have hcl : (PySem.W.clsIn X.K D).isSome = true := by
        have z := C.hd
        unfold PySem.W.hasDictIn at z
        cases q : PySem.W.clsIn X.K D with
        | none => rw [q] at z; cases z
        | some cd => rfl
      have J : ∃ od, PySem.W.InstAt s.heap a oe D od := by
        obtain ⟨oc, od, oda, osl⟩ := oe
        obtain ⟨h1, h2⟩ := hz
        dsimp only at h1 h2 hv
        subst h1 h2 hv
        cases od with
        | none => exact ⟨none, hget, rfl, rfl, trivial⟩
        | some dd =>
          obtain ⟨fs, hfs⟩ := hd dd rfl
          have hx : ObjOk X.prog X.w H s.heap dd (.xd fs) := I.hok dd _ hfs
          obtain ⟨mA, hns, hr⟩ := hx
          obtain ⟨od, ho, hl⟩ := lookIn_ns hns
          exact ⟨some od, hget, rfl, rfl, ho⟩
      obtain ⟨od, J⟩ := J
      exact PySem.W.kia_one (PySem.W.kitx_exc hcl C.hg C.hk C.hs C.ha C.hn C.ht C.hm) I.kIn J e (fun z => nomatch z) fun tk => ⟨.bl b, H, I.kept (t' := tk) fun _ _ z => z, rfl, q⟩
end My
/-! Lambdas with one default of 0; what may be called without arguments, told of its call alone. -/
namespace My
open PySem PySem.Spec PyProof.Rows L2 StX ClX LamX NdefX
/-- the object at f is a lambda whose defaults stand at T -/
def LamP (f : Addr) (F : NF) (e : Expr) (T : Addr) : HO := .ext fun h => ∃ doc pm ctv : Value, h.get? f = some (PySem.W.kdv_obj F.name F.qual F.params (.expr e) F.scope F.cl (.ref T) doc pm F.c ctv)
theorem lamP_ne {f : Addr} {F : NF} {e : Expr} {T : Addr} (ps : Array Value) : LamP f F e T ≠ .tbl ps := fun z => by
  unfold LamP at z
  cases z
theorem lamP_at {P : Program} {w : World} {H : Hp} {h : Heap} {f : Addr} {F : NF} {e : Expr} {T : Addr} (hok : HOk P w H h) (z : H f = some (LamP f F e T)) : ∃ doc pm ctv : Value, h.get? f = some (PySem.W.kdv_obj F.name F.qual F.params (.expr e) F.scope F.cl (.ref T) doc pm F.c ctv) := (hok f _ z).1
section
variable {X : Cx} {pins : List (Addr × Obj)} {σ : L2.St} {H : Hp} {s : Shared}
theorem inv_lamP {F : NF} {e : Expr} {T : Addr} {h' : Heap} {tk : Nat} {doc pm ctv : Value} (I : Inv X pins σ H { s with heap := h', toks := tk }) :
    Inv X pins σ (upd H h'.objs.size (LamP h'.objs.size F e T)) { s with heap := h'.push (PySem.W.kdv_obj F.name F.qual F.params (.expr e) F.scope F.cl (.ref T) doc pm F.c ctv), toks := tk } := by
  have at_ : (h'.push (PySem.W.kdv_obj F.name F.qual F.params (.expr e) F.scope F.cl (.ref T) doc pm F.c ctv)).get? h'.objs.size = some (PySem.W.kdv_obj F.name F.qual F.params (.expr e) F.scope F.cl (.ref T) doc pm F.c ctv) := Heap.get?_push_size _ rfl
  exact I.laid (a := h'.objs.size) (t' := tk) (fun b u z => Heap.get?_push_of_some _ z) (Nat.le_refl _) ⟨⟨doc, pm, ctv, at_⟩, ⟨_, at_⟩, fun h1 h2 ⟨d, p, t, z⟩ st => ⟨d, p, t, st _ z⟩⟩
theorem lamP_mk {T : List (Addr × Str)} {c P : Addr} {params : Arguments} {body : Expr} {scope : Scope} {pos p0 : Pos} {j : Nat} {E : Value → Shared → Prop} {Q : Value → Shared → Prop} (I : Inv X pins σ H s) (TB : TabB X.base X.mg c P) (hcode : X.env.code = .ref c)
    (hm : (P, X.env.qual ++ "<lambda>") ∈ T) (hu : ∀ p ∈ T, p.1 = P → p.2 = X.env.qual ++ "<lambda>") (hT : Tabs T H) (hdef : params.defaults = [.Constant (.int 0) j p0]) (hkw : params.kw_defaults = []) (hfree : ∀ y ∈ scope.names, y.2 = .free → ∃ c, X.env.cells.lookup y.1 = some c)
    (k : ∀ (f c' T0 : Addr) (H1 : Hp) (s' : Shared), Inv X pins σ H1 s' → ExtN H H1 → Tabs T H1 → H f = Option.none →
      H1 f = some (LamP f ⟨"<lambda>", X.env.qual ++ "<lambda>", params, [], scope, cloFrom X.env.cells scope.names [], c'⟩ body T0) → H1 T0 = some (.tup [.int 0]) → H1 c' = some (CodeO c' (X.env.qual ++ "<lambda>")) → Q (.ref f) s') :
    wpAny (model X.prog X.w) X.A (eval (.Lambda params body scope pos) X.env) Q E s := by
  refine PySem.W.kdv_lam (by rw [hdef]; rfl) hkw ?_
  rw [hdef]
  refine PySem.W.kdv_all1 (wpAny_Constant_int (PySem.W.kdv_all0 ?_))
  rw [makeFunction_eq]
  simp only [List.zip_nil_right, List.filterMap_nil, List.isEmpty_nil, List.isEmpty_cons, if_true, pure_bind, Bool.false_eq_true, if_false]
  refine wpAny_bind (wpAny_newTextTuple ?_)
  have hfr0 : H s.heap.objs.size = Option.none := I.hok.fresh (Nat.le_refl _)
  have I0 : Inv X pins σ (upd H s.heap.objs.size (.tup [.int 0])) { s with heap := s.heap.push { cls := .type "tuple", data := .seq [Value.int 0 s.toks].toArray }, toks := s.toks + 1 } :=
    I.laid (t' := s.toks + 1) (fun b u z => Heap.get?_push_of_some _ z) (Nat.le_refl _) ⟨by decide, [Value.int 0 s.toks], .cons ⟨_, rfl⟩ .nil, ⟨_, Heap.get?_push_size _ rfl, rfl, _, rfl⟩⟩
  have up0 : Same H (upd H s.heap.objs.size (.tup [.int 0])) := same_new hfr0
  have hT0 := hT.ext up0
  have atT : (upd H s.heap.objs.size (.tup [.int 0])) s.heap.objs.size = some (.tup [.int 0]) := upd_same
  generalize upd H s.heap.objs.size (.tup [.int 0]) = H0 at I0 up0 hT0 atT
  generalize s.heap.objs.size = T0 at atT ⊢
  show wpAny _ _ (makeTail "<lambda>" (X.env.qual ++ "<lambda>") params (.expr body) scope X.env (.ref T0) .none none pos pos.line) _ _ { s with heap := s.heap.push { cls := .type "tuple", data := .seq [Value.int 0 s.toks].toArray }, toks := s.toks + 1 }
  generalize ({ s with heap := s.heap.push { cls := .type "tuple", data := .seq [Value.int 0 s.toks].toArray }, toks := s.toks + 1 } : Shared) = s0 at I0
  obtain ⟨tab, hP, triples, among⟩ := hT0 _ hm
  have hPh : s0.heap.get? P = some { cls := .none, data := .fields tab } := I0.hok P _ hP
  have blt : s0.heap.BuiltinsAt X.mg P := TB.bm.keeps I0.bk
  have glo := I0.mod.glob.keeps I0.bk
  have cod := TB.code.keeps I0.bk
  have last : ∀ (c' : Addr) (H1 : Hp) (h' : Heap) (tk : Nat) (doc pm ctv : Value), Inv X pins σ H1 { s0 with heap := h', toks := tk } → ExtN H0 H1 → (∀ b, H1 b = Option.none → H0 b = Option.none) → Tabs T H1 → H1 c' = some (CodeO c' (X.env.qual ++ "<lambda>")) →
      Q (.ref h'.objs.size) { s0 with heap := h'.push (PySem.W.kdv_obj "<lambda>" (X.env.qual ++ "<lambda>") params (.expr body) scope (cloFrom X.env.cells scope.names []) (.ref T0) doc pm c' ctv), toks := tk } := by
    intro c' H1 h' tk doc pm ctv J ext back tabs hc'
    have fresh : H1 h'.objs.size = Option.none := J.hok.fresh (Nat.le_refl _)
    have J2 := inv_lamP (F := ⟨"<lambda>", X.env.qual ++ "<lambda>", params, [], scope, cloFrom X.env.cells scope.names [], c'⟩) (e := body) (T := T0) (doc := doc) (pm := pm) (ctv := ctv) J
    have up : ∀ b o, H1 b = some o → upd H1 h'.objs.size (LamP h'.objs.size ⟨"<lambda>", X.env.qual ++ "<lambda>", params, [], scope, cloFrom X.env.cells scope.names [], c'⟩ body T0) b = some o := fun b o z => by
      rw [upd_ne (ne_of_none z fresh)]
      exact z
    refine k h'.objs.size c' T0 _ _ J2 (fun b o z n => up b o (ext b o (up0 _ _ z) n)) (tabs.ext up) ?_ upd_same (up _ _ (ext _ _ atT (fun ps z => by cases z))) (up _ _ hc')
    cases q : H h'.objs.size with
    | none => rfl
    | some o =>
      have := back _ fresh
      rw [up0 _ _ q] at this
      cases this
  cases hc : codeAmong pos tab.toList with
  | some cv =>
    obtain ⟨c', rfl, hco⟩ := among pos cv hc
    exact PySem.W.kdv_makeTailHit (mg := X.mg) (c := c) (P := P) (ps := tab) (closure_ok hfree) I0.ok.glob glo hcode cod hPh triples hc blt fun ctv doc h' tk old _ => last c' H0 h' tk doc _ ctv (I0.kept old) (ExtN.refl H0) (fun _ z => z) hT0 hco
  | none =>
    refine PySem.W.kdv_makeTail (mg := X.mg) (c := c) (P := P) (ps := tab) (closure_ok hfree) I0.ok.glob glo hcode cod hPh triples hc TB.gP blt fun c' ctv doc h' tk old big below hrec written => ?_
    obtain ⟨c2, oc, vs, t, e2, hoc, hd, hv⟩ := hrec
    cases e2
    have freshC : H0 c' = Option.none := I0.hok.fresh big
    have J := inv_table (t' := tk) (more := #[rawInt pos.line, rawInt pos.col, .ref c']) (h' := h') I0 hP (fun b o n z => old b o n z) written big ⟨oc, vs, t, hoc, hd, hv⟩
    have ext : ExtN H0 (upd (upd H0 P (.tbl (tab ++ #[rawInt pos.line, rawInt pos.col, .ref c']))) c' (CodeO c' (X.env.qual ++ "<lambda>"))) := fun b o z n => by
      have nP : b ≠ P := fun y => n tab (Option.some.inj (z.symm.trans (by rw [y]; exact hP)))
      rw [upd_ne (ne_of_none z freshC), upd_ne nP]
      exact z
    have back : ∀ b, (upd (upd H0 P (.tbl (tab ++ #[rawInt pos.line, rawInt pos.col, .ref c']))) c' (CodeO c' (X.env.qual ++ "<lambda>"))) b = Option.none → H0 b = Option.none := fun b z => upd_none (upd_none z)
    have lst : (tab ++ #[rawInt pos.line, rawInt pos.col, .ref c']).toList = tab.toList ++ [rawInt pos.line, rawInt pos.col, .ref c'] := by simp
    refine last c' _ h' tk doc _ ctv J ext back (fun p hp => ?_) upd_same
    by_cases here : p.1 = P
    · rw [hu p hp here, here]
      refine ⟨_, by rw [upd_ne (ne_of_none hP freshC), upd_same], by rw [lst]; exact PySem.TriplesOk_snoc _ _ _ _ triples, fun p' cv hcv => ?_⟩
      rw [lst] at hcv
      rcases among_app _ triples hcv with z | z
      · obtain ⟨c0, y1, y2⟩ := among p' cv z
        exact ⟨c0, y1, ext _ _ y2 codeO_ne⟩
      · exact ⟨c', z, upd_same⟩
    · obtain ⟨tab2, a1, a2, a3⟩ := hT0 p hp
      refine ⟨tab2, by rw [upd_ne (ne_of_none a1 freshC), upd_ne here]; exact a1, a2, fun p' cv hcv => ?_⟩
      obtain ⟨c0, y1, y2⟩ := a3 p' cv hcv
      exact ⟨c0, y1, ext _ _ y2 codeO_ne⟩
/-- lambda x=0: e, as a value -/
def tLamD (T : List (Addr × Str)) (mk : Addr → NF) (e : Expr) : TE := fun σ H Q => Tabs T H ∧ ∀ (f c' T0 : Addr) (H1 : Hp), ExtN H H1 → Tabs T H1 → H f = Option.none → H1 f = some (LamP f (mk c') e T0) → H1 T0 = some (.tup [.int 0]) → H1 c' = some (CodeO c' (mk c').qual) → Q (.ref f) H1
theorem pe_lamD {T : List (Addr × Str)} {c P : Addr} {params : Arguments} {body : Expr} {scope : Scope} {pos p0 : Pos} {j : Nat} (TB : TabB X.base X.mg c P) (hcode : X.env.code = .ref c) (hm : (P, X.env.qual ++ "<lambda>") ∈ T) (hu : ∀ p ∈ T, p.1 = P → p.2 = X.env.qual ++ "<lambda>")
    (hdef : params.defaults = [.Constant (.int 0) j p0]) (hkw : params.kw_defaults = []) (hfree : ∀ y ∈ scope.names, y.2 = .free → X.env.scope.names.lookup y.1 = some .cell ∨ X.env.scope.names.lookup y.1 = some .free) :
    PE X (.Lambda params body scope pos) (tLamD T (fun c' => ⟨"<lambda>", X.env.qual ++ "<lambda>", params, [], scope, cloFrom X.env.cells scope.names [], c'⟩) body) := by
  refine ⟨fun pins s σ H Q I h => ?_⟩
  obtain ⟨hT, h⟩ := h
  exact lamP_mk I TB hcode hm hu hT hdef hkw (fun y hy e => (hfree y hy e).elim (fun z => I.ok.has _ (.inl z)) fun z => I.ok.has _ (.inr z)) fun f c' T0 H1 s' J ext tabs fn at_ t0 co => ⟨.ref f, H1, J, rfl, h f c' T0 H1 ext tabs fn at_ t0 co⟩
end
/-- what may be called without arguments: Al, how it is known; its cells; sp, what the call does -/
structure CallA (P : Program) (w : World) (K : PySem.W.Frag) (mg : Str → Option Value) (base : Heap) (k : Nat) (f : Addr) (Al : Hp → Prop) (cl : List (Str × Addr)) (fr : List Str) (ws : List (Option V)) (sp : Hp → VK → XK → Prop) : Prop where
  fn : ∀ (H : Hp) (h : Heap), HOk P w H h → Al H → PySem.W.FnAt f h
  run : ∀ (A : Around) (outer : List Env) (s : Shared) (H : Hp) (Q : VK) (E : XK), Room k A → Env0 P w K mg base A outer s H → Al H → CellsAt cl fr ws s.heap H → sp H Q E → codeAny (model P w) A (.call (.ref f) ⟨[], []⟩) (CR (L2.CX P w) outer P w H s Q E) s
section
variable {P : Program} {w : World} {K : PySem.W.Frag} {mg : Str → Option Value} {base : Heap} {N fr : List Str} {F : NF} {e : Expr} {f : Addr} {k : Nat} {sp : SpL} {x : Str}
/-- how a lambda is known -/
def AlL (f : Addr) (F : NF) (e : Expr) : Hp → Prop := fun H => H f = some (LamO f F e) ∧ H F.c = some (CodeO F.c F.qual)
def AlD (f : Addr) (F : NF) (e : Expr) (T0 : Addr) : Hp → Prop := fun H => H f = some (LamP f F e T0) ∧ H T0 = some (.tup [.int 0]) ∧ H F.c = some (CodeO F.c F.qual)
theorem callA_lam (L : LOk P w K mg base (L2.CX P w) k f F e fr sp) (ws : List (Option V)) : CallA P w K mg base k f (AlL f F e) F.cl fr ws (sp ws) :=
  ⟨fun H h hok al => by
    obtain ⟨pm, ctv, ho⟩ := lamO_at hok al.1
    exact ⟨_, _, _, _, ho⟩, fun A outer s H Q E hr e0 al C q => L.run A outer s H ws Q E hr e0 al.1 al.2 C q⟩
theorem callA_dfl {T0 : Addr} (S : NScope N [x] fr F.scope) (hb : ∀ doc pm ctv : Value, ∃ kk : Option (Array Value) → Sem (List (Str × Value)), bindArgs (PySem.W.kdv_fn F.name F.qual F.params (.expr e) F.scope F.cl (.ref T0) doc pm (.ref F.c) ctv) ⟨[], []⟩ = (seqItems? (.ref T0) >>= kk) ∧ ∀ v, kk (some #[v]) = pure [(x, v)])
    (hbody : ∀ (A : Around) (outer : List Env) (s : Shared) (H : Hp) (ws : List (Option V)) (Q : VK) (E : XK), Room k (A.deeper (envF F f s.heap.objs.size)) → ws.length = fr.length → sp ws H Q E → ∃ t, PE (ncx (L2.CX P w) P w K mg base N F f A outer s H E) e t ∧ t (startF N [.int 0] ws) H Q) (ws : List (Option V)) :
    CallA P w K mg base (k + 1) f (AlD f F e T0) F.cl fr ws (sp ws) := by
  refine ⟨fun H h hok al => ?_, fun A outer s H Q E hr e0 al C hsp => ?_⟩
  · obtain ⟨doc, pm, ctv, ho⟩ := lamP_at hok al.1
    exact ⟨_, _, _, _, ho⟩
  · obtain ⟨hf, ht, hc⟩ := al
    have lim : s.heap.NoLimit := e0.mod.nolimit.keeps fun b o z => (e0.bs b o z).1
    obtain ⟨doc, pm, ctv, ho⟩ := lamP_at e0.hok hf
    obtain ⟨_, us, rv, o, hto, htc, n, htd⟩ := (show ObjOk P w H s.heap T0 (.tup [.int 0]) from e0.hok T0 _ ht)
    cases rv with
    | cons r1 rr =>
    cases rr
    rename_i u
    obtain ⟨kk, hb1, hb2⟩ := hb doc pm ctv
    have bt : BindsTo s (PySem.W.kdv_fn F.name F.qual F.params (.expr e) F.scope F.cl (.ref T0) doc pm (.ref F.c) ctv) ⟨[], []⟩ [(x, u)] := BindsTo.of_defaults rfl hto htd hb1 (hb2 u)
    refine PySem.W.kla_callFunE hr.depth ho rfl S.co S.gen rfl (codeO_at e0.hok hc) (bt _ _ _ _ ?_)
    refine wpAny_newFunctionEnv S.nocell (fun y hy => by rw [List.mem_singleton.mp hy]; exact S.par x (by simp)) (fun h₁ hns hsb => ⟨lim.fresh _ hsb, ?_⟩) S.kind
    show codeAny _ _ (.expr e (envF F f s.heap.objs.size)) _ _
    have old : ∀ b o, s.heap.get? b = some o → h₁.get? b = some o := fun b o z => hsb.extBut b o (Nat.ne_of_lt (Heap.lt_size z)) (Heap.get?_push_of_some _ z)
    obtain ⟨t, ht', hq⟩ := hbody A outer s H ws Q E (hr.deeper _) C.len hsp
    have I : Inv (ncx (L2.CX P w) P w K mg base N F f A outer s H E) [] (startF N [.int 0] ws) H { s with heap := h₁, toks := s.toks + ([(x, u)] : List (Str × Value)).length } := inv_startN (ps := [x]) (us := [u]) (vs := [.int 0]) S hr.hd e0 rfl (.cons r1 .nil) C hns old
    refine PySem.W.kla_codeExpr (wpAny_mono (ht'.run [] _ _ H Q I hq) (fun v s' hs => ?_) fun x s' hs => hs)
    obtain ⟨y, H', J, rv, q⟩ := hs
    exact ⟨y, H', J.os, J.bare, J.base, J.hok, rv, q⟩
end
section
variable {X : Cx}
/-- x(), what it lets out taken at the names' present values -/
def tCallA (i : Nat) (f : Addr) (Al : Hp → Prop) (sp : Hp → VK → XK → Prop) (W : WX) : TE := fun σ H Q => σ[i]? = some (some (.ref f)) ∧ Al H ∧ sp H Q (fun cls d H' => W cls d σ H')
theorem pe_callA {i j k : Nat} {f : Addr} {Al : Hp → Prop} {cl : List (Str × Addr)} {fr : List Str} {ws : List (Option V)} {sp : Hp → VK → XK → Prop} {W : WX} {x : Str} {p pos : Pos} (L : CallA X.prog X.w X.K X.mg X.base k f Al cl fr ws sp) (cells : ∀ (pins : List (Addr × Obj)) (σ : L2.St) (H : Hp) (s : Shared), Inv X pins σ H s → CellsAt cl fr ws s.heap H)
    (hr : Room j X.A) (hk : k ≤ j) (tk : Takes X W) (hN : X.N[i]? = some x) (hv : Vis X.env.scope x) (hd : (x == ("__debug__" : Str)) = false := by decide) (hcd : (x == ("__classdict__" : Str)) = false := by decide) :
    PE X (.Call (.Name x p) [] [] pos) (tCallA i f Al sp W) := by
  refine ⟨fun pins s σ H Q I ⟨hs, al, q⟩ => ?_⟩
  refine wpAny_Call_Name_kw (thn ((pe_var (pos := p) hN hv hd hcd).run pins s σ H (fun v H1 => v = .ref f ∧ H1 = H) I ⟨.ref f, hs, rfl, rfl⟩) fun u s1 ⟨v, H1, I1, r1, ev, eH⟩ => ?_)
  subst ev
  rw [eH] at I1
  obtain rfl : u = Value.ref f := r1
  refine PySem.W.callWith_F0 (first := []) (L.fn _ _ I1.hok al) ?_
  refine wpAny_call (codeAny_mono (L.run X.A X.stack s1 H Q _ (hr.mono hk) I1.env0 al (cells _ _ _ _ I1) q) fun r s' hq => ?_)
  match r, hq with
  | .error y, hq => exact passAt tk σ pins H s1 y s' I1 hq
  | .ok (.ret y), hq => exact I1.after hq
  | .ok .next, hq => exact False.elim hq
  | .ok .brk, hq => exact False.elim hq
  | .ok .cont, hq => exact False.elim hq
end
/-- what a def does that gets something to call -/
def GetsA (P : Program) (w : World) (K : PySem.W.Frag) (mg : Str → Option Value) (base : Heap) (j k : Nat) (g : Addr) (TT : (Hp → VK → XK → Prop) → Hp → VK → Prop) : Prop :=
  ∀ (A : Around) (outer : List Env) (s : Shared) (H : Hp) (f : Addr) (Al : Hp → Prop) (cl : List (Str × Addr)) (fr : List Str) (ws : List (Option V)) (sp : Hp → VK → XK → Prop) (Q : VK), Room j A → Env0 P w K mg base A outer s H → CallA P w K mg base k f Al cl fr ws sp → Al H →
    CellsAt cl fr ws s.heap H → TT sp H Q → codeAny (model P w) A (.call (.ref g) ⟨[.ref f], []⟩) (CR C8.CX0 outer P w H s Q C8.E0) s
section
variable {X : Cx}
def tGetsA (P : Program) (w : World) (K : PySem.W.Frag) (mg : Str → Option Value) (base : Heap) (k : Nat) (good : L2.St → List (Str × Addr) → List Str → List (Option V) → Prop) (TT : (Hp → VK → XK → Prop) → Hp → VK → Prop) (te : TE) : TE := fun σ H Q => te σ H fun v H1 => ∃ (f : Addr) (Al : Hp → Prop) (cl : List (Str × Addr)) (fr : List Str) (ws : List (Option V)) (sp : Hp → VK → XK → Prop),
  v = .ref f ∧ Al H1 ∧ good σ cl fr ws ∧ CallA P w K mg base k f Al cl fr ws sp ∧ TT sp H1 Q
theorem pe_getsA {j k : Nat} {g : Addr} {TT : (Hp → VK → XK → Prop) → Hp → VK → Prop} {good : L2.St → List (Str × Addr) → List Str → List (Option V) → Prop} {x : Str} {a : Expr} {te : TE} {p pos : Pos} (G : GetsA X.prog X.w X.K X.mg X.base j k g TT) (ha : PE X a te)
    (cells : ∀ (pins : List (Addr × Obj)) (σ : L2.St) (H : Hp) (s : Shared) cl fr ws, Inv X pins σ H s → good σ cl fr ws → CellsAt cl fr ws s.heap H) (hr : Room j X.A) (hg : Gl X x) (hm : X.mg x = some (.ref g)) (hk : PySem.W.keepIn X.K (.ref g) = true) (hdb : (x == ("__debug__" : Str)) = false := by decide)
    (he : starEach [a] X.env = (false, eval a X.env) :: starEach [] X.env := by rfl) (hpl : (backTo pos (starEach [] X.env)).any (·.1) = false := by rfl) : PE X (.Call (.Name x p) [a] [] pos) (tGetsA X.prog X.w X.K X.mg X.base k good TT te) := by
  refine ⟨fun pins s σ H Q I h => ?_⟩
  refine wpAny_Call_Name_kw (ld_glob I hg hm ?_ hdb)
  have pa : PA X [a] (tCons te tNil) := pa_cons ha pa_nil he
  refine PySem.W.callWith_K (h₀ := X.base) I.ok.mod.kin hk (thn (pa.run pos pins s σ H (fun vs H1 => ∃ v, vs = [v] ∧ ∃ (f : Addr) (Al : Hp → Prop) (cl : List (Str × Addr)) (fr : List Str) (ws : List (Option V)) (sp : Hp → VK → XK → Prop),
    v = .ref f ∧ Al H1 ∧ good σ cl fr ws ∧ CallA X.prog X.w X.K X.mg X.base k f Al cl fr ws sp ∧ TT sp H1 Q) I ?_) fun us s1 hh => ?_) he hpl
  · unfold tGetsA at h
    simp only [tCons, tNil]
    simpa only [List.cons.injEq, and_true, exists_eq_left'] using h
  obtain ⟨vs, H1, I1, rv, v, rfl, f, Al, cl, fr, ws, sp, ev, al, gd, L, tt⟩ := hh
  refine ⟨I1.kIn, ?_⟩
  subst ev
  cases rv with
  | cons r1 rn =>
  cases rn
  rename_i u
  obtain rfl : u = Value.ref f := r1
  show wpAny _ _ (call (.ref g) [.ref f]) _ _ _
  refine wpAny_call (codeAny_mono (G X.A X.stack s1 H1 f Al cl fr ws sp Q hr I1.env0 L al (cells _ _ _ _ _ _ _ I1 gd) tt) fun r s' hq => ?_)
  match r, hq with
  | .error y, hq => exact (show False from hq).elim
  | .ok (.ret y), hq => exact I1.after hq
  | .ok .next, hq => exact False.elim hq
  | .ok .brk, hq => exact False.elim hq
  | .ok .cont, hq => exact False.elim hq
end
end My
namespace My
open PySem PySem.Spec PyProof.Rows L2 StX ClX
/-! ### a != b, a of an own class with `__eq__` and no `__ne__` -/
section
variable {M : Model} {prog : Program} {w : World} {A : Around} {E : Value → Shared → Prop} {s : Shared} {K : PySem.W.Frag} {x C f : Addr} {ox : Obj} {od : Option Obj} {b : Value}
theorem entry_objNe {Q : Fin → Shared → Prop} (X : K.In s.heap) (I : PySem.W.InstAt s.heap x ox C od) (hs : PySem.W.findIn K (.ref C) "__eq__" = some (some (.ref f))) (hf : PySem.W.isFn K (.ref f) = true) (hu : A.units < cLine)
    (hcall : wpAny (model prog w) A (call (.ref f) [.ref x, b]) (fun v s' => ∃ k, v = .bool k ∧ Q (.done (.ret (.bool (!k)))) s') E s) :
    wpAny (model prog w) A (Builtin.«object.__ne__» ⟨[.ref x, b], []⟩) Q E s := by
  unfold Builtin.«object.__ne__»
  repeat (first
    | with_reducible refine wpAny_cRoomFor hu ?_
    | (refine wpAny_bind (m := callSpecialIfBound? (.ref x) (Str.ofString "__eq__") [b])
        (PySem.W.ifBound_K X I hs hf (wpAny_mono hcall (fun r s' hr => by
          obtain ⟨k, rfl, hq⟩ := hr
          repeat (first | exact hq | exact wpAny_pure hq | exact wpAny_truthy_bool hq | (refine wpAny_bind (m := truthy (.bool _)) (wpAny_truthy_bool ?_)) | wp_step)) fun _ _ e => e)))
    | wp_step)
theorem call_objNe {Q : Value → Shared → Prop} (X : K.In s.heap) (I : PySem.W.InstAt s.heap x ox C od) (hm : PySem.W.mroIn K C (.type "object") = some true) (hs : PySem.W.findIn K (.ref C) "__eq__" = some (some (.ref f))) (hf : PySem.W.isFn K (.ref f) = true) (hu : A.units + 1 < cLine) (ha : argsOk "object.__ne__" ⟨[.ref x, b], []⟩)
    (hcall : wpAny (model prog w) A.in1 (call (.ref f) [.ref x, b]) (fun v s' => ∃ k, v = .bool k ∧ Q (.bool (!k)) s') E s) :
    wpAny (model prog w) A (call (.builtin "object.__ne__") [.ref x, b]) Q E s :=
  wpAny_call (codeAny_call_builtin F.cmp_object.ne.plain F.cmpEntry_ne (PySem.W.check_slot F.cmpKind_ne F.cmpSplit_ne (I.type.andThen (PySem.W.looks_mroIn X hm)) ha (entry_objNe X I hs hf hu hcall)))
theorem ifBound_objNe {args : List Value} {Q : Option Value → Shared → Prop} (X : K.In s.heap) (I : PySem.W.InstAt s.heap x ox C od) (hs : PySem.W.findIn K (.ref C) "__ne__" = some (some (.builtin "object.__ne__")))
    (h : wpAny M A (call (.builtin "object.__ne__") (.ref x :: args)) (fun v => Q (some v)) E s) : wpAny M A (callSpecialIfBound? (.ref x) "__ne__" args) Q E s := by
  simp only [callSpecialIfBound?, bindSpecialIfBound?]
  refine wpAny_holding (wpAny_bind (wpAny_bind (wpAny_bind (I.type.here ((PySem.W.looks_findIn X hs).here ?_)))))
  refine wpAny_bind (wpAny_askSetting (wpAny_ite ?_))
  have fin : wpAny M A (call (.builtin "object.__ne__") ([.ref x] ++ args) >>= fun v => pure (some v)) Q E s := wpAny_bind (wpAny_mono h (fun v s' h' => wpAny_pure h') fun _ _ h' => h')
  split
  · exact wpAny_bind (wpAny_of_eq (F.cmp_object.ne.bind _) (wpAny_pure (by exact fin)))
  · exact wpAny_tryCatch (wpAny_bind (wpAny_of_eq (F.cmp_object.ne.bind _) (wpAny_pure (by exact fin))))
theorem ne_ownK {h₀ : Heap} {L : Addr} {m : Str → Option Value} {tb : Value} {Q : Value → Shared → Prop} (hu : A.units + 1 < cLine) (F0 : Fr h₀ L s.heap m) (X₀ : K.In h₀) (I : PySem.W.InstAt s.heap x ox C od) (hb : PySem.W.Looks (model prog w) s.heap (typeOf b) tb) (hn : PySem.W.notFirst K C tb = true)
    (hne : PySem.W.findIn K (.ref C) "__ne__" = some (some (.builtin "object.__ne__"))) (hm : PySem.W.mroIn K C (.type "object") = some true) (hs : PySem.W.findIn K (.ref C) "__eq__" = some (some (.ref f))) (hf : PySem.W.isFn K (.ref f) = true) (ha : argsOk "object.__ne__" ⟨[.ref x, b], []⟩)
    (h : wpAny (model prog w) A.in1 (call (.ref f) [.ref x, b]) (fun v s' => ∃ k, v = .bool k ∧ Q (.bool (!k)) s') E s) : wpAny (model prog w) A (richCompare .NotEq (.ref x) b) Q E s := by
  have X := X₀.keeps F0.keep
  have one : wpAny (model prog w) A (tryCompare (.ref x) (cmpInfo .NotEq).2.1 b) (fun r s' => ∃ v, r = some v ∧ Q v s') E s := by
    unfold tryCompare
    refine wpAny_bind (ifBound_objNe X I hne (call_objNe X I hm hs hf hu ha (wpAny_mono h (fun v s' hv => ?_) fun _ _ e => e)))
    obtain ⟨k, e, hq⟩ := hv
    exact ⟨k, e, wpAny_pure ⟨_, rfl, hq⟩⟩
  unfold richCompare
  simp only [oneThing_ref]
  refine wpAny_holding (wpAny_bind (wpAny_cRoomFor (Nat.lt_of_succ_lt hu) ?_))
  refine wpAny_bind (I.type.here (wpAny_bind (hb.here ?_)))
  split
  · rename_i q
    have e : PySem.W.subIn K tb (.ref C) = some false := by
      rcases Bool.or_eq_true_iff.mp hn with e | e
      · rw [beq_iff_eq.mp e] at q; simp at q
      · exact beq_iff_eq.mp e
    refine wpAny_bind ((PySem.W.looks_subIn X e).here ?_)
    simp only [Bool.false_eq_true, if_false]
    refine wpAny_bind (wpAny_mono one (fun r s' z => ?_) fun _ _ e => e)
    obtain ⟨v, rfl, hq⟩ := z
    exact wpAny_pure hq
  · refine wpAny_bind (wpAny_pure ?_)
    simp only [Bool.false_eq_true, if_false]
    refine wpAny_bind (wpAny_mono one (fun r s' z => ?_) fun _ _ e => e)
    obtain ⟨v, rfl, hq⟩ := z
    exact wpAny_pure hq
end
section
variable {X : Cx} {CX : CXT} {n : Nat} {g C : Addr} {sp : Sp} {E : XK}
def rNeOwn (C : Addr) (sp : Sp) (E : XK) : R2 := fun x y H Q => ∃ a b dx dy fs gs, x = .ref a ∧ y = .ref b ∧ H a = some (.ins C dx fs) ∧ H b = some (.ins C dy gs) ∧ sp [.ref a, .ref b] H (fun z H' => ∃ k : Bool, z = .bl k ∧ Q (.bl (!k)) H') E
theorem op_neOwn (hne : PySem.W.findIn X.K (.ref C) "__ne__" = some (some (.builtin "object.__ne__"))) (hm : PySem.W.mroIn X.K C (.type "object") = some true) (look : PySem.W.findIn X.K (.ref C) "__eq__" = some (some (.ref g))) (fn : PySem.W.isFn X.K (.ref g) = true) (F : FnR X.prog X.w X.K X.mg X.base CX n g sp) (room : Room (n + 1) X.A) (pass : Passes CX X E) : OpR X (compareOp .NotEq) (rNeOwn C sp E) := by
  intro pins s σ H x y v u Q I rx ry h
  obtain ⟨a, b, dx, dy, fs, gs, rfl, rfl, ha, hb, q⟩ := h
  obtain rfl : v = Value.ref a := rx
  obtain rfl : u = Value.ref b := ry
  obtain ⟨_, O, _⟩ := ins_get I.hok ha
  obtain ⟨_, J, _⟩ := O.look
  obtain ⟨_, O2, _⟩ := ins_get I.hok hb
  obtain ⟨_, J2, _⟩ := O2.look
  obtain ⟨m, fr⟩ := I.fr
  show wpAny _ _ (richCompare .NotEq (.ref a) (.ref b)) _ _ _
  refine ne_ownK (tb := .ref C) (by have := room.un; omega) fr I.mod.kin J J2.type (by simp [PySem.W.notFirst]) hne hm look fn (PySem.F.cmpArgs_ne _ _) ?_
  refine wpAny_mono (wpAny_call (run_low (us := [.ref a, .ref b]) (ws := [.ref a, .ref b]) F room.in1 I.env0.in1 pass I (.cons rfl (.cons rfl .nil)) q)) (fun z s' hz => ?_) fun _ _ x => x
  obtain ⟨z', H', I', rz, k, ek, qz⟩ := hz
  subst ek
  obtain rfl : z = Value.bool k := rz
  exact ⟨k, rfl, .bl (!k), H', I', rfl, qz⟩
/-- an object of the class against a tuple -/
theorem sub_tuple {K : PySem.W.Frag} {C : Addr} : PySem.W.subIn K (.type "tuple") (.ref C) = some false := by
  have e : fastBuiltinMro "tuple" = some [.type "tuple", .type "object"] := by decide +kernel
  show (fastBuiltinMro "tuple").map (·.contains (.ref C)) = some false
  rw [e]
  first
    | rfl
    | simp
theorem kit_nt {K : PySem.W.Frag} {C : Addr} (i : PySem.W.isClsIn K C = true) (y : PySem.W.typeIn K (.ref C) = some (.type "type")) : PySem.W.kitOne K (.type "tuple") (.ref C) = some false := by
  have i : (PySem.W.clsIn K C).isSome = true := i
  have e : ((PySem.W.clsIn K C).isSome && PySem.W.typeIn K (.ref C) == some (.type "type")) = true := by
    rw [i, y]
    rfl
  have c : PySem.W.kitCls K (.type "tuple") (.ref C) = some false := (if_pos e).trans sub_tuple
  exact (if_neg (by simp)).trans c
def rEqT (C : Addr) (sp : Sp) (E : XK) : R2 := fun x y H Q => ∃ a b dx fs xs, x = .ref a ∧ y = .ref b ∧ H a = some (.ins C dx fs) ∧ H b = some (.tup xs) ∧ sp [.ref a, .ref b] H (fun z H' => ∃ k : Bool, z = .bl k ∧ Q z H') E
theorem op_eqT (look : PySem.W.findIn X.K (.ref C) "__eq__" = some (some (.ref g))) (fn : PySem.W.isFn X.K (.ref g) = true) (F : FnR X.prog X.w X.K X.mg X.base CX n g sp) (room : Room n X.A) (pass : Passes CX X E) : OpR X (compareOp .Eq) (rEqT C sp E) := by
  intro pins s σ H x y v u Q I rx ry h
  obtain ⟨a, b, dx, fs, xs, rfl, rfl, ha, hb, q⟩ := h
  obtain rfl : v = Value.ref a := rx
  obtain rfl : u = Value.ref b := ry
  obtain ⟨_, O, _⟩ := ins_get I.hok ha
  obtain ⟨_, J, _⟩ := O.look
  obtain ⟨_, us, rv, o, hto, htc, _⟩ := (show ObjOk X.prog X.w H s.heap b (.tup xs) from I.hok b _ hb)
  have J2 : PySem.W.Looks (model X.prog X.w) s.heap (typeOf (.ref b)) (.type "tuple") := htc ▸ (PySem.W.Looks.ld hto).andThen .now
  obtain ⟨m, fr⟩ := I.fr
  show wpAny _ _ (richCompare .Eq (.ref a) (.ref b)) _ _ _
  refine PySem.W.cmp_K (op := .Eq) (tb := .type "tuple") room.units0 fr I.mod.kin J J2 (by unfold PySem.W.notFirst; rw [sub_tuple]; simp) look fn ?_
  refine wpAny_mono (wpAny_call (run_fnR (us := [.ref a, .ref b]) (vs := [.ref a, .ref b]) F room pass I (.cons rfl (.cons rfl .nil)) q)) (fun z s' hz => ?_) fun _ _ x => x
  obtain ⟨z', H', I', rz, k, ek, qz⟩ := hz
  subst ek
  obtain rfl : z = Value.bool k := rz
  exact ⟨.bl k, H', I', rfl, qz⟩
/-- isinstance(o, C), o of the class or a tuple -/
def rIsC2 (C : Addr) : List V → Hp → VK → Prop := fun xs H Q => ∃ a, xs = [.ref a, .ref C] ∧ ((∃ dx fs, H a = some (.ins C dx fs) ∧ Q (.bl true) H) ∨ ∃ zs, H a = some (.tup zs) ∧ Q (.bl false) H)
theorem call_isC2 (c : C8.InsC X.K C) (nt : PySem.W.kitOne X.K (.type "tuple") (.ref C) = some false) : CallR X (.builtin "isinstance") (rIsC2 C) := by
  intro pins s σ H xs us Q I r h
  obtain ⟨a, rfl, h⟩ := h
  obtain ⟨u, w', rfl, ru, rw'⟩ := vals2 r
  cases rw'
  rcases h with ⟨dx, fs, ha, q⟩ | ⟨zs, ha, q⟩
  · exact isinst_ok I ru (TyOf.ins ha c.cl c.ha c.hn c.htk c.hm) c.me fun tk => ⟨.bl true, H, I.tok _, rfl, q⟩
  · exact isinst_ok I ru (TyOf.tup ha) nt fun tk => ⟨.bl false, H, I.tok _, rfl, q⟩
end
end My
/-! An own class's operator with a number, a bool or None at the right. -/
namespace My
open PySem PySem.Spec PyProof.Rows L2 StX ClX
structure OpQ (K : PySem.W.Frag) (C : Addr) (nm : String) (T : String) : Prop where
  fo : ∃ f, PySem.W.findIn K (.type T) (PySem.dunder nm) = some f
  ro : ∃ f, PySem.W.findIn K (.type T) (PySem.dunderR nm) = some f
  sub : PySem.W.subIn K (.type T) (.ref C) = some false
def rOwnV (C : Addr) (sp : Sp) (E : XK) : R2 := fun x y H Q => ∃ a dx fs, x = V.ref a ∧ ((∃ i, y = V.int i) ∨ (∃ b, y = V.bl b) ∨ y = V.non) ∧ H a = some (.ins C dx fs) ∧ sp [.ref a, y] H Q E
theorem op_ownV {X : Cx} {CX : CXT} {k : Nat} {g C : Addr} {sp : Sp} {E : XK} {op : Operator} (o : OpT X.K C g op.info.2) (ob : OpQ X.K C op.info.2 "bool") (on : OpQ X.K C op.info.2 "NoneType") (F : FnR X.prog X.w X.K X.mg X.base CX k g sp) (room : Room k X.A) (pass : Passes CX X E) : OpR X (binaryOp op) (rOwnV C sp E) := by
  intro pins s σ H x y u v Q I rx ry h
  obtain ⟨a, dx, fs, rfl, ys, ha, go⟩ := h
  obtain rfl : u = Value.ref a := rx
  obtain ⟨_, O1, _⟩ := ins_get I.hok ha
  obtain ⟨_, J1, _⟩ := O1.look
  obtain ⟨m, fr⟩ := I.fr
  have call : wpAny (model X.prog X.w) X.A (PySem.call (.ref g) [.ref a, v]) (PySem.W.CmpBack fun w' s' => EP X pins σ Q w' s') X.xe s := by
    refine wpAny_mono (wpAny_call (run_fnR (vs := [.ref a, y]) (us := [.ref a, v]) F room pass I (.cons rfl (.cons ry .nil)) go)) ?_ (fun _ _ z => z)
    intro w' s' hw
    obtain ⟨z, H', I', rz, q⟩ := hw
    have back : EP X pins σ Q w' s' := ⟨z, H', I', rz, q⟩
    cases z with
    | non => cases (show w' = Value.none from rz); exact back
    | bl _ => cases (show w' = Value.bool _ from rz); exact back
    | int _ => obtain ⟨t, e⟩ := (show ∃ t, w' = Value.int _ t from rz); cases e; exact back
    | str _ => obtain ⟨t, e⟩ := (show ∃ t, w' = Value.str _ t from rz); cases e; exact back
    | byt _ => obtain ⟨t, e⟩ := (show ∃ t, w' = Value.bytes _ t from rz); cases e; exact back
    | flt _ => obtain ⟨t, e⟩ := (show ∃ t, w' = Value.float _ t from rz); cases e; exact back
    | ref _ => cases (show w' = Value.ref _ from rz); exact back
    | ty _ => cases (show w' = Value.type _ from rz); exact back
  rcases ys with ⟨i, rfl⟩ | ⟨b, rfl⟩ | rfl
  · obtain ⟨ti, rfl⟩ := (show ∃ t, v = Value.int i t from ry)
    obtain ⟨fo, h1⟩ := o.fo
    obtain ⟨ro, h2⟩ := o.ro
    exact PySem.W.ksp_binT (T := "int") fr I.mod.kin J1 rfl o.first o.look o.fn o.noR (.inl rfl) h1 h2 o.sub call
  · cases (show v = Value.bool b from ry)
    obtain ⟨fo, h1⟩ := ob.fo
    obtain ⟨ro, h2⟩ := ob.ro
    exact PySem.W.ksp_binT (T := "bool") fr I.mod.kin J1 rfl o.first o.look o.fn o.noR (.inl rfl) h1 h2 ob.sub call
  · cases (show v = Value.none from ry)
    obtain ⟨fo, h1⟩ := on.fo
    obtain ⟨ro, h2⟩ := on.ro
    exact PySem.W.ksp_binT (T := "NoneType") fr I.mod.kin J1 rfl o.first o.look o.fn o.noR (.inl rfl) h1 h2 on.sub call
end My
/-! What a law's `_law_told` wants to know of an exception's class. -/
namespace My
open PySem PySem.Spec PyProof.Rows L2 StX ClX
def toldN : List Str := [Str.ofString "InvalidOperation", Str.ofString "InvalidOrder", Str.ofString "UnknownOrder", Str.ofString "NotHolding", Str.ofString "DecodeError", Str.ofString "NotationError", Str.ofString "UnknownLetter", Str.ofString "InvalidAddress", Str.ofString "InvalidDay", Str.ofString "InvalidNumber", Str.ofString "Contradiction", Str.ofString "InvalidCount"]
structure ToldA (K : PySem.W.Frag) (D CM : Addr) (cs : List Addr) (i : Nat) : Prop where
  ec : ExcC K D
  m : PySem.W.exmOne K (.ref D) (.ref CM) = some true
  v : PySem.W.kitOne K (.ref D) (.type "ValueError") = some true
  k : ∀ (j : Nat) (c : Addr), cs[j]? = some c → PySem.W.kitOne K (.ref D) (.ref c) = some (decide (j = i))
  xf : XfC K D
  n0 : PySem.W.findIn K (.ref D) "index" = some none
  n1 : PySem.W.findIn K (.ref D) "offset" = some none
  n2 : PySem.W.findIn K (.ref D) "row" = some none
  n3 : PySem.W.findIn K (.ref D) "word" = some none
  n4 : PySem.W.findIn K (.ref D) "letter" = some none
theorem told_k {K : PySem.W.Frag} {D c0 c1 c2 c3 c4 c5 c6 c7 c8 c9 c10 c11 : Addr} {i : Nat} (h0 : PySem.W.kitOne K (.ref D) (.ref c0) = some (decide (0 = i))) (h1 : PySem.W.kitOne K (.ref D) (.ref c1) = some (decide (1 = i))) (h2 : PySem.W.kitOne K (.ref D) (.ref c2) = some (decide (2 = i))) (h3 : PySem.W.kitOne K (.ref D) (.ref c3) = some (decide (3 = i))) (h4 : PySem.W.kitOne K (.ref D) (.ref c4) = some (decide (4 = i))) (h5 : PySem.W.kitOne K (.ref D) (.ref c5) = some (decide (5 = i))) (h6 : PySem.W.kitOne K (.ref D) (.ref c6) = some (decide (6 = i))) (h7 : PySem.W.kitOne K (.ref D) (.ref c7) = some (decide (7 = i))) (h8 : PySem.W.kitOne K (.ref D) (.ref c8) = some (decide (8 = i))) (h9 : PySem.W.kitOne K (.ref D) (.ref c9) = some (decide (9 = i))) (h10 : PySem.W.kitOne K (.ref D) (.ref c10) = some (decide (10 = i))) (h11 : PySem.W.kitOne K (.ref D) (.ref c11) = some (decide (11 = i))) : ∀ (j : Nat) (c : Addr), [c0, c1, c2, c3, c4, c5, c6, c7, c8, c9, c10, c11][j]? = some c → PySem.W.kitOne K (.ref D) (.ref c) = some (decide (j = i)) := fun j c h => match j, h with
  | 0, h => by cases h; exact h0
  | 1, h => by cases h; exact h1
  | 2, h => by cases h; exact h2
  | 3, h => by cases h; exact h3
  | 4, h => by cases h; exact h4
  | 5, h => by cases h; exact h5
  | 6, h => by cases h; exact h6
  | 7, h => by cases h; exact h7
  | 8, h => by cases h; exact h8
  | 9, h => by cases h; exact h9
  | 10, h => by cases h; exact h10
  | 11, h => by cases h; exact h11
  | n + 12, h => by cases h
section
variable {X : Cx}
/-- [e for t in i], e read with what is known of the def's own cells when the loop begins -/
def tLcE (wi : TI) (g : TG) (tt : TT) (te : L2.St → TE) (vs : List Nat) : TE := fun σ H Q => tLc wi g tt (te σ) vs σ H Q
theorem lcE_core {pins : List (Addr × Obj)} {s : Shared} {σ : L2.St} {H : Hp} {Q : VK} {elt tg iter : Expr} {ifs : List Expr} {scope : Scope} {own : List (PySem.Str × Nat)} {pos pos' : Pos} {wi : TI} {g : TG} {tt : TT} {te : TE} {use : Option (Value → Sem Unit)} {Qf : Value → Shared → Prop}
    (hc : X.calm = true) (hN : X.N.Nodup) (I : Inv X pins σ H s) (hi : PI X tg iter wi) (ok : BlkOk X.N X.env.scope scope own)
    (hg : ∀ (s : Shared) (H : Hp) (C : Addr) (cl : List (PySem.Str × Addr)) (fp : List Addr), PG (X.blk s H scope (compEnvC scope cl C X.env) fp) tg g)
    (ht : ∀ (s : Shared) (H : Hp) (C : Addr) (cl : List (PySem.Str × Addr)) (fp : List Addr), Inv X pins σ H s → (∀ b ∈ fp, FpOk X pins H b) → PTs (X.blk s H scope (compEnvC scope cl C X.env) fp) ifs tt)
    (he : ∀ (s : Shared) (H : Hp) (C : Addr) (cl : List (PySem.Str × Addr)) (fp : List Addr), Inv X pins σ H s → (∀ b ∈ fp, FpOk X pins H b) → PE (X.blk s H scope (compEnvC scope cl C X.env) fp) elt te) (hs : ∀ x, foldedSetIterable iter X.env x = pure x)
    (h : tLc wi g tt te (own.map (·.2)) σ H Q)
    (back : ∀ D C s' m H', Inv X pins σ H' s' → Q (.ref D) H' → s'.heap.Ns C m → FpOk X pins H' C → compPost (model X.prog X.w) X.A X.xe use Qf (.ref D) C (.ok .next) s') :
    wpAny (model X.prog X.w) X.A (comprehension (.ListComp elt [⟨tg, iter, ifs, 0⟩] scope pos) scope X.env pos' (newList []) false (eval iter X.env) use) Qf X.xe s := by
  refine wpAny_comprehension_free (use := use) rfl hs (closure_ok fun y hy e => (ok.free y hy e).elim (fun k => I.ok.has _ (.inl k)) fun k => I.ok.has _ (.inr k)) ok.kind (fun y hy e => by rw [ok.uniq y hy, e])
    (thn (hi.run pins s σ H _ I h) fun xv s1 hx => thn hx fun itv s2 h2 => ?_)
  obtain ⟨it, fp, tn, J, H2, rfl, I2, T, st2, fp2, q⟩ := h2
  refine wpAny_newObj_type (newEnv_comp ?_) (by show 0 ≤ sizeLine; decide)
  obtain ⟨D, hD⟩ : ∃ D, s2.heap.objs.size = D := ⟨_, rfl⟩
  obtain ⟨s3, hs3⟩ : ∃ s3 : Shared, { s2 with heap := s2.heap.push { cls := .type "list", data := .seq ([] : List Value).toArray } } = s3 := ⟨_, rfl⟩
  obtain ⟨H3, hH3⟩ : ∃ H3, upd H2 D (.lst []) = H3 := ⟨_, rfl⟩
  obtain ⟨W, ⟨m0, w0⟩, turn⟩ := q D (I2.hok.fresh (Nat.le_of_eq hD))
  have old : ∀ b o, s2.heap.get? b = some o → s3.heap.get? b = some o := fun b o e => by rw [← hs3]; exact Heap.get?_push_of_some _ e
  have I3 : Inv X pins σ H3 s3 := by
    rw [← hs3, ← hH3]
    refine I2.laid (t' := s2.toks) (fun b o e => Heap.get?_push_of_some _ e) (Nat.le_of_eq hD) ⟨Nat.zero_le _, [], 0, .nil, ?_⟩
    rw [← hD]
    exact Heap.get?_push_size _ rfl
  have low : ∀ b ∈ fp, b < s2.heap.objs.size := fun b hb => by
    obtain ⟨o, e, _⟩ := T.obj _ _ st2 b hb
    exact Heap.lt_size e
  have fp3 : ∀ b ∈ fp, FpOk X pins H3 b ∧ b < s3.heap.objs.size := fun b hb => by
    have lt := low b hb
    refine ⟨⟨?_, (fp2 b hb).2⟩, by rw [← hs3]; show b < (s2.heap.push _).objs.size; rw [Heap.size_push]; exact Nat.lt_succ_of_lt lt⟩
    rw [← hH3, upd_ne (by rw [← hD]; exact Nat.ne_of_lt lt)]
    exact (fp2 b hb).1
  rw [hs3, hD]
  rw [hH3] at w0
  obtain ⟨cl, hcl⟩ : ∃ cl, cellsFrom (s3.heap.objs.size + 1) scope.names (cloFrom X.env.cells scope.names []) = cl := ⟨_, rfl⟩
  obtain ⟨ce, hce⟩ : ∃ ce, compEnvC scope cl s3.heap.objs.size X.env = ce := ⟨_, rfl⟩
  obtain ⟨s4, hs4⟩ : ∃ s4 : Shared, { s3 with heap := pushCells (s3.heap.push { cls := .type "dict", data := .dict #[] }) scope.names } = s4 := ⟨_, rfl⟩
  have I4 := block_start I3 ok hN fp3
  rw [hcl, hce, hs4] at I4
  have pg := hg s3 H3 s3.heap.objs.size cl fp
  have pt := ht s3 H3 s3.heap.objs.size cl fp I3 fun b hb => (fp3 b hb).1
  have pe := he s3 H3 s3.heap.objs.size cl fp I3 fun b hb => (fp3 b hb).1
  rw [hce] at pg pt pe
  have cL : ce.locals = s3.heap.objs.size := by rw [← hce]; rfl
  have st4 : tn 0 s4.heap := T.keep _ _ _ st2 fun b _ o e => by rw [← hs4]; exact pushCells_keeps _ _ _ _ (Heap.get?_push_of_some _ (old b o e))
  have stay : ∀ {τ : L2.St} {H' : Hp} {s' : Shared}, Inv (X.blk s3 H3 scope ce fp) [] τ H' s' → (∀ b ∈ fp, H' b = none) → ∀ b ∈ fp, FpOk (X.blk s3 H3 scope ce fp) [] H' b := fun {τ H' s'} I' hn b hb =>
    ⟨hn b hb, (I'.ok.exf b hb).1, I'.ok.exfs b hb, .inl hb, fun x c e => (I'.ok.exf b hb).2 x c e, fun p hp => absurd (show p ∈ ([] : List (Addr × Obj)) ++ [] from hp) (by simp)⟩
  show codeAny _ _ (.compStart (.ListComp elt [⟨tg, iter, ifs, 0⟩] scope pos) 0 (.ref it) (.ref D) (compEnvC scope (cellsFrom (s3.heap.objs.size + 1) scope.names (cloFrom X.env.cells scope.names [])) s3.heap.objs.size X.env)) (compPost (model X.prog X.w) X.A X.xe use Qf (.ref D) s3.heap.objs.size) { s3 with heap := pushCells (s3.heap.push { cls := .type "dict", data := .dict #[] }) scope.names }
  rw [hcl, hce, hs4]
  obtain ⟨Out, hOut⟩ : ∃ Out : Nat → Shared → Prop, Out = fun n s' => ∃ i H', Inv (X.blk s3 H3 scope ce fp) [] (wipe σ (own.map (·.2))) H' s' ∧ tn i s'.heap ∧ (∀ b ∈ fp, H' b = none) ∧ W i n H' := ⟨_, rfl⟩
  have loop : codeAny (model X.prog X.w) X.A (.compLoop (.ListComp elt [⟨tg, iter, ifs, 0⟩] scope pos) 0 (.ref it) (.ref D) ce) (compPost (model X.prog X.w) X.A X.xe use Qf (.ref D) s3.heap.objs.size) s4 := by
    refine compLoop_any Out (fun n s5 ho => ?_) m0 (by rw [hOut]; exact ⟨0, H3, I4, st4, fun b hb => (fp3 b hb).1.1, w0⟩)
    rw [hOut] at ho
    obtain ⟨i, H5, I5, st5, n5, w5⟩ := ho
    rcases turn i n H5 w5 with ⟨stop, qq⟩ | ⟨go, Nx, hNx, step⟩
    · refine thnF (T.done (X.blk s3 H3 scope ce fp) rfl rfl rfl hc i [] s5 _ H5 (fun _ _ => False) I5 (stay I5 n5) st5 stop) fun r s6 ⟨hr, I6⟩ => ?_
      subst hr
      have I7 : Inv X pins σ H5 s6 := I3.call' (ch := fp) I6.os I6.base I6.hok I6.bare fun b hb => ⟨(fp3 b hb).1.2.2.2.1, (fp3 b hb).1.2.1, (fp3 b hb).1.2.2.2.2.1, (fp3 b hb).1.2.2.2.2.2⟩
      have nC : H5 ce.locals = none := I6.free
      obtain ⟨m, hn, _⟩ := I6.loc
      have hn : s6.heap.Ns ce.locals m := hn
      rw [cL] at hn nC
      exact back D s3.heap.objs.size s6 m H5 I7 qq hn (I3.fpOk (Nat.le_refl _) nC)
    · refine thnF (T.item (X.blk s3 H3 scope ce fp) rfl rfl rfl hc i [] s5 _ H5 (fun _ _ => False) I5 (stay I5 n5) st5 go) fun r s6 ⟨u, hr, h6⟩ => ?_
      subst hr
      refine thnF h6 fun _ s7 ⟨x, H7, I7, r7, y7, st7, n7⟩ => ?_
      refine thnF (pg.run _ s7 _ H7 x u _ (I7.pinned (stay I7 n7) (T.obj _ _ st7)) r7 (step x H7 y7)) fun _ s8 ⟨σ8, H8, I8, hw8, q8⟩ => ?_
      refine thnF (pt.run _ s8 σ8 H8 _ I8 q8) fun b s9 ⟨H9, I9, q9⟩ => ?_
      have fin : ∀ {s' : Shared} {H' : Hp}, Inv (X.blk s3 H3 scope ce fp) ([] ++ pinsAt fp s7.heap) σ8 H' s' → Nx H' → ∃ m, m < n ∧ Out m s' := fun {s' H'} I' nx => by
        obtain ⟨m', hm, w'⟩ := hNx H' nx
        rw [hOut]
        refine ⟨m', hm, i + 1, H', (I'.unpinned (pins := [])).weak (by rw [← hw8, wipe_length]) (fun j v e => by rw [← hw8] at e; exact (wipe_some e).1), T.keep _ _ _ st7 fun b hb o e => (pins_back I' hb e).1, fun b hb => ?_, w'⟩
        obtain ⟨o, e, _⟩ := T.obj _ _ st7 b hb
        exact (pins_back I' hb e).2
      cases b with
      | false =>
        rw [if_neg (by decide)] at q9
        rw [if_neg (by decide)]
        exact fin I9 q9
      | true =>
        rw [if_pos rfl] at q9
        rw [if_pos rfl]
        exact thnF (pe.run _ s9 σ8 H9 _ I9 q9) fun z s10 ⟨yv, H10, I10, r10, acc, hD10, room, nx⟩ => app_ok (X := X.blk s3 H3 scope ce fp) I10 hD10 room r10 fun s11 I11 => fin I11 nx
  exact codeAny_compStart_list loop (T.self X.A 0 _ _ _ st4 loop)
theorem pe_lcE {elt tg iter : Expr} {ifs : List Expr} {scope : Scope} {own : List (PySem.Str × Nat)} {pos : Pos} {wi : TI} {g : TG} {tt : TT} {te : L2.St → TE} (hc : X.calm = true) (hN : X.N.Nodup) (hi : PI X tg iter wi) (ok : BlkOk X.N X.env.scope scope own)
    (hg : ∀ (s : Shared) (H : Hp) (C : Addr) (cl : List (PySem.Str × Addr)) (fp : List Addr), PG (X.blk s H scope (compEnvC scope cl C X.env) fp) tg g)
    (ht : ∀ (s : Shared) (H : Hp) (C : Addr) (cl : List (PySem.Str × Addr)) (fp : List Addr), PTs (X.blk s H scope (compEnvC scope cl C X.env) fp) ifs tt)
    (he : ∀ (pins : List (Addr × Obj)) (σ : L2.St) (s : Shared) (H : Hp) (C : Addr) (cl : List (PySem.Str × Addr)) (fp : List Addr), Inv X pins σ H s → (∀ b ∈ fp, FpOk X pins H b) → PE (X.blk s H scope (compEnvC scope cl C X.env) fp) elt (te σ)) (hs : ∀ x, foldedSetIterable iter X.env x = pure x := by intro _; rfl) :
    PE X (.ListComp elt [⟨tg, iter, ifs, 0⟩] scope pos) (tLcE wi g tt te (own.map (·.2))) := by
  refine ⟨fun pins s σ H Q I h => ?_⟩
  rw [eval_ListComp]
  refine lcE_core hc hN I hi ok hg (fun s H C cl fp _ _ => ht s H C cl fp) (fun s H C cl fp => he pins σ s H C cl fp) hs h fun D C s' m H' I' q hn f => ⟨m, hn, fun h'' sb => ?_⟩
  obtain ⟨f0, f1, f2, f3, f4, f5⟩ := f
  exact ⟨.ref D, H', I'.turned (t' := s'.toks) (fun b o hb e => (sb.2 b hb).trans e) f0 f1 f3 f4 f5, rfl, q⟩
end
section
variable {X : Cx}
/-- a text times a number -/
def rMulS : R2 := fun x y H Q => ∃ (z : PySem.Str) (i : Int), x = .str z ∧ y = .int i ∧ z.length ≤ 16 ∧ -(2 ^ 63) ≤ i ∧ i ≤ 1048576 ∧ Q (.str (Txt.mul z i)) H
theorem op_mulS : OpR X (binaryOp .Mult) rMulS := by
  intro pins s σ H x y v u Q I rx ry h
  obtain ⟨z, i, rfl, rfl, hz, lo, hi, q⟩ := h
  obtain ⟨t, rfl⟩ := (show ∃ t, v = Value.str z t from rx)
  obtain ⟨t2, rfl⟩ := (show ∃ t, u = Value.int i t from ry)
  exact PySem.W.KXi.mul rfl hz lo hi fun t' k _ _ => ⟨.str _, H, I.tok _, ⟨_, rfl⟩, q⟩
end
end My
namespace K47
open PySem PySem.Spec PyProof.Rows L2 StX ClX My
def topS (i : Nat) : Stmt := PySem.Challenge.pw_mailforwards_k47_travel_lists.main.body.getD i (.Pass ⟨0, 0, 0, 0⟩)
abbrev s_is_number : Stmt := topS 19
theorem sc_is_number : FnScope ["value", "low", "high"] ["value", "low", "high"] (defScope s_is_number) := ⟨rfl, rfl, rfl, by decide +kernel, rfl, by decide +kernel, by decide +kernel⟩
abbrev s_is_address : Stmt := topS 20
theorem sc_is_address : FnScope ["value", "letter"] ["value"] (defScope s_is_address) := ⟨rfl, rfl, rfl, by decide +kernel, rfl, by decide +kernel, by decide +kernel⟩
abbrev s_is_day : Stmt := topS 21
theorem sc_is_day : FnScope ["value"] ["value"] (defScope s_is_day) := ⟨rfl, rfl, rfl, by decide +kernel, rfl, by decide +kernel, by decide +kernel⟩
abbrev s_check_address : Stmt := topS 22
theorem sc_check_address : FnScope ["address"] ["address"] (defScope s_check_address) := ⟨rfl, rfl, rfl, by decide +kernel, rfl, by decide +kernel, by decide +kernel⟩
abbrev s_check_day : Stmt := topS 23
theorem sc_check_day : FnScope ["day"] ["day"] (defScope s_check_day) := ⟨rfl, rfl, rfl, by decide +kernel, rfl, by decide +kernel, by decide +kernel⟩
abbrev s_check_letter : Stmt := topS 24
theorem sc_check_letter : FnScope ["address", "day"] ["address", "day"] (defScope s_check_letter) := ⟨rfl, rfl, rfl, by decide +kernel, rfl, by decide +kernel, by decide +kernel⟩
abbrev s_check_number : Stmt := topS 25
theorem sc_check_number : FnScope ["number", "low", "high"] ["number", "low", "high"] (defScope s_check_number) := ⟨rfl, rfl, rfl, by decide +kernel, rfl, by decide +kernel, by decide +kernel⟩
abbrev s_is_order : Stmt := topS 29
theorem sc_is_order : FnScope ["value", "source", "target", "first", "last", "way"] ["value"] (defScope s_is_order) := ⟨rfl, rfl, rfl, by decide +kernel, rfl, by decide +kernel, by decide +kernel⟩
abbrev s_share_day : Stmt := topS 30
theorem sc_share_day : FnScope ["one", "other"] ["one", "other"] (defScope s_share_day) := ⟨rfl, rfl, rfl, by decide +kernel, rfl, by decide +kernel, by decide +kernel⟩
abbrev s_Book_init : Stmt := inClass (topS 31) 1
theorem sc_Book_init : FnScope ["self", "orders", "index", "order", "earlier"] ["self", "orders"] (defScope s_Book_init) := ⟨rfl, rfl, rfl, by decide +kernel, rfl, by decide +kernel, by decide +kernel⟩
abbrev s_Book_orders : Stmt := inClass (topS 31) 3
theorem sc_Book_orders : FnScope ["self"] ["self"] (defScope s_Book_orders) := ⟨rfl, rfl, rfl, by decide +kernel, rfl, by decide +kernel, by decide +kernel⟩
abbrev s_Book_addresses : Stmt := inClass (topS 31) 4
theorem sc_Book_addresses : FnScope ["self", "order", "address"] ["self"] (defScope s_Book_addresses) := ⟨rfl, rfl, rfl, by decide +kernel, rfl, by decide +kernel, by decide +kernel⟩
abbrev s_Book_len : Stmt := inClass (topS 31) 5
theorem sc_Book_len : FnScope ["self"] ["self"] (defScope s_Book_len) := ⟨rfl, rfl, rfl, by decide +kernel, rfl, by decide +kernel, by decide +kernel⟩
abbrev s_Book_getitem : Stmt := inClass (topS 31) 6
theorem sc_Book_getitem : FnScope ["self", "at"] ["self", "at"] (defScope s_Book_getitem) := ⟨rfl, rfl, rfl, by decide +kernel, rfl, by decide +kernel, by decide +kernel⟩
abbrev s_Book_add : Stmt := inClass (topS 31) 9
theorem sc_Book_add : FnScope ["self", "other", "orders"] ["self", "other"] (defScope s_Book_add) := ⟨rfl, rfl, rfl, by decide +kernel, rfl, by decide +kernel, by decide +kernel⟩
abbrev s_Book_rshift : Stmt := inClass (topS 31) 10
theorem sc_Book_rshift : FnScope ["self", "other", "orders", "source", "target", "first", "last", "way"] ["self", "other"] (defScope s_Book_rshift) := ⟨rfl, rfl, rfl, by decide +kernel, rfl, by decide +kernel, by decide +kernel⟩
abbrev s_Book_check_index : Stmt := inClass (topS 31) 14
theorem sc_Book_check_index : FnScope ["self", "index"] ["self", "index"] (defScope s_Book_check_index) := ⟨rfl, rfl, rfl, by decide +kernel, rfl, by decide +kernel, by decide +kernel⟩
abbrev s_holding : Stmt := topS 33
theorem sc_holding : FnScope ["book", "day", "sending", "last_days", "index", "order", "source", "target", "first", "last", "way"] ["book", "day"] (defScope s_holding) := ⟨rfl, rfl, rfl, by decide +kernel, rfl, by decide +kernel, by decide +kernel⟩
abbrev s_route : Stmt := topS 36
theorem sc_route : GScope ["book", "address", "day", "count", "_", "sending", "way"] ["book", "address", "day", "count"] (defScope s_route) := ⟨rfl, rfl, rfl, by decide +kernel, rfl, by decide +kernel, by decide +kernel⟩
abbrev s_travel_list : Stmt := topS 39
theorem sc_travel_list : FnScope ["book", "address", "day", "count", "arrivals", "place", "later"] ["book", "address", "day", "count"] (defScope s_travel_list) := ⟨rfl, rfl, rfl, by decide +kernel, rfl, by decide +kernel, by decide +kernel⟩
abbrev s_law_dice : Stmt := topS 41
theorem sc_law_dice : FnScope ["_law_script", "_law_mixed", "_law_cell"] ["_law_script"] (defScope s_law_dice) := ⟨rfl, rfl, rfl, by decide +kernel, rfl, by decide +kernel, by decide +kernel⟩
abbrev s_law_next : Stmt := topS 42
theorem sc_law_next : FnScope ["_law_dice_here", "_law_many", "_law_found", "_law_cell"] ["_law_dice_here", "_law_many"] (defScope s_law_next) := ⟨rfl, rfl, rfl, by decide +kernel, rfl, by decide +kernel, by decide +kernel⟩
abbrev s_law_pick : Stmt := topS 43
theorem sc_law_pick : FnScope ["_law_d", "_law_some"] ["_law_d", "_law_some"] (defScope s_law_pick) := ⟨rfl, rfl, rfl, by decide +kernel, rfl, by decide +kernel, by decide +kernel⟩
abbrev s_law_told : Stmt := topS 44
theorem sc_law_told : FnScope ["_law_work", "e", "_law_some", "_law_terms", "_law_k"] ["_law_work"] (defScope s_law_told) := ⟨rfl, rfl, rfl, by decide +kernel, rfl, by decide +kernel, by decide +kernel⟩
abbrev s_law_fits : Stmt := topS 45
theorem sc_law_fits : FnScope ["_law_orders_here", "_law_order_here", "_law_one"] ["_law_orders_here", "_law_order_here"] (defScope s_law_fits) := ⟨rfl, rfl, rfl, by decide +kernel, rfl, by decide +kernel, by decide +kernel⟩
abbrev s_law_order : Stmt := topS 46
theorem sc_law_order : FnScope ["_law_d", "_law_most", "_law_names", "_law_source", "_law_first"] ["_law_d", "_law_most"] (defScope s_law_order) := ⟨rfl, rfl, rfl, by decide +kernel, rfl, by decide +kernel, by decide +kernel⟩
abbrev s_law_orders : Stmt := topS 47
theorem sc_law_orders : FnScope ["_law_d", "_law_many", "_law_most", "_law_found", "_law_k", "_law_order_here"] ["_law_d", "_law_many", "_law_most"] (defScope s_law_orders) := ⟨rfl, rfl, rfl, by decide +kernel, rfl, by decide +kernel, by decide +kernel⟩
abbrev s_law_made : Stmt := topS 48
theorem sc_law_made : FnScope ["_law_orders_here", "_law_book", "_law_order_here"] ["_law_orders_here"] (defScope s_law_made) := ⟨rfl, rfl, rfl, by decide +kernel, rfl, by decide +kernel, by decide +kernel⟩
abbrev s_law_now : Stmt := topS 49
theorem sc_law_now : FnScope ["_law_orders_here", "_law_address", "_law_day", "_law_order_here"] ["_law_orders_here", "_law_address", "_law_day"] (defScope s_law_now) := ⟨rfl, rfl, rfl, by decide +kernel, rfl, by decide +kernel, by decide +kernel⟩
abbrev s_law_arrivals : Stmt := topS 50
theorem sc_law_arrivals : FnScope ["_law_orders_here", "_law_address", "_law_day", "_law_most", "_law_found", "_law_order_here"] ["_law_orders_here", "_law_address", "_law_day", "_law_most"] (defScope s_law_arrivals) := ⟨rfl, rfl, rfl, by decide +kernel, rfl, by decide +kernel, by decide +kernel⟩
abbrev s_law_grouped : Stmt := topS 51
theorem sc_law_grouped : FnScope ["_law_number", "_law_word", "_law_found"] ["_law_number"] (defScope s_law_grouped) := ⟨rfl, rfl, rfl, by decide +kernel, rfl, by decide +kernel, by decide +kernel⟩
abbrev s_law : Stmt := topS 52
theorem sc_law : FnScope ["_law_script", "_law_d", "_law_turn", "_law_far", "_law_orders_here", "_law_one", "_law_address", "_law_day", "_law_count", "_law_lines", "_law_name", "_law_arrival", "_law_number", "_law_bad", "_law_odd", "_law_book", "_law_work", "_law_due"] ["_law_script"] (defScope s_law) := ⟨rfl, rfl, rfl, by decide +kernel, rfl, by decide +kernel, by decide +kernel⟩
structure Txt (K : PySem.W.Frag) (mg : Str → Option Value) where
  Book : ClsA K mg "Book"
  is_number : FnA K mg "is_number" "is_number" s_is_number ["value", "low", "high"]
  is_address : FnA K mg "is_address" "is_address" s_is_address ["value"]
  is_day : FnA K mg "is_day" "is_day" s_is_day ["value"]
  check_address : FnA K mg "check_address" "check_address" s_check_address ["address"]
  check_day : FnA K mg "check_day" "check_day" s_check_day ["day"]
  check_letter : FnA K mg "check_letter" "check_letter" s_check_letter ["address", "day"]
  check_number : FnA K mg "check_number" "check_number" s_check_number ["number", "low", "high"]
  is_order : FnA K mg "_is_order" "_is_order" s_is_order ["value"]
  share_day : FnA K mg "share_day" "share_day" s_share_day ["one", "other"]
  Book_init : IniA K Book.C "Book.__init__" s_Book_init
  p_orders : PropA K Book.C "orders" "Book.orders" s_Book_orders ["self"]
  p_addresses : PropA K Book.C "addresses" "Book.addresses" s_Book_addresses ["self"]
  Book_len : MetA K Book.C "__len__" "Book.__len__" s_Book_len ["self"]
  Book_getitem : MetA K Book.C "__getitem__" "Book.__getitem__" s_Book_getitem ["self", "at"]
  Book_add : MetA K Book.C "__add__" "Book.__add__" s_Book_add ["self", "other"]
  Book_rshift : MetA K Book.C "__rshift__" "Book.__rshift__" s_Book_rshift ["self", "other"]
  Book_check_index : MetA K Book.C "_check_index" "Book._check_index" s_Book_check_index ["self", "index"]
  holding : FnA K mg "holding" "holding" s_holding ["book", "day"]
  route : FnA K mg "route" "route" s_route ["book", "address", "day", "count"]
  travel_list : FnA K mg "travel_list" "travel_list" s_travel_list ["book", "address", "day", "count"]
  law_dice : FnA K mg "_law_dice" "_law_dice" s_law_dice ["_law_script"]
  law_next : FnA K mg "_law_next" "_law_next" s_law_next ["_law_dice_here", "_law_many"]
  law_pick : FnA K mg "_law_pick" "_law_pick" s_law_pick ["_law_d", "_law_some"]
  law_told : FnA K mg "_law_told" "_law_told" s_law_told ["_law_work"]
  law_fits : FnA K mg "_law_fits" "_law_fits" s_law_fits ["_law_orders_here", "_law_order_here"]
  law_order : FnA K mg "_law_order" "_law_order" s_law_order ["_law_d", "_law_most"]
  law_orders : FnA K mg "_law_orders" "_law_orders" s_law_orders ["_law_d", "_law_many", "_law_most"]
  law_made : FnA K mg "_law_made" "_law_made" s_law_made ["_law_orders_here"]
  law_now : FnA K mg "_law_now" "_law_now" s_law_now ["_law_orders_here", "_law_address", "_law_day"]
  law_arrivals : FnA K mg "_law_arrivals" "_law_arrivals" s_law_arrivals ["_law_orders_here", "_law_address", "_law_day", "_law_most"]
  law_grouped : FnA K mg "_law_grouped" "_law_grouped" s_law_grouped ["_law_number"]
  law : FnA K mg "law" "law" s_law ["_law_script"]
  i_MAX_DAY : IntA mg "MAX_DAY" 1000000000000000000
  i_MAX_LETTERS : IntA mg "MAX_LETTERS" 8
  i_ORDER_PARTS : IntA mg "ORDER_PARTS" 5
  i_MAX_WAY : IntA mg "MAX_WAY" 30
  i_MAX_ARRIVALS : IntA mg "MAX_ARRIVALS" 1000
  i_DAY_SIGNS : IntA mg "DAY_SIGNS" 30
  z_LETTERS : StrA mg "LETTERS" "abcdefghijklmnopqrstuvwxyz"
  n_ValueError : mg "ValueError" = none
  n_all : mg "all" = none
  n_any : mg "any" = none
  n_bool : mg "bool" = none
  n_enumerate : mg "enumerate" = none
  n_int : mg "int" = none
  n_isinstance : mg "isinstance" = none
  n_len : mg "len" = none
  n_list : mg "list" = none
  n_max : mg "max" = none
  n_min : mg "min" = none
  n_range : mg "range" = none
  n_sorted : mg "sorted" = none
  n_str : mg "str" = none
  n_tuple : mg "tuple" = none
  fi_Book_getitem : PySem.W.fnIn K Book_getitem.f = true
  op_Book_rshift : OpT K Book.C Book_rshift.f "rshift"
  a_orders : NoAttr K Book.C "_orders"
  m_max : ∃ mc u, CRead K Book.C mc ∧ CVal K Book.C mc "MAX_ORDERS" (.int 30) u
  is_Book : C8.InsC K Book.C
  first : PySem.W.selfFirst K Book.C = true
  e_InvalidAddress : ErrA K mg "InvalidAddress"
  e_InvalidDay : ErrA K mg "InvalidDay"
  e_InvalidNumber : ErrA K mg "InvalidNumber"
  g_MailError : GlobA mg "MailError"
  g_InvalidOperation : GlobA mg "InvalidOperation"
  g_InvalidOrder : GlobA mg "InvalidOrder"
  g_UnknownOrder : GlobA mg "UnknownOrder"
  g_NotHolding : GlobA mg "NotHolding"
  g_DecodeError : GlobA mg "DecodeError"
  g_NotationError : GlobA mg "NotationError"
  g_UnknownLetter : GlobA mg "UnknownLetter"
  g_Contradiction : GlobA mg "Contradiction"
  g_InvalidCount : GlobA mg "InvalidCount"
  t_InvalidAddress : ToldA K e_InvalidAddress.C g_MailError.C [g_InvalidOperation.C, g_InvalidOrder.C, g_UnknownOrder.C, g_NotHolding.C, g_DecodeError.C, g_NotationError.C, g_UnknownLetter.C, e_InvalidAddress.C, e_InvalidDay.C, e_InvalidNumber.C, g_Contradiction.C, g_InvalidCount.C] 7
  t_InvalidDay : ToldA K e_InvalidDay.C g_MailError.C [g_InvalidOperation.C, g_InvalidOrder.C, g_UnknownOrder.C, g_NotHolding.C, g_DecodeError.C, g_NotationError.C, g_UnknownLetter.C, e_InvalidAddress.C, e_InvalidDay.C, e_InvalidNumber.C, g_Contradiction.C, g_InvalidCount.C] 8
  t_InvalidNumber : ToldA K e_InvalidNumber.C g_MailError.C [g_InvalidOperation.C, g_InvalidOrder.C, g_UnknownOrder.C, g_NotHolding.C, g_DecodeError.C, g_NotationError.C, g_UnknownLetter.C, e_InvalidAddress.C, e_InvalidDay.C, e_InvalidNumber.C, g_Contradiction.C, g_InvalidCount.C] 9
  s_InvalidAddress : PySem.W.subIn K (.ref e_InvalidAddress.C) (.type "StopIteration") = some false
  s_InvalidDay : PySem.W.subIn K (.ref e_InvalidDay.C) (.type "StopIteration") = some false
  s_InvalidNumber : PySem.W.subIn K (.ref e_InvalidNumber.C) (.type "StopIteration") = some false
  cd_law : CodeA K law.f
end K47
namespace K47
open PySem PySem.Spec PyProof.Rows L2 StX ClX My
local macro_rules | `(tactic| walk_at "rd") => `(tactic| try simp only [L2.start, List.map_cons, List.map_nil, List.length_cons, List.length_nil, List.cons_append, List.nil_append, List.reduceReplicate, List.replicate_zero, Nat.reduceAdd, Nat.reduceSub,
  List.getElem?_cons_zero, List.getElem?_cons_succ, List.set_cons_zero, List.set_cons_succ, Option.some.injEq, exists_eq_left', exists_eq_left, exists_eq_right, exists_eq_right', V.int.injEq, V.bl.injEq, V.str.injEq, V.ref.injEq, V.ty.injEq, List.cons.injEq, and_true, true_and, and_assoc,
  exists_and_left, exists_const, tVar, tC, tB, tAnd, tOr, tNot, tAndV, tOrV, tNotV, tIf, tSeq, tNext, iStr, iEnumT, iZip, RZ.iZipA, iRev, iList, iTup, iRng1, iRng2, tLc_eq, tDc_eq, tFor_eq, tYes, wipe, tBreak, tCont, tDrop, tRet, tRetN, tIfS, gName, gNil, gCons, gTup, tAsg, tPar, tOp, tUn, rI, rI0, rU, tTest, tChain, tNil, tCons, tTup, tLst, tCB, tFld_eq, tCVal_eq, tProp_eq, tMeth_eq, tMethR_eq, tCMeth, tMakeSL, tDNotIn, tDGet_eq, tDSetd, tDIn_eq, sDPut_eq, tNever, tMakeR_eq, tCKw_eq, tDNewK, tDNewT, tWhile, gSub_eq, tBM_eq, sFld, tPart, tNoPart, tSl, cx_K, cx_w, tCall, cx_K, tCall,
  Bool.false_eq_true, if_true, if_false, ite_true, ite_false, Bool.not_true, Bool.not_false, reduceIte, decide_eq_true_eq, eq_self_iff_true, reduceCtorEq, false_and, and_false, exists_false])
local macro_rules | `(tactic| walk_at "go") => `(tactic| (repeat (first | refine ixT_of (by assumption) (by rfl) ?_ | refine eqI_of ?_ | refine eqS_of ?_ | refine neI_of ?_); try walk_at "rd"))
/-! ### what the defs are worth -/
def numB (v : V) (lo hi : Int) : Bool := match v with
  | .int i => decide (lo ≤ i) && decide (i ≤ hi)
  | _ => false
abbrev dayM : Int := 1000000000000000000
def low (c : Nat) : Bool := decide (97 ≤ c) && decide (c ≤ 122)
theorem low_mem (c : Nat) : low c = decide (c ∈ (Str.ofString "abcdefghijklmnopqrstuvwxyz").cps.toList) := by
  have e : (Str.ofString "abcdefghijklmnopqrstuvwxyz").cps.toList = List.range' 97 26 := by decide +kernel
  rw [e]
  have m : c ∈ List.range' 97 26 ↔ 97 ≤ c ∧ c < 97 + 26 := List.mem_range'_1
  unfold low
  by_cases h1 : 97 ≤ c <;> by_cases h2 : c ≤ 122 <;> simp [m, h1, h2] <;> omega
def adrB (v : V) : Bool := match v with
  | .str z => decide (1 ≤ z.length) && decide (z.length ≤ 8) && z.cps.toList.all low
  | _ => false
def sp_is_number : Sp := fun vs H Q _ => ∃ v t lo hi, vs = [v, .int lo, .int hi] ∧ Kd H v t ∧ Q (.bl (numB v lo hi)) H
def sp_is_day : Sp := fun vs H Q _ => ∃ v t, vs = [v] ∧ Kd H v t ∧ Q (.bl (numB v 0 dayM)) H
def sp_is_address : Sp := fun vs H Q _ => ∃ v t, vs = [v] ∧ Kd H v t ∧ ∀ H', Same H H' → Q (.bl (adrB v)) H'
/-! ### numbers, addresses, days -/
section
variable {P : Program} {w : World} {K : PySem.W.Frag} {mg : Str → Option Value} {base : Heap}
theorem ok_is_number (T : Txt K mg) : FnOk P w K mg base (L2.CX P w) 1 T.is_number.f T.is_number.fd ["value", "low", "high"] sp_is_number := by
  refine T.is_number.F.okX sc_is_number (fun vs H Q E h => ?_) (fun cdv A outer s H vs Q E hr h => ?_)
  · obtain ⟨v, t, lo, hi, rfl, _⟩ := h
    rfl
  · obtain ⟨v, t, lo, hi, rfl, kd, q⟩ := h
    refine ⟨_, (pss_one (ps_ret (pe_and (pe_callB call_isi (by rfl) T.n_isinstance (by decide +kernel) (pa_cons (pv 0) (pa_cons (pe_tyN "int" (by rfl) T.n_int (by decide +kernel)) pa_nil))) (pe_and (pe_not (pe_callB call_isi (by rfl) T.n_isinstance (by decide +kernel) (pa_cons (pv 0) (pa_cons (pe_tyN "bool" (by rfl) T.n_bool (by decide +kernel)) pa_nil)))) (pe_one (pe_chain op_le op_le (pv 1) (pv 0) (pv 2))))))), ?_⟩
    walk_at "rd"
    cases kd with
    | int i =>
      refine isi_of (.int i) (b := true) (by decide) ?_
      walk_at "rd"
      refine isi_of (.int i) (b := false) (by decide) ?_
      walk_at "rd"
      by_cases c : lo ≤ i
      · rw [if_pos c]
        simpa [numB, c] using q
      · rw [if_neg c]
        simpa [numB, c] using q
    | bl b =>
      refine isi_of (.bl b) (b := true) (by decide) ?_
      walk_at "rd"
      refine isi_of (.bl b) (b := true) (by decide) ?_
      walk_at "rd"
      exact q
    | _ =>
      refine isi_of (by first | exact .non | exact .str _ (by assumption) | exact .tup (by assumption) | exact .lst (by assumption)) (b := false) (by decide) ?_
      walk_at "rd"
      exact q
theorem ok_is_day (T : Txt K mg) : FnOk P w K mg base (L2.CX P w) 2 T.is_day.f T.is_day.fd ["value"] sp_is_day := by
  have G_is_number := ok_is_number (P := P) (w := w) (base := base) T
  refine T.is_day.F.okX sc_is_day (fun vs H Q E h => ?_) (fun cdv A outer s H vs Q E hr h => ?_)
  · obtain ⟨v, t, rfl, _⟩ := h
    rfl
  · obtain ⟨v, t, rfl, kd, q⟩ := h
    refine ⟨_, (pss_one (ps_ret (pe_call G_is_number (hr.mono (by first | decide | omega)) rfl T.is_number.mg T.is_number.F.kp T.is_number.b .nil passF (pa_cons (pv 0) (pa_cons pe_int (pa_cons (pe_gI T.i_MAX_DAY) pa_nil)))))), ?_⟩
    walk_at "rd"
    exact ⟨v, t, _, _, rfl, kd, q⟩
theorem ok_is_address (T : Txt K mg) : FnOk P w K mg base (L2.CX P w) 1 T.is_address.f T.is_address.fd ["value"] sp_is_address := by
  refine T.is_address.F.okX sc_is_address (fun vs H Q E h => ?_) (fun cdv A outer s H vs Q E hr h => ?_)
  · obtain ⟨v, t, rfl, _⟩ := h
    rfl
  · obtain ⟨v, t, rfl, kd, q⟩ := h
    refine ⟨_, (pss_cons (ps_if (PW.pt (pw_or (pt_not (pt_val (pe_callB call_isi (by rfl) T.n_isinstance (by decide +kernel) (pa_cons (pv 0) (pa_cons (pe_tyN "str" (by rfl) T.n_str (by decide +kernel)) pa_nil))))) (pw_or1 (pt_not (pt_chain op_le op_le pe_int (pe_callB call_len_str (by rfl) T.n_len (by decide +kernel) (pa_cons (pv 0) pa_nil)) (pe_gI T.i_MAX_LETTERS))))))
    (pss_one (ps_ret pe_bl))
    pss_nil)
  (pss_one (ps_ret (pe_callB (cr_all rfl) (by rfl) T.n_all (by decide +kernel) (pa_cons (pe_lc (own := [("letter", 1)]) rfl sc_is_address.nd (pi_str (pv 0)) (blkOk_by (sc := defScope s_is_address) (N := ["value", "letter"]) (own := [("letter", 1)]) (by decide +kernel)) (fun _ _ _ _ _ => pg_name (i := 1) sc_is_address.nd rfl (Or.inl rfl)) (fun _ _ _ _ _ => pts_nil) (fun _ _ _ _ _ => (pe_cmpR op_in_sign (pv 1) (pe_gS T.z_LETTERS) rfl))) pa_nil))))), ?_⟩
    walk_at "rd"
    cases kd with
    | str z hz =>
      refine isi_of (.str z hz) (b := true) (by decide) ?_
      walk_at "rd"
      refine ⟨Nat.le_trans hz (by decide), ?_⟩
      by_cases c1 : 1 ≤ z.length
      · rw [if_pos (by omega)]
        by_cases c2 : z.length ≤ 8
        · have e2 : decide ((z.length : Int) ≤ 8) = true := decide_eq_true (by omega)
          rw [e2]
          walk_at "rd"
          intro D hD
          refine comp_val walk_strY (fun i => (z.cps.toList[i]?).map fun c => V.bl (decide (c ∈ (Str.ofString "abcdefghijklmnopqrstuvwxyz").cps.toList)))
            (by rw [Array.length_toList]; exact Nat.le_trans c2 (by decide)) hD (fun _ _ => trivial) ?_ ?_
          · rintro i x H' H2 hi s2 ⟨rfl, c, hc, rfl⟩ no yes _ hy
            walk_at "rd"
            refine ⟨c, rfl, hy _ (by rw [hc]; rfl) _ (Same.refl _)⟩
          · intro H' s' at_
            rw [range_mp] at at_
            refine all_map at_ ?_
            have e : adrB (.str z) = z.cps.toList.all fun c => decide (c ∈ (Str.ofString "abcdefghijklmnopqrstuvwxyz").cps.toList) := by
              simp only [adrB, c1, c2, decide_true, Bool.true_and]
              congr 1
              funext c
              exact low_mem c
            rw [← e]
            exact q H' s'
        · have e2 : decide ((z.length : Int) ≤ 8) = false := decide_eq_false (by omega)
          rw [e2]
          walk_at "rd"
          have e : adrB (.str z) = false := by simp [adrB, c2]
          rw [← e]
          exact q H (Same.refl H)
      · rw [if_neg (by omega)]
        have e : adrB (.str z) = false := by simp [adrB, c1]
        rw [← e]
        exact q H (Same.refl H)
    | _ =>
      refine isi_of (by first | exact .non | exact .bl _ | exact .int _ | exact .tup (by assumption) | exact .lst (by assumption)) (b := false) (by decide) ?_
      walk_at "rd"
      exact q H (Same.refl H)
end
end K47
namespace K47
open PySem PySem.Spec PyProof.Rows L2 StX ClX My
local macro_rules | `(tactic| walk_at "rd") => `(tactic| try simp only [L2.start, List.map_cons, List.map_nil, List.length_cons, List.length_nil, List.cons_append, List.nil_append, List.reduceReplicate, List.replicate_zero, Nat.reduceAdd, Nat.reduceSub,
  List.getElem?_cons_zero, List.getElem?_cons_succ, List.set_cons_zero, List.set_cons_succ, Option.some.injEq, exists_eq_left', exists_eq_left, exists_eq_right, exists_eq_right', V.int.injEq, V.bl.injEq, V.str.injEq, V.ref.injEq, V.ty.injEq, List.cons.injEq, and_true, true_and, and_assoc,
  exists_and_left, exists_const, tVar, tC, tB, tAnd, tOr, tNot, tAndV, tOrV, tNotV, tIf, tSeq, tNext, iStr, iEnumT, iZip, RZ.iZipA, iRev, iList, iTup, iRng1, iRng2, tLc_eq, tDc_eq, tFor_eq, tYes, wipe, tBreak, tCont, tDrop, tRet, tRetN, tIfS, gName, gNil, gCons, gTup, tAsg, tPar, tOp, tUn, rI, rI0, rU, tTest, tChain, tNil, tCons, tTup, tLst, tCB, tFld_eq, tCVal_eq, tProp_eq, tMeth_eq, tMethR_eq, tCMeth, tMakeSL, tDNotIn, tDGet_eq, tDSetd, tDIn_eq, sDPut_eq, tNever, tMakeR_eq, tCKw_eq, tDNewK, tDNewT, tWhile, gSub_eq, tBM_eq, sFld, tPart, tNoPart, tSl, cx_K, cx_w, tCall, cx_K, tCall,
  Bool.false_eq_true, if_true, if_false, ite_true, ite_false, Bool.not_true, Bool.not_false, reduceIte, decide_eq_true_eq, eq_self_iff_true, reduceCtorEq, false_and, and_false, exists_false])
local macro_rules | `(tactic| walk_at "go") => `(tactic| (repeat (first | refine ixT_of (by assumption) (by rfl) ?_ | refine eqI_of ?_ | refine eqS_of ?_ | refine neI_of ?_); try walk_at "rd"))
/-! ### orders and books -/
structure Ord where
  src : Str
  tgt : Str
  fst : Int
  lst : Int
  way : Int
  deriving DecidableEq
def Ord.vals (o : Ord) : List V := [.str o.src, .str o.tgt, .int o.fst, .int o.lst, .int o.way]
abbrev OrdAt (H : Hp) (p : Addr) (o : Ord) : Prop := H p = some (.tup o.vals)
def TupAt (H : Hp) (t : Addr) (os : List Ord) : Prop := ∃ ps : List Addr, H t = some (.tup (ps.map V.ref)) ∧ Paired (OrdAt H) ps os
def LstAt (H : Hp) (t : Addr) (os : List Ord) : Prop := ∃ ps : List Addr, H t = some (.lst (ps.map V.ref)) ∧ Paired (OrdAt H) ps os
def BookAt (C : Addr) (H : Hp) (b : Addr) (os : List Ord) : Prop := ∃ dx t, H b = some (.ins C dx [("_orders", .ref t)]) ∧ TupAt H t os
theorem Paired.mp {α β : Type} {F G : α → β → Prop} (f : ∀ a b, F a b → G a b) : ∀ {l : List α} {m : List β}, Paired F l m → Paired G l m
  | _, _, .nil => .nil
  | _, _, .cons r t => .cons (f _ _ r) (Paired.mp f t)
theorem Paired.at {α β : Type} {F : α → β → Prop} : ∀ {l : List α} {m : List β}, Paired F l m → ∀ {i : Nat} {a : α}, l[i]? = some a → ∃ b, m[i]? = some b ∧ F a b
  | _, _, .nil, i, a, h => by simp at h
  | _, _, .cons r t, 0, a, h => by
    simp at h
    subst h
    exact ⟨_, rfl, r⟩
  | _, _, .cons r t, i + 1, a, h => by
    obtain ⟨b, h1, h2⟩ := Paired.at t (i := i) (a := a) (by simpa using h)
    exact ⟨b, by simpa using h1, h2⟩
theorem Paired.app {α β : Type} {F : α → β → Prop} : ∀ {l l' : List α} {m m' : List β}, Paired F l m → Paired F l' m' → Paired F (l ++ l') (m ++ m')
  | _, _, _, _, .nil, h => h
  | _, _, _, _, .cons r t, h => .cons r (Paired.app t h)
theorem Paired.tk {α β : Type} {F : α → β → Prop} : ∀ {l : List α} {m : List β} (n : Nat), Paired F l m → Paired F (l.take n) (m.take n)
  | _, _, 0, _ => .nil
  | _, _, _ + 1, .nil => .nil
  | _, _, n + 1, .cons r t => .cons r (Paired.tk n t)
theorem OrdAt.up {H H' : Hp} {p : Addr} {o : Ord} (s : SameN H H') (h : OrdAt H p o) : OrdAt H' p o := s _ _ h trivial
theorem ordsUp {H H' : Hp} {ps : List Addr} {os : List Ord} (s : SameN H H') (h : Paired (OrdAt H) ps os) : Paired (OrdAt H') ps os := Paired.mp (fun _ _ r => OrdAt.up s r) h
theorem TupAt.up {H H' : Hp} {t : Addr} {os : List Ord} (s : SameN H H') (h : TupAt H t os) : TupAt H' t os := by
  obtain ⟨ps, h1, h2⟩ := h
  exact ⟨ps, s _ _ h1 trivial, ordsUp s h2⟩
theorem BookAt.up {C : Addr} {H H' : Hp} {b : Addr} {os : List Ord} (s : SameN H H') (h : BookAt C H b os) : BookAt C H' b os := by
  obtain ⟨dx, t, h1, h2⟩ := h
  exact ⟨dx, t, s _ _ h1 trivial, h2.up s⟩
theorem LstAt.up {H H' : Hp} {t : Addr} {os : List Ord} (s : Same H H') (h : LstAt H t os) : LstAt H' t os := by
  obtain ⟨ps, h1, h2⟩ := h
  exact ⟨ps, s _ _ h1, ordsUp (SameN.of s) h2⟩
/-- an order is valid; two share a day; a book is valid -/
def okO (o : Ord) : Bool := adrB (.str o.src) && adrB (.str o.tgt) && !decide (o.src = o.tgt) && (numB (.int o.fst) 0 dayM && numB (.int o.lst) 0 dayM && !decide (o.lst < o.fst)) && numB (.int o.way) 1 30
def share (a b : Ord) : Bool := decide (a.src = b.src) && (decide (a.fst ≤ b.lst) && decide (b.fst ≤ a.lst))
structure OkB (os : List Ord) : Prop where
  len : os.length ≤ 30
  each : ∀ (i : Nat) (o : Ord), os[i]? = some o → okO o = true
  apart : ∀ (i : Nat) (o : Ord), os[i]? = some o → (os.take i).any (share o) = false
theorem OkB.take {os : List Ord} (h : OkB os) (n : Nat) : OkB (os.take n) := by
  refine ⟨?_, fun i o e => ?_, fun i o e => ?_⟩
  · rw [List.length_take]
    have := h.len
    omega
  · rw [List.getElem?_take] at e
    split at e
    · exact h.each i o e
    · cases e
  · rw [List.getElem?_take] at e
    split at e
    · rename_i lt
      rw [List.take_take, Nat.min_eq_left (Nat.le_of_lt lt)]
      exact h.apart i o e
    · cases e
theorem len8 {z : Str} (h : adrB (.str z) = true) : z.length ≤ 1000 := by
  simp [adrB] at h
  omega
def sp_is_order : Sp := fun vs H Q _ => ∃ p o, vs = [.ref p] ∧ OrdAt H p o ∧ o.src.length ≤ 1000 ∧ o.tgt.length ≤ 1000 ∧ ∀ H', Same H H' → Q (.bl (okO o)) H'
def sp_share_day : Sp := fun vs H Q _ => ∃ p q a b, vs = [.ref p, .ref q] ∧ OrdAt H p a ∧ OrdAt H q b ∧ Q (.bl (share a b)) H
section
variable {P : Program} {w : World} {K : PySem.W.Frag} {mg : Str → Option Value} {base : Heap}
theorem ok_share_day (T : Txt K mg) : FnOk P w K mg base (L2.CX P w) 1 T.share_day.f T.share_day.fd ["one", "other"] sp_share_day := by
  refine T.share_day.F.okX sc_share_day (fun vs H Q E h => ?_) (fun cdv A outer s H vs Q E hr h => ?_)
  · obtain ⟨p, q, a, b, rfl, _⟩ := h
    rfl
  · obtain ⟨p, q, a, b, rfl, ha, hb, k⟩ := h
    refine ⟨_, (pss_one (ps_ret (pe_and (pe_cmpR op_eq (pe_ix ix_tup (pv 0) pe_int (fun _ _ => rfl)) (pe_ix ix_tup (pv 1) pe_int (fun _ _ => rfl)) (nomark _)) (pe_and (pe_cmpR op_le (pe_ix ix_tup (pv 0) pe_int (fun _ _ => rfl)) (pe_ix ix_tup (pv 1) pe_int (fun _ _ => rfl)) (nomark _)) (pe_one (pe_cmpR op_le (pe_ix ix_tup (pv 1) pe_int (fun _ _ => rfl)) (pe_ix ix_tup (pv 0) pe_int (fun _ _ => rfl)) (nomark _))))))), ?_⟩
    walk_at "rd"
    walk_at "go"
    by_cases c1 : a.src = b.src
    · rw [if_pos c1]
      walk_at "go"
      by_cases c2 : a.fst ≤ b.lst
      · rw [if_pos c2]
        walk_at "go"
        simpa [share, c1, c2] using k
      · rw [if_neg c2]
        simpa [share, c1, c2] using k
    · rw [if_neg c1]
      simpa [share, c1] using k
theorem ok_is_order (T : Txt K mg) : FnOk P w K mg base (L2.CX P w) 3 T.is_order.f T.is_order.fd ["value"] sp_is_order := by
  have G_is_number := ok_is_number (P := P) (w := w) (base := base) T
  have G_is_address := ok_is_address (P := P) (w := w) (base := base) T
  have G_is_day := ok_is_day (P := P) (w := w) (base := base) T
  refine T.is_order.F.okX sc_is_order (fun vs H Q E h => ?_) (fun cdv A outer s H vs Q E hr h => ?_)
  · obtain ⟨p, o, rfl, _⟩ := h
    rfl
  · obtain ⟨p, o, rfl, ho, h1, h2, k⟩ := h
    refine ⟨_, (pss_cons (ps_if (PW.pt (pw_or (pt_not (pt_val (pe_callB call_isi (by rfl) T.n_isinstance (by decide +kernel) (pa_cons (pv 0) (pa_cons (pe_tyN "tuple" (by rfl) T.n_tuple (by decide +kernel)) pa_nil))))) (pw_or1 (pt_cmpR op_ne (pe_callB call_len_seq (by rfl) T.n_len (by decide +kernel) (pa_cons (pv 0) pa_nil)) (pe_gI T.i_ORDER_PARTS) (nomark _)))))
    (pss_one (ps_ret pe_bl))
    pss_nil)
  (pss_cons (ps_asg (pv 0) (pg_tupK (K := K) (n := 5) rfl rfl (pgs_cons (pg_name (i := 1) sc_is_order.nd rfl (Or.inl rfl)) (pgs_cons (pg_name (i := 2) sc_is_order.nd rfl (Or.inl rfl)) (pgs_cons (pg_name (i := 3) sc_is_order.nd rfl (Or.inl rfl)) (pgs_cons (pg_name (i := 4) sc_is_order.nd rfl (Or.inl rfl)) (pgs_cons (pg_name (i := 5) sc_is_order.nd rfl (Or.inl rfl)) pgs_nil)))))))
  (pss_cons (ps_if (PW.pt (pw_or (pt_not (pt_val (pe_call G_is_address (hr.mono (by first | decide | omega)) rfl T.is_address.mg T.is_address.F.kp T.is_address.b .nil passF (pa_cons (pv 1) pa_nil)))) (pw_or (pt_not (pt_val (pe_call G_is_address (hr.mono (by first | decide | omega)) rfl T.is_address.mg T.is_address.F.kp T.is_address.b .nil passF (pa_cons (pv 2) pa_nil)))) (pw_or1 (pt_cmpR op_eq (pv 1) (pv 2) (nomark _))))))
    (pss_one (ps_ret pe_bl))
    pss_nil)
  (pss_cons (ps_if (PW.pt (pw_or (pt_not (pt_val (pe_call G_is_day (hr.mono (by first | decide | omega)) rfl T.is_day.mg T.is_day.F.kp T.is_day.b .nil passF (pa_cons (pv 3) pa_nil)))) (pw_or (pt_not (pt_val (pe_call G_is_day (hr.mono (by first | decide | omega)) rfl T.is_day.mg T.is_day.F.kp T.is_day.b .nil passF (pa_cons (pv 4) pa_nil)))) (pw_or1 (pt_cmpR op_gt (pv 3) (pv 4) (nomark _))))))
    (pss_one (ps_ret pe_bl))
    pss_nil)
  (pss_one (ps_ret (pe_call G_is_number (hr.mono (by first | decide | omega)) rfl T.is_number.mg T.is_number.F.kp T.is_number.b .nil passF (pa_cons (pv 5) (pa_cons pe_int (pa_cons (pe_gI T.i_MAX_WAY) pa_nil)))))))))), ?_⟩
    walk_at "rd"
    refine isi_of (.tup ho) (b := true) (by decide) ?_
    walk_at "rd"
    refine ⟨_, .inr (SqT.of ho), neI_of ?_⟩
    have e5 : (decide ((o.vals.length : Int) = 5)) = true := rfl
    rw [e5]
    walk_at "rd"
    refine ⟨_, SqT.of ho, rfl, _, _, rfl, _, _, rfl, _, _, rfl, _, _, rfl, _, _, rfl, rfl, ?_⟩
    refine ⟨_, _, rfl, .str _ h1, fun H1 s1 => ?_⟩
    cases a1 : adrB (.str o.src) with
    | false =>
      walk_at "rd"
      simpa [okO, a1] using k H1 s1
    | true =>
    walk_at "rd"
    refine ⟨_, _, rfl, .str _ h2, fun H2 s2 => ?_⟩
    have s2 := s1.trans s2
    cases a2 : adrB (.str o.tgt) with
    | false =>
      walk_at "rd"
      simpa [okO, a1, a2] using k H2 s2
    | true =>
    walk_at "rd"
    walk_at "go"
    by_cases c1 : o.src = o.tgt
    · rw [if_pos c1]
      simpa [okO, a1, a2, c1] using k H2 s2
    · rw [if_neg c1]
      refine ⟨_, _, rfl, .int _, ?_⟩
      cases a3 : numB (.int o.fst) 0 dayM with
      | false =>
        walk_at "rd"
        simpa [okO, a1, a2, c1, a3] using k H2 s2
      | true =>
      walk_at "rd"
      refine ⟨_, _, rfl, .int _, ?_⟩
      cases a4 : numB (.int o.lst) 0 dayM with
      | false =>
        walk_at "rd"
        simpa [okO, a1, a2, c1, a3, a4] using k H2 s2
      | true =>
      walk_at "rd"
      by_cases c2 : o.lst < o.fst
      · rw [if_pos c2]
        simpa [okO, a1, a2, c1, a3, a4, c2] using k H2 s2
      · rw [if_neg c2]
        refine ⟨_, _, _, _, rfl, .int _, ?_⟩
        have e : okO o = numB (.int o.way) 1 30 := by simp [okO, a1, a2, c1, a3, a4, c2]
        rw [← e]
        exact k H2 s2
end
end K47
namespace K47
open PySem PySem.Spec PyProof.Rows L2 StX ClX My
local macro_rules | `(tactic| walk_at "rd") => `(tactic| try simp only [L2.start, List.map_cons, List.map_nil, List.length_cons, List.length_nil, List.cons_append, List.nil_append, List.reduceReplicate, List.replicate_zero, Nat.reduceAdd, Nat.reduceSub,
  List.getElem?_cons_zero, List.getElem?_cons_succ, List.set_cons_zero, List.set_cons_succ, Option.some.injEq, exists_eq_left', exists_eq_left, exists_eq_right, exists_eq_right', V.int.injEq, V.bl.injEq, V.str.injEq, V.ref.injEq, V.ty.injEq, List.cons.injEq, and_true, true_and, and_assoc,
  exists_and_left, exists_const, tVar, tC, tB, tAnd, tOr, tNot, tAndV, tOrV, tNotV, tIf, tSeq, tNext, iStr, iEnumT, iZip, RZ.iZipA, iRev, iList, iTup, iRng1, iRng2, tLc_eq, tDc_eq, tFor_eq, tYes, wipe, tBreak, tCont, tDrop, tRet, tRetN, tIfS, gName, gNil, gCons, gTup, tAsg, tPar, tOp, tUn, rI, rI0, rU, tTest, tChain, tNil, tCons, tTup, tLst, tCB, tFld_eq, tCVal_eq, tProp_eq, tMeth_eq, tMethR_eq, tCMeth, tMakeSL, tDNotIn, tDGet_eq, tDSetd, tDIn_eq, sDPut_eq, tNever, tMakeR_eq, tCKw_eq, tDNewK, tDNewT, tWhile, gSub_eq, tBM_eq, sFld, tPart, tNoPart, tSl, cx_K, cx_w, tCall, cx_K, tCall,
  Bool.false_eq_true, if_true, if_false, ite_true, ite_false, Bool.not_true, Bool.not_false, reduceIte, decide_eq_true_eq, eq_self_iff_true, reduceCtorEq, false_and, and_false, exists_false])
local macro_rules | `(tactic| walk_at "go") => `(tactic| (repeat (first | refine ixT_of (by assumption) (by rfl) ?_ | refine eqI_of ?_ | refine eqS_of ?_ | refine neI_of ?_); try walk_at "rd"))
/-! ### making books -/
def sp_init (C : Addr) : Sp := fun vs H Q _ => ∃ b t dx os, vs = [.ref b, .ref t] ∧ H b = some (.ins C dx []) ∧ TupAt H t os ∧ OkB os ∧
  ∀ H', (∀ a o, a ≠ b → H a = some o → H' a = some o) → H' b = some (.ins C dx [("_orders", .ref t)]) → Q .non H'
def sp_initR (C : Addr) : Sp := fun vs H Q E => ∃ ws rest, vs = ws ++ rest ∧ ws.length = 1 ∧ rest.length ≤ sizeLine ∧
  ∀ p, H p = Option.none → sp_init C (ws ++ [V.ref p]) (upd H p (.tup rest)) Q E
def sp_orders (C : Addr) : Sp := fun vs H Q _ => ∃ b dx t, vs = [.ref b] ∧ H b = some (.ins C dx [("_orders", .ref t)]) ∧ Q (.ref t) H
def sp_add (C : Addr) : Sp := fun vs H Q _ => ∃ a b xs ys, vs = [.ref a, .ref b] ∧ BookAt C H a xs ∧ BookAt C H b ys ∧ OkB (xs ++ ys) ∧
  ∀ c H', Same H H' → BookAt C H' c (xs ++ ys) → Q (.ref c) H'
theorem okO_len {o : Ord} (h : okO o = true) : o.src.length ≤ 1000 ∧ o.tgt.length ≤ 1000 := by
  simp only [okO, Bool.and_eq_true] at h
  exact ⟨len8 h.1.1.1.1, len8 h.1.1.1.2⟩
section
variable {P : Program} {w : World} {K : PySem.W.Frag} {mg : Str → Option Value} {base : Heap}
theorem ok_orders (T : Txt K mg) : FnOk P w K mg base (L2.CX P w) 1 T.p_orders.f T.p_orders.fd ["self"] (sp_orders T.Book.C) := by
  refine T.p_orders.F.okX sc_Book_orders (fun vs H Q E h => ?_) (fun cdv A outer s H vs Q E hr h => ?_)
  · obtain ⟨b, dx, t, rfl, _⟩ := h
    rfl
  · obtain ⟨b, dx, t, rfl, hb, k⟩ := h
    refine ⟨_, (pss_one (ps_ret (pe_fld (pv 0) rfl))), ?_⟩
    walk_at "rd"
    exact fld_of hb T.Book.cl T.a_orders rfl k
theorem ok_init (T : Txt K mg) : FnR P w K mg base (L2.CX P w) 5 T.Book_init.f (sp_initR T.Book.C) := by
  have G_is_order := ok_is_order (P := P) (w := w) (base := base) T
  have G_share_day := ok_share_day (P := P) (w := w) (base := base) T
  obtain ⟨oc, od, kV, doc, pm, an, cdv, ct, osl, efd, lk, hcd⟩ := T.Book_init.F.ex
  rw [efd] at lk
  refine fn_star (ps := ["self"]) (pv := "orders") (N := ["self", "orders", "index", "order", "earlier"]) (sp := sp_init T.Book.C) lk hcd sc_Book_init cxUp ?_ ?_
  · exact bind_star1 (B := fun l => bindArgs _ ⟨l, []⟩) (p1 := "self") (pv := "orders") (fun a => rfl) (fun a r rs => rfl)
  · intro A outer s H vs Q E hr h
    obtain ⟨b, t, dx, os, rfl, hb, ⟨ps, ht, hos⟩, ok, k⟩ := h
    refine ⟨_, (pss_cons (ps_for (passes_of rfl) rfl (pi_enumT (by rfl) T.n_enumerate (pa_cons (pv 1) pa_nil)) (pg_tupK (K := K) (n := 2) rfl rfl (pgs_cons (pg_name (i := 2) sc_Book_init.nd rfl (Or.inl rfl)) (pgs_cons (pg_name (i := 3) sc_Book_init.nd rfl (Or.inr rfl)) pgs_nil)))
    (pss_cons (ps_if (PW.pt (pw_or (pt_cmpR op_ge (pv 2) (pe_cval (pe_gC T.Book.mg) rfl) (nomark _)) (pw_or1 (pt_not (pt_val (pe_call G_is_order (hr.mono (by first | decide | omega)) rfl T.is_order.mg T.is_order.F.kp T.is_order.b .nil passF (pa_cons (pv 3) pa_nil)))))))
    (pss_one (ps_never))
    pss_nil)
  (pss_one (ps_if (pt_val (pe_callB (cr_any rfl) (by rfl) T.n_any (by decide +kernel) (pa_cons (pe_lc (own := [("earlier", 4)]) rfl sc_Book_init.nd (pi_tup (pe_slice sl_tupA (pv 1) po_none (po_some (pv 2)))) (blkOk_by (sc := defScope s_Book_init) (N := ["self", "orders", "index", "order", "earlier"]) (own := [("earlier", 4)]) (by decide +kernel)) (fun _ _ _ _ _ => pg_name (i := 4) sc_Book_init.nd rfl (Or.inl rfl)) (fun _ _ _ _ _ => pts_nil) (fun _ _ _ _ _ => (pe_call G_share_day (hr.mono (by first | decide | omega)) rfl T.share_day.mg T.share_day.F.kp T.share_day.b .nil passF (pa_cons (pv 3) (pa_cons (pv 4) pa_nil))))) pa_nil)))
    (pss_one (ps_never))
    pss_nil))))
  (pss_one (ps_fld (pv 0) (pv 1) rfl))), ?_⟩
    walk_at "rd"
    refine ⟨_, SqT.of ht, for_rel walk_enumT (fun i σ H' => ∃ v2 v3 v4, σ = [some (V.ref b), some (V.ref t), v2, v3, v4] ∧ Same H H') ⟨_, _, _, rfl, Same.refl _⟩
      (fun i σ H' _ ⟨_, _, _, _, s1⟩ => SqT.of (s1 _ _ ht)) ?_ ?_⟩
    · rintro i x σ H1 H2 hi ⟨v2, v3, v4, rfl, s1⟩ ⟨T', a1, a2, rfl, nT, rfl, e1, e2⟩
      cases e1
      obtain ⟨p, hp, rfl⟩ : ∃ p, ps[i]? = some p ∧ a2 = V.ref p := by
        have e2 : (ps.map V.ref)[i]? = some a2 := e2
        rw [List.getElem?_map] at e2
        cases e : ps[i]? with
        | none => rw [e] at e2; cases e2
        | some p => rw [e] at e2; exact ⟨p, rfl, (Option.some.inj e2).symm⟩
      obtain ⟨o, ho, hpo⟩ := Paired.at hos hp
      have s2 : Same H (upd H1 T' (.tup [V.int (i : Nat), V.ref p])) := fun c u e => by
        rw [upd_ne (ne_of_none (s1 _ _ e) nT)]
        exact s1 _ _ e
      generalize eH : upd H1 T' (.tup [V.int (i : Nat), V.ref p]) = H2 at s2
      have at2 : H2 T' = some (.tup [V.int (i : Nat), V.ref p]) := by rw [← eH]; exact upd_same
      walk_at "rd"
      refine ⟨_, SqT.of at2, rfl, _, _, rfl, _, _, rfl, rfl, ?_⟩
      have len : ps.length = os.length := Paired.length hos
      have lt : i < os.length := (List.getElem?_eq_some_iff.mp ho).1
      have l30 := ok.len
      obtain ⟨ls, lt'⟩ := okO_len (ok.each i o ho)
      refine cval_of T.m_max ?_
      walk_at "rd"
      rw [if_neg (by omega)]
      refine ⟨p, o, rfl, s2 _ _ hpo, ls, lt', fun H3 s3 => ?_⟩
      rw [ok.each i o ho]
      walk_at "rd"
      have s3 := s2.trans s3
      refine sl_take (s3 _ _ ht) (by rw [List.length_map]; omega) fun c hc => ?_
      have s4 : Same H (upd H3 c (.tup ((ps.map V.ref).take i))) := fun a u e => by
        rw [upd_ne (ne_of_none (s3 _ _ e) hc)]
        exact s3 _ _ e
      generalize eH4 : upd H3 c (.tup ((ps.map V.ref).take i)) = H4 at s4
      have at4 : H4 c = some (.tup ((ps.map V.ref).take i)) := by rw [← eH4]; exact upd_same
      walk_at "rd"
      refine ⟨⟨_, SqT.of at4⟩, fun D hD => ?_⟩
      refine comp_val (walk_tup (K := K) (a := c) (xs := (ps.map V.ref).take i)) (fun j => ((os.take i)[j]?).map fun u => V.bl (share o u))
        (by rw [List.length_take]; omega) hD (fun H5 s5 => SqT.of (s5 _ _ at4)) ?_ ?_
      · rintro j x H5 H6 hj s5 ⟨rfl, ex⟩ no yes _ hy
        obtain ⟨u, hu, q, eq, rfl⟩ : ∃ u, (os.take i)[j]? = some u ∧ ∃ q, OrdAt H q u ∧ x = V.ref q := by
          rw [← List.map_take, List.getElem?_map] at ex
          cases e : (ps.take i)[j]? with
          | none => rw [e] at ex; cases ex
          | some q =>
            rw [e] at ex
            obtain ⟨u, h1, h2⟩ := Paired.at (Paired.tk i hos) e
            exact ⟨u, h1, q, h2, (Option.some.inj ex).symm⟩
        walk_at "rd"
        exact ⟨p, q, o, u, rfl, s5 _ _ (s4 _ _ hpo), s5 _ _ (s4 _ _ eq), hy _ (by rw [hu]; rfl) _ (Same.refl _)⟩
      · intro H5 s5 at5
        have e6 : ((ps.map V.ref).take i).length = (os.take i).length := by rw [List.length_take, List.length_take, List.length_map, len]
        rw [e6, range_mp] at at5
        refine any_map at5 ?_
        rw [ok.apart i o ho]
        walk_at "rd"
        exact s4.trans s5
    · rintro σ H1 ⟨v2, v3, v4, rfl, s1⟩
      walk_at "rd"
      refine ⟨_, _, _, s1 _ _ hb, T.Book.cl, T.a_orders, by decide, ?_⟩
      refine k _ (fun a u ne e => ?_) upd_same
      rw [upd_ne ne]
      exact s1 _ _ e
end
end K47
namespace K47
open PySem PySem.Spec PyProof.Rows L2 StX ClX My
local macro_rules | `(tactic| walk_at "rd") => `(tactic| try simp only [L2.start, List.map_cons, List.map_nil, List.length_cons, List.length_nil, List.cons_append, List.nil_append, List.reduceReplicate, List.replicate_zero, Nat.reduceAdd, Nat.reduceSub,
  List.getElem?_cons_zero, List.getElem?_cons_succ, List.set_cons_zero, List.set_cons_succ, Option.some.injEq, exists_eq_left', exists_eq_left, exists_eq_right, exists_eq_right', V.int.injEq, V.bl.injEq, V.str.injEq, V.ref.injEq, V.ty.injEq, List.cons.injEq, and_true, true_and, and_assoc,
  exists_and_left, exists_const, tVar, tC, tB, tAnd, tOr, tNot, tAndV, tOrV, tNotV, tIf, tSeq, tNext, iStr, iEnumT, iZip, RZ.iZipA, iRev, iList, iTup, iRng1, iRng2, tLc_eq, tDc_eq, tFor_eq, tYes, wipe, tBreak, tCont, tDrop, tRet, tRetN, tIfS, gName, gNil, gCons, gTup, tAsg, tPar, tOp, tUn, rI, rI0, rU, tTest, tChain, tNil, tCons, tTup, tLst, tCB, tFld_eq, tCVal_eq, tProp_eq, tMeth_eq, tMethR_eq, tCMeth, tMakeSL, tDNotIn, tDGet_eq, tDSetd, tDIn_eq, sDPut_eq, tNever, tMakeR_eq, tCKw_eq, tDNewK, tDNewT, tWhile, gSub_eq, tBM_eq, sFld, tPart, tNoPart, tSl, cx_K, cx_w, tCall, cx_K, tCall,
  Bool.false_eq_true, if_true, if_false, ite_true, ite_false, Bool.not_true, Bool.not_false, reduceIte, decide_eq_true_eq, eq_self_iff_true, reduceCtorEq, false_and, and_false, exists_false])
local macro_rules | `(tactic| walk_at "go") => `(tactic| (repeat (first | refine ixT_of (by assumption) (by rfl) ?_ | refine eqI_of ?_ | refine eqS_of ?_ | refine neI_of ?_); try walk_at "rd"))
theorem make_book {C : Addr} {H1 : Hp} {ps : List Addr} {os : List Ord} {Q : VK} {E : XK} (h : Paired (OrdAt H1) ps os) (ok : OkB os) (k : ∀ b H', Same H1 H' → BookAt C H' b os → Q (.ref b) H') :
    rMake C (sp_initR C) E (ps.map V.ref) H1 Q := by
  intro x dx nx nd ne
  have s0 : Same H1 (upd (upd H1 dx (.own x)) x (.ins C dx [])) := fun b o e => by
    rw [upd_ne (ne_of_none e nx), upd_ne (ne_of_none e nd)]
    exact e
  generalize e0 : upd (upd H1 dx (.own x)) x (.ins C dx []) = H2 at s0
  have at2 : H2 x = some (.ins C dx []) := by rw [← e0]; exact upd_same
  have len : ps.length = os.length := Paired.length h
  have l30 := ok.len
  refine ⟨[V.ref x], ps.map V.ref, rfl, rfl, by rw [List.length_map, len]; exact Nat.le_trans l30 (by decide), fun p hp => ?_⟩
  have s1 : Same H2 (upd H2 p (.tup (ps.map V.ref))) := fun b o e => by
    rw [upd_ne (ne_of_none e hp)]
    exact e
  refine ⟨x, p, dx, os, rfl, s1 _ _ at2, ⟨ps, upd_same, ordsUp (SameN.of (s0.trans s1)) h⟩, ok, fun H' kp at' => ⟨rfl, k x H' ?_ ?_⟩⟩
  · intro b o e
    have nb : b ≠ x := ne_of_none e nx
    exact kp b o nb (s1 _ _ (s0 _ _ e))
  · have np : p ≠ x := fun z => by
      rw [z, at2] at hp
      cases hp
    refine ⟨dx, p, at', ps, kp p _ np upd_same, ?_⟩
    refine Paired.mp (fun q o e => ?_) h
    have nq : q ≠ x := ne_of_none e nx
    exact kp q _ nq (s1 _ _ (s0 _ _ e))
def sp_law_book (C : Addr) : Sp := fun vs H Q _ => ∃ l os, vs = [.ref l] ∧ LstAt H l os ∧ OkB os ∧ ∀ b H', Same H H' → BookAt C H' b os → Q (.ref b) H'
theorem OkB.nil : OkB [] := ⟨by decide, fun i o e => by simp at e, fun i o e => by simp at e⟩
theorem OkB.one {os : List Ord} (h : OkB os) {i : Nat} {o : Ord} (e : os[i]? = some o) : OkB [o] := by
  refine ⟨by show 1 ≤ 30; decide, fun j u q => ?_, fun j u q => ?_⟩
  · cases j with
    | zero =>
      simp at q
      subst q
      exact h.each i _ e
    | succ j => simp at q
  · cases j with
    | zero => rfl
    | succ j => simp at q
theorem take_one {α : Type} {l : List α} {i : Nat} {a : α} (h : l[i]? = some a) : l.take (i + 1) = l.take i ++ [a] := by
  rw [List.take_add_one, h]
  rfl
section
variable {P : Program} {w : World} {K : PySem.W.Frag} {mg : Str → Option Value} {base : Heap}
theorem ok_add (T : Txt K mg) : FnOk P w K mg base (L2.CX P w) 7 T.Book_add.f T.Book_add.fd ["self", "other"] (sp_add T.Book.C) := by
  have G_Book_init := ok_init (P := P) (w := w) (base := base) T
  have G_Book_orders := ok_orders (P := P) (w := w) (base := base) T
  refine T.Book_add.F.okX sc_Book_add (fun vs H Q E h => ?_) (fun cdv A outer s H vs Q E hr h => ?_)
  · obtain ⟨a, b, xs, ys, rfl, _⟩ := h
    rfl
  · obtain ⟨a, b, xs, ys, rfl, ⟨da, ta, ha, pa, hta, hpa⟩, ⟨db, tb, hb, pb, htb, hpb⟩, ok, k⟩ := h
    refine ⟨_, (pss_cons (ps_if (pt_not (pt_val (pe_callB (C8.call_isC T.is_Book) (by rfl) T.n_isinstance (by decide +kernel) (pa_cons (pv 1) (pa_cons (pe_gC T.Book.mg) pa_nil)))))
    (pss_one (ps_never))
    pss_nil)
  (pss_cons (ps_set (i := 2) sc_Book_add.nd rfl (Or.inl rfl) (pe_op op_catA (pe_fld (pv 0) rfl) (pe_prop (pv 1) T.Book.cl T.p_orders.P G_Book_orders (hr.mono (by first | decide | omega)) T.p_orders.b .nil passF rfl)))
  (pss_one (ps_ret (pe_makeS T.Book_init.new G_Book_init (hr.mono (by first | decide | omega)) rfl T.Book.mg passF (pv 2)))))), ?_⟩
    walk_at "rd"
    refine ⟨_, _, hb, ?_⟩
    walk_at "rd"
    refine fld_of ha T.Book.cl T.a_orders rfl (prop_of hb ⟨_, _, _, rfl, hb, ?_⟩)
    have l1 : pa.length = xs.length := Paired.length hpa
    have l2 : pb.length = ys.length := Paired.length hpb
    have l30 := ok.len
    rw [List.length_append] at l30
    refine catA_of hta htb (by rw [List.length_map, List.length_map]; exact Nat.le_trans (by omega) (by decide : 30 ≤ sizeLine)) fun p H1 s1 hp => ?_
    walk_at "rd"
    refine ⟨_, .inl (SqT.of hp), ?_⟩
    rw [← List.map_append]
    exact make_book (Paired.app (ordsUp (SameN.of s1) hpa) (ordsUp (SameN.of s1) hpb)) ok fun c H' s2 hc => k c H' (s1.trans s2) hc
end
end K47
namespace K47
open PySem PySem.Spec PyProof.Rows L2 StX ClX My
/-! ### letters on their way: steps, walks, loops -/
abbrev Pt := Str × Int
def Ord.holds (o : Ord) (a : Str) (d : Int) : Bool := decide (o.src = a) && (decide (o.fst ≤ d) && decide (d ≤ o.lst))
def step (os : List Ord) (p : Pt) : Option Pt := (os.find? fun o => o.holds p.1 p.2).map fun o => (o.tgt, p.2 + o.way)
inductive Goes (os : List Ord) : Nat → Pt → Pt → Prop
  | zero (p : Pt) : Goes os 0 p p
  | succ {n : Nat} {p q r : Pt} (h : step os p = some q) (t : Goes os n q r) : Goes os (n + 1) p r
theorem Goes.trans {os : List Ord} {m n : Nat} {p q r : Pt} (a : Goes os m p q) (b : Goes os n q r) : Goes os (m + n) p r := by
  induction a with
  | zero p => rw [Nat.zero_add]; exact b
  | succ h _ ih => rw [Nat.add_right_comm]; exact .succ h (ih b)
theorem Goes.snoc {os : List Ord} {n : Nat} {p q r : Pt} (a : Goes os n p q) (h : step os q = some r) : Goes os (n + 1) p r := a.trans (.succ h (.zero r))
theorem Goes.det {os : List Ord} {n : Nat} {p q r : Pt} (a : Goes os n p q) (b : Goes os n p r) : q = r := by
  induction a with
  | zero p => cases b; rfl
  | succ h _ ih =>
    cases b with
    | succ h' t' =>
      rw [h] at h'
      cases h'
      exact ih t'
theorem Goes.split {os : List Ord} {m n : Nat} {p r : Pt} (a : Goes os (m + n) p r) : ∃ q, Goes os m p q ∧ Goes os n q r := by
  induction m generalizing p with
  | zero => rw [Nat.zero_add] at a; exact ⟨p, .zero p, a⟩
  | succ m ih =>
    rw [Nat.add_right_comm] at a
    cases a with
    | succ h t =>
      obtain ⟨q, h1, h2⟩ := ih t
      exact ⟨q, .succ h h1, h2⟩
/-- a letter's end by at most n orders is q, by k of them -/
structure EndsBy (os : List Ord) (n : Nat) (p q : Pt) (k : Nat) : Prop where
  goes : Goes os k p q
  le : k ≤ n
  stop : k = n ∨ step os q = none
theorem EndsBy.det {os : List Ord} {n k k' : Nat} {p q q' : Pt} (a : EndsBy os n p q k) (b : EndsBy os n p q' k') : q = q' ∧ k = k' := by
  have main : ∀ {i j : Nat} {u v : Pt}, Goes os i p u → Goes os j p v → i ≤ j → (i = n ∨ step os u = none) → j ≤ n → u = v ∧ i = j := by
    intro i j u v h1 h2 le st ln
    obtain ⟨d, rfl⟩ : ∃ d, j = i + d := ⟨j - i, by omega⟩
    obtain ⟨u', h3, h4⟩ := h2.split
    have e := h1.det h3
    subst e
    cases d with
    | zero => cases h4; exact ⟨rfl, rfl⟩
    | succ d =>
      rcases st with z | z
      · omega
      · cases h4 with
        | succ h t => rw [z] at h; cases h
  by_cases c : k ≤ k'
  · exact main a.goes b.goes c a.stop b.le
  · obtain ⟨h1, h2⟩ := main b.goes a.goes (by omega) b.stop a.le
    exact ⟨h1.symm, h2.symm⟩
theorem okO_day {o : Ord} (h : okO o = true) : 0 ≤ o.fst ∧ o.fst ≤ o.lst ∧ o.lst ≤ dayM ∧ 1 ≤ o.way ∧ o.way ≤ 30 := by
  simp only [okO, numB, Bool.and_eq_true, Bool.not_eq_true', decide_eq_true_eq, decide_eq_false_iff_not] at h
  obtain ⟨⟨_, ⟨⟨h1, h2⟩, ⟨h3, h4⟩⟩, h5⟩, h6, h7⟩ := h
  refine ⟨h1, by omega, h4, h6, h7⟩
theorem OkB.mem {os : List Ord} (ok : OkB os) {o : Ord} (h : o ∈ os) : okO o = true := by
  obtain ⟨i, e⟩ := List.getElem?_of_mem h
  exact ok.each i o e
/-- no two orders of a valid book send on what arrives at one address on one day -/
theorem OkB.uniq {os : List Ord} (ok : OkB os) {o u : Ord} {a : Str} {d : Int} (h1 : o ∈ os) (h2 : u ∈ os) (e1 : o.holds a d = true) (e2 : u.holds a d = true) : o = u := by
  have sh : ∀ x y : Ord, x.holds a d = true → y.holds a d = true → share x y = true := by
    intro x y hx hy
    simp only [Ord.holds, Bool.and_eq_true, decide_eq_true_eq] at hx hy
    simp only [share, Bool.and_eq_true, decide_eq_true_eq]
    obtain ⟨a1, a2, a3⟩ := hx
    obtain ⟨b1, b2, b3⟩ := hy
    exact ⟨by rw [a1, b1], by omega, by omega⟩
  have main : ∀ {i j : Nat} {x y : Ord}, os[i]? = some x → os[j]? = some y → i < j → x.holds a d = true → y.holds a d = true → False := by
    intro i j x y hi hj lt hx hy
    have n := ok.apart j y hj
    have m : x ∈ os.take j := by
      have e : (os.take j)[i]? = some x := by rw [List.getElem?_take, if_pos lt]; exact hi
      exact List.mem_of_getElem? e
    have := List.any_eq_false.mp n x m
    exact this (sh y x hy hx)
  obtain ⟨i, hi⟩ := List.getElem?_of_mem h1
  obtain ⟨j, hj⟩ := List.getElem?_of_mem h2
  rcases Nat.lt_trichotomy i j with lt | eq | gt
  · exact (main hi hj lt e1 e2).elim
  · subst eq
    rw [hi] at hj
    exact Option.some.inj hj
  · exact (main hj hi gt e2 e1).elim
theorem OkB.find {os : List Ord} (ok : OkB os) {o : Ord} {a : Str} {d : Int} (h : o ∈ os) (e : o.holds a d = true) : (os.find? fun u => u.holds a d) = some o := by
  cases f : os.find? fun u => u.holds a d with
  | none => exact absurd e (by have := List.find?_eq_none.mp f o h; simpa using this)
  | some u =>
    have h1 := List.find?_some f
    have h2 := List.mem_of_find?_eq_some f
    rw [ok.uniq h2 h h1 e]
theorem OkB.way {os : List Ord} (ok : OkB os) {p q : Pt} (h : step os p = some q) : p.2 + 1 ≤ q.2 ∧ q.2 ≤ p.2 + 30 ∧ 0 ≤ p.2 ∧ p.2 ≤ dayM := by
  unfold step at h
  cases f : os.find? fun o => o.holds p.1 p.2 with
  | none => rw [f] at h; cases h
  | some o =>
    rw [f] at h
    have e := Option.some.inj h
    have d := okO_day (ok.mem (List.mem_of_find?_eq_some f))
    have hh := List.find?_some f
    simp only [Ord.holds, Bool.and_eq_true, decide_eq_true_eq] at hh
    rw [← e]
    dsimp only
    omega
/-! steps by the orders that hold on one day, up to the last day of them; S a: the target, the way and the number of the order of a -/
abbrev SD := Str → Option (Str × Int × Nat)
inductive GoesT (S : SD) (L : Int) : List Str → Pt → Pt → Prop
  | zero (p : Pt) : GoesT S L [] p p
  | snoc {tr : List Str} {p q : Pt} {t : Str} {w : Int} {i : Nat} (a : GoesT S L tr p q) (le : q.2 ≤ L) (h : S q.1 = some (t, w, i)) : GoesT S L (tr ++ [q.1]) p (t, q.2 + w)
def PosS (S : SD) : Prop := ∀ a t w i, S a = some (t, w, i) → 1 ≤ w
theorem GoesT.trans {S : SD} {L : Int} {m n : List Str} {p q r : Pt} (a : GoesT S L m p q) (b : GoesT S L n q r) : GoesT S L (m ++ n) p r := by
  induction b with
  | zero p => simpa using a
  | snoc _ le h ih =>
    rw [← List.append_assoc]
    exact .snoc (ih a) le h
theorem GoesT.mono {S : SD} {L : Int} {n : List Str} {p q : Pt} (pos : PosS S) (a : GoesT S L n p q) : p.2 + n.length ≤ q.2 := by
  induction a with
  | zero p => simp
  | snoc _ le h ih =>
    have := pos _ _ _ _ h
    simp only [List.length_append, List.length_cons, List.length_nil]
    omega
theorem GoesT.shift {S : SD} {L : Int} {n : List Str} {p q : Pt} (pos : PosS S) (a : GoesT S L n p q) (t : Int) (t0 : 0 ≤ t) (le : q.2 + t ≤ L ∨ n = []) :
    GoesT S L n (p.1, p.2 + t) (q.1, q.2 + t) := by
  induction a with
  | zero p => exact .zero _
  | @snoc m q0 p0 tt w i a le0 h ih =>
    have w1 := pos _ _ _ _ h
    have le1 : p0.2 + w + t ≤ L := by
      rcases le with z | z
      · exact z
      · simp at z
    have z := GoesT.snoc (q := (p0.1, p0.2 + t)) (ih (.inl (by omega))) (by dsimp only; omega) h
    have e : p0.2 + w + t = p0.2 + t + w := by omega
    show GoesT S L (m ++ [p0.1]) _ (tt, p0.2 + w + t)
    rw [e]
    exact z
def rep {α : Type} : Nat → List α → List α
  | 0, _ => []
  | r + 1, l => rep r l ++ l
theorem rep_len {α : Type} (r : Nat) (l : List α) : (rep r l).length = r * l.length := by
  induction r with
  | zero => simp [rep]
  | succ r ih => rw [rep, List.length_append, ih, Nat.succ_mul]
theorem rep_mem {α : Type} {r : Nat} {l : List α} {x : α} (h : x ∈ rep r l) : x ∈ l := by
  induction r with
  | zero => simp [rep] at h
  | succ r ih =>
    rcases List.mem_append.mp h with z | z
    · exact ih z
    · exact z
theorem GoesT.rounds {S : SD} {L : Int} {n : List Str} {a : Str} {d0 d : Int} (pos : PosS S) (h : GoesT S L n (a, d0) (a, d)) (r : Nat) (le : d + r * (d - d0) ≤ L) :
    GoesT S L (rep r n) (a, d) (a, d + r * (d - d0)) := by
  have m := h.mono pos
  dsimp only at m
  induction r with
  | zero =>
    have e : d + ((0 : Nat) : Int) * (d - d0) = d := by simp
    rw [e]
    exact .zero _
  | succ r ih =>
    have e1 : ((r + 1 : Nat) : Int) * (d - d0) = r * (d - d0) + (d - d0) := by
      rw [Int.natCast_succ, Int.add_mul, Int.one_mul]
    rw [e1] at le ⊢
    have nn : 0 ≤ (r : Int) * (d - d0) := Int.mul_nonneg (Int.natCast_nonneg r) (by omega)
    have a1 := ih (by omega)
    have a2 := h.shift pos (r * (d - d0) + (d - d0)) (by omega) (.inl (by dsimp only; omega))
    dsimp only at a2
    have e2 : d0 + (r * (d - d0) + (d - d0)) = d + r * (d - d0) := by omega
    rw [e2] at a2
    exact a1.trans a2
/-- each place is on the way -/
theorem GoesT.on {S : SD} {L : Int} {tr : List Str} {p q : Pt} (h : GoesT S L tr p q) : ∀ a ∈ tr, S a ≠ none := by
  induction h with
  | zero => intro a h; simp at h
  | snoc _ _ h ih =>
    intro a m
    rcases List.mem_append.mp m with z | z
    · exact ih a z
    · rw [List.mem_singleton.mp z, h]
      simp
/-- the addresses in the sequence of their first times -/
def addF (l : List Str) (a : Str) : List Str := if a ∈ l then l else l ++ [a]
def nubF (tr : List Str) : List Str := tr.foldl addF []
theorem nubF_snoc (tr : List Str) (a : Str) : nubF (tr ++ [a]) = addF (nubF tr) a := by simp [nubF]
theorem mem_addF {l : List Str} {a x : Str} : x ∈ addF l a ↔ x ∈ l ∨ x = a := by
  unfold addF
  split
  · exact ⟨.inl, fun h => h.elim id fun e => e ▸ ‹_›⟩
  · simp
theorem mem_foldF {tr : List Str} : ∀ {l : List Str} {x : Str}, x ∈ tr.foldl addF l ↔ x ∈ l ∨ x ∈ tr := by
  induction tr with
  | nil => simp
  | cons a tr ih =>
    intro l x
    rw [List.foldl_cons, ih, mem_addF, List.mem_cons]
    constructor
    · rintro ((h | h) | h)
      · exact .inl h
      · exact .inr (.inl h)
      · exact .inr (.inr h)
    · rintro (h | h | h)
      · exact .inl (.inl h)
      · exact .inl (.inr h)
      · exact .inr h
theorem mem_nubF {tr : List Str} {x : Str} : x ∈ nubF tr ↔ x ∈ tr := by
  unfold nubF
  rw [mem_foldF]
  simp
theorem nubF_app {tr ur : List Str} (h : ∀ x ∈ ur, x ∈ tr) : nubF (tr ++ ur) = nubF tr := by
  have go : ∀ (ur l : List Str), (∀ x ∈ ur, x ∈ l) → ur.foldl addF l = l := by
    intro ur
    induction ur with
    | nil => intro l _; rfl
    | cons a ur ih =>
      intro l h
      have e : addF l a = l := by unfold addF; rw [if_pos (h a List.mem_cons_self)]
      rw [List.foldl_cons, e]
      exact ih l fun x hx => h x (List.mem_cons_of_mem _ hx)
  show (tr ++ ur).foldl addF [] = _
  rw [List.foldl_append]
  exact go ur _ fun x hx => mem_foldF.mpr (.inr (h x hx))
theorem nubF_nodup (tr : List Str) : (nubF tr).Nodup := by
  have go : ∀ (tr l : List Str), l.Nodup → (tr.foldl addF l).Nodup := by
    intro tr
    induction tr with
    | nil => intro l h; exact h
    | cons a tr ih =>
      intro l h
      refine ih _ ?_
      unfold addF
      split
      · exact h
      · rename_i n
        exact List.nodup_append.mpr ⟨h, List.nodup_cons.mpr ⟨by simp, List.nodup_nil⟩, fun x hx y hy e => n (by rw [List.mem_singleton.mp hy] at e; exact e ▸ hx)⟩
  exact go tr [] List.nodup_nil
/-- what the orders that hold on a day say, with their numbers -/
def sendI (os : List Ord) (day : Int) : SD := fun a => (os.findIdx? fun o => o.holds a day).bind fun i => os[i]?.map fun o => (o.tgt, o.way, i)
theorem OkB.uniqI {os : List Ord} (ok : OkB os) {i j : Nat} {o u : Ord} {a : Str} {d : Int} (hi : os[i]? = some o) (hj : os[j]? = some u) (e1 : o.holds a d = true) (e2 : u.holds a d = true) : i = j := by
  have sh : ∀ x y : Ord, x.holds a d = true → y.holds a d = true → share x y = true := by
    intro x y hx hy
    simp only [Ord.holds, Bool.and_eq_true, decide_eq_true_eq] at hx hy
    simp only [share, Bool.and_eq_true, decide_eq_true_eq]
    obtain ⟨a1, a2, a3⟩ := hx
    obtain ⟨b1, b2, b3⟩ := hy
    exact ⟨by rw [a1, b1], by omega, by omega⟩
  have main : ∀ {i j : Nat} {x y : Ord}, os[i]? = some x → os[j]? = some y → i < j → x.holds a d = true → y.holds a d = true → False := by
    intro i j x y hi hj lt hx hy
    have n := ok.apart j y hj
    have m : x ∈ os.take j := by
      have e : (os.take j)[i]? = some x := by rw [List.getElem?_take, if_pos lt]; exact hi
      exact List.mem_of_getElem? e
    have := List.any_eq_false.mp n x m
    exact this (sh y x hy hx)
  rcases Nat.lt_trichotomy i j with lt | eq | gt
  · exact (main hi hj lt e1 e2).elim
  · exact eq
  · exact (main hj hi gt e2 e1).elim
theorem sendI_none {os : List Ord} {day : Int} {a : Str} : sendI os day a = none ↔ ∀ o ∈ os, o.holds a day = false := by
  unfold sendI
  cases f : os.findIdx? fun o => o.holds a day with
  | none =>
    have := List.findIdx?_eq_none_iff.mp f
    simp only [Option.bind_none, true_iff]
    intro o ho
    exact this o ho
  | some i =>
    obtain ⟨h, e, _⟩ := List.findIdx?_eq_some_iff_getElem.mp f
    simp only [Option.bind_some, List.getElem?_eq_getElem h, Option.map_some, reduceCtorEq, false_iff]
    intro n
    rw [n _ (List.getElem_mem h)] at e
    cases e
theorem sendI_some {os : List Ord} (ok : OkB os) {day w : Int} {a t : Str} {i : Nat} : sendI os day a = some (t, w, i) ↔ ∃ o, os[i]? = some o ∧ o.holds a day = true ∧ o.tgt = t ∧ o.way = w := by
  constructor
  · intro h
    unfold sendI at h
    cases f : os.findIdx? fun o => o.holds a day with
    | none => rw [f] at h; cases h
    | some j =>
      obtain ⟨hj, e, _⟩ := List.findIdx?_eq_some_iff_getElem.mp f
      rw [f, Option.bind_some, List.getElem?_eq_getElem hj] at h
      simp only [Option.map_some, Option.some.injEq, Prod.mk.injEq] at h
      obtain ⟨h1, h2, rfl⟩ := h
      exact ⟨os[j], List.getElem?_eq_getElem hj, e, h1, h2⟩
  · rintro ⟨o, ho, hh, rfl, rfl⟩
    cases c : sendI os day a with
    | none =>
      have := sendI_none.mp c o (List.mem_of_getElem? ho)
      rw [hh] at this
      cases this
    | some x =>
      unfold sendI at c
      cases f : os.findIdx? fun o => o.holds a day with
      | none => rw [f] at c; cases c
      | some j =>
        obtain ⟨hj, e, _⟩ := List.findIdx?_eq_some_iff_getElem.mp f
        have ij := ok.uniqI ho (List.getElem?_eq_getElem hj) hh e
        subst ij
        rw [f, Option.bind_some, ho] at c
        exact c.symm
theorem step_sendI {os : List Ord} (ok : OkB os) {a : Str} {d : Int} : step os (a, d) = (sendI os d a).map fun x => (x.1, d + x.2.1) := by
  cases c : sendI os d a with
  | none =>
    unfold step
    rw [List.find?_eq_none.mpr fun o ho => by
      dsimp only
      rw [sendI_none.mp c o ho]
      simp]
    rfl
  | some x =>
    obtain ⟨t, w, i⟩ := x
    obtain ⟨o, ho, hh, rfl, rfl⟩ := (sendI_some ok).mp c
    unfold step
    dsimp only
    rw [ok.find (List.mem_of_getElem? ho) hh]
    rfl
theorem step_none {os : List Ord} (ok : OkB os) {b : Str} {e : Int} : step os (b, e) = none ↔ sendI os e b = none := by
  rw [step_sendI ok]
  cases sendI os e b <;> simp
theorem sendI_stays {os : List Ord} (ok : OkB os) {day L : Int} (hL : ∀ o ∈ os, o.fst ≤ day → day ≤ o.lst → L ≤ o.lst) {a t : Str} {w d : Int} {i : Nat} (h : sendI os day a = some (t, w, i)) (d0 : day ≤ d) (d1 : d ≤ L) :
    sendI os d a = some (t, w, i) := by
  obtain ⟨o, ho, hh, rfl, rfl⟩ := (sendI_some ok).mp h
  refine (sendI_some ok).mpr ⟨o, ho, ?_, rfl, rfl⟩
  simp only [Ord.holds, Bool.and_eq_true, decide_eq_true_eq] at hh ⊢
  have := hL o (List.mem_of_getElem? ho) hh.2.1 hh.2.2
  exact ⟨hh.1, by omega, by omega⟩
theorem sendI_step {os : List Ord} (ok : OkB os) {day L : Int} (hL : ∀ o ∈ os, o.fst ≤ day → day ≤ o.lst → L ≤ o.lst) {a t : Str} {w d : Int} {i : Nat} (h : sendI os day a = some (t, w, i)) (d0 : day ≤ d) (d1 : d ≤ L) :
    step os (a, d) = some (t, d + w) := by
  rw [step_sendI ok, sendI_stays ok hL h d0 d1]
  rfl
theorem sendI_pos {os : List Ord} (ok : OkB os) {day : Int} : PosS (sendI os day) := by
  intro a t w i h
  obtain ⟨o, ho, hh, rfl, rfl⟩ := (sendI_some ok).mp h
  have d := okO_day (ok.mem (List.mem_of_getElem? ho))
  omega
theorem GoesT.goes {os : List Ord} (ok : OkB os) {day L : Int} (hL : ∀ o ∈ os, o.fst ≤ day → day ≤ o.lst → L ≤ o.lst) {n : List Str} {p q : Pt} (h : GoesT (sendI os day) L n p q) (d0 : day ≤ p.2) : Goes os n.length p q := by
  induction h with
  | zero p => exact .zero p
  | @snoc m _ q0 _ _ _ a le h ih =>
    have mm := a.mono (sendI_pos ok)
    rw [List.length_append]
    exact (ih d0).snoc (sendI_step ok hL h (by omega) le)
theorem holds_app {os : List Ord} {o : Ord} {day : Int} {a : Str} (ok : OkB (os ++ [o])) : sendI (os ++ [o]) day a = if o.holds a day = true then some (o.tgt, o.way, os.length) else sendI os day a := by
  have ok1 : OkB os := by simpa using ok.take os.length
  split
  · rename_i h
    exact (sendI_some ok).mpr ⟨o, by simp, h, rfl, rfl⟩
  · rename_i h
    cases c : sendI os day a with
    | none =>
      refine sendI_none.mpr fun u hu => ?_
      rcases List.mem_append.mp hu with z | z
      · exact sendI_none.mp c u z
      · rw [List.mem_singleton.mp z]
        simpa using h
    | some x =>
      obtain ⟨t, w, i⟩ := x
      obtain ⟨u, hu, hh, rfl, rfl⟩ := (sendI_some ok1).mp c
      refine (sendI_some ok).mpr ⟨u, ?_, hh, rfl, rfl⟩
      rw [List.getElem?_append_left (List.getElem?_eq_some_iff.mp hu).1]
      exact hu
end K47
namespace K47
open PySem PySem.Spec PyProof.Rows L2 StX ClX My
local macro_rules | `(tactic| walk_at "rd") => `(tactic| try simp only [L2.start, List.map_cons, List.map_nil, List.length_cons, List.length_nil, List.cons_append, List.nil_append, List.reduceReplicate, List.replicate_zero, Nat.reduceAdd, Nat.reduceSub,
  List.getElem?_cons_zero, List.getElem?_cons_succ, List.set_cons_zero, List.set_cons_succ, Option.some.injEq, exists_eq_left', exists_eq_left, exists_eq_right, exists_eq_right', V.int.injEq, V.bl.injEq, V.str.injEq, V.ref.injEq, V.ty.injEq, List.cons.injEq, and_true, true_and, and_assoc,
  exists_and_left, exists_const, tVar, tC, tB, tAnd, tOr, tNot, tAndV, tOrV, tNotV, tIf, tSeq, tNext, iStr, iEnumT, iZip, RZ.iZipA, iRev, iList, iTup, iRng1, iRng2, tLc_eq, tDc_eq, tFor_eq, tYes, wipe, tBreak, tCont, tDrop, tRet, tRetN, tIfS, gName, gNil, gCons, gTup, tAsg, tPar, tOp, tUn, rI, rI0, rU, tTest, tChain, tNil, tCons, tTup, tLst, tCB, tFld_eq, tCVal_eq, tProp_eq, tMeth_eq, tMethR_eq, tCMeth, tMakeSL, tDNotIn, tDGet_eq, tDSetd, tDIn_eq, sDPut_eq, tNever, tMakeR_eq, tCKw_eq, tDNewK, tDNewT, tWhile, gSub_eq, tBM_eq, sFld, tPart, tNoPart, tSl, cx_K, cx_w, tCall, cx_K, tCall,
  Bool.false_eq_true, if_true, if_false, ite_true, ite_false, Bool.not_true, Bool.not_false, reduceIte, decide_eq_true_eq, eq_self_iff_true, reduceCtorEq, false_and, and_false, exists_false])
local macro_rules | `(tactic| walk_at "go") => `(tactic| (repeat (first | refine ixT_of (by assumption) (by rfl) ?_ | refine eqI_of ?_ | refine eqS_of ?_ | refine neI_of ?_); try walk_at "rd"))
/-! ### letters -/
def okD (d : Int) : Prop := 0 ≤ d ∧ d ≤ dayM
def LetAt (H : Hp) (p : Addr) (l : Pt) : Prop := H p = some (.tup [.str l.1, .int l.2])
def sp_check_address : Sp := fun vs H Q _ => ∃ a, vs = [.str a] ∧ adrB (.str a) = true ∧ ∀ H', Same H H' → Q .non H'
def sp_check_day : Sp := fun vs H Q _ => ∃ d, vs = [.int d] ∧ okD d ∧ ∀ H', Same H H' → Q .non H'
def sp_check_letter : Sp := fun vs H Q _ => ∃ a d, vs = [.str a, .int d] ∧ adrB (.str a) = true ∧ okD d ∧ ∀ H', Same H H' → Q .non H'
def sp_check_pair : Sp := fun vs H Q _ => ∃ p l, vs = [.ref p] ∧ LetAt H p l ∧ adrB (.str l.1) = true ∧ okD l.2 ∧ ∀ H', Same H H' → Q .non H'
theorem numD {d : Int} (h : okD d) : numB (.int d) 0 dayM = true := by
  unfold okD at h
  simp [numB, h.1, h.2]
def LetsAt (H : Hp) (ps : List Addr) (as : List Pt) : Prop := Paired (fun p u => H p = some (.tup [.str u.1, .int u.2])) ps as
theorem LetsAt.up {H H' : Hp} {ps : List Addr} {as : List Pt} (s : SameN H H') (h : LetsAt H ps as) : LetsAt H' ps as := Paired.mp (fun a b r => s a (.tup [.str b.1, .int b.2]) r trivial) h
section
variable {P : Program} {w : World} {K : PySem.W.Frag} {mg : Str → Option Value} {base : Heap}
theorem ok_check_address (T : Txt K mg) : FnOk P w K mg base (L2.CX P w) 2 T.check_address.f T.check_address.fd ["address"] sp_check_address := by
  have G_is_address := ok_is_address (P := P) (w := w) (base := base) T
  refine T.check_address.F.okX sc_check_address (fun vs H Q E h => ?_) (fun cdv A outer s H vs Q E hr h => ?_)
  · obtain ⟨a, rfl, _⟩ := h
    rfl
  · obtain ⟨a, rfl, ha, k⟩ := h
    refine ⟨_, (pss_one (ps_if (pt_not (pt_val (pe_call G_is_address (hr.mono (by first | decide | omega)) rfl T.is_address.mg T.is_address.F.kp T.is_address.b .nil passF (pa_cons (pv 0) pa_nil))))
    (pss_one (ps_never))
    pss_nil)), ?_⟩
    walk_at "rd"
    refine ⟨_, _, rfl, .str _ (len8 ha), fun H1 s1 => ?_⟩
    rw [ha]
    walk_at "rd"
    exact k H1 s1
theorem ok_check_day (T : Txt K mg) : FnOk P w K mg base (L2.CX P w) 3 T.check_day.f T.check_day.fd ["day"] sp_check_day := by
  have G_is_day := ok_is_day (P := P) (w := w) (base := base) T
  refine T.check_day.F.okX sc_check_day (fun vs H Q E h => ?_) (fun cdv A outer s H vs Q E hr h => ?_)
  · obtain ⟨d, rfl, _⟩ := h
    rfl
  · obtain ⟨d, rfl, hd, k⟩ := h
    refine ⟨_, (pss_one (ps_if (pt_not (pt_val (pe_call G_is_day (hr.mono (by first | decide | omega)) rfl T.is_day.mg T.is_day.F.kp T.is_day.b .nil passF (pa_cons (pv 0) pa_nil))))
    (pss_one (ps_never))
    pss_nil)), ?_⟩
    walk_at "rd"
    refine ⟨_, _, rfl, .int _, ?_⟩
    rw [numD hd]
    walk_at "rd"
    exact k H (Same.refl H)
theorem ok_check_letter (T : Txt K mg) : FnOk P w K mg base (L2.CX P w) 4 T.check_letter.f T.check_letter.fd ["address", "day"] sp_check_letter := by
  have G_check_address := ok_check_address (P := P) (w := w) (base := base) T
  have G_check_day := ok_check_day (P := P) (w := w) (base := base) T
  refine T.check_letter.F.okX sc_check_letter (fun vs H Q E h => ?_) (fun cdv A outer s H vs Q E hr h => ?_)
  · obtain ⟨a, d, rfl, _⟩ := h
    rfl
  · obtain ⟨a, d, rfl, ha, hd, k⟩ := h
    refine ⟨_, (pss_cons (ps_expr (pe_call G_check_address (hr.mono (by first | decide | omega)) rfl T.check_address.mg T.check_address.F.kp T.check_address.b .nil passF (pa_cons (pv 0) pa_nil)))
  (pss_one (ps_expr (pe_call G_check_day (hr.mono (by first | decide | omega)) rfl T.check_day.mg T.check_day.F.kp T.check_day.b .nil passF (pa_cons (pv 1) pa_nil))))), ?_⟩
    walk_at "rd"
    refine ⟨a, rfl, ha, fun H1 s1 => ?_⟩
    walk_at "rd"
    exact ⟨d, rfl, hd, fun H2 s2 => k H2 (s1.trans s2)⟩
end
end K47
namespace K47
open PySem PySem.Spec PyProof.Rows L2 StX ClX My
local macro_rules | `(tactic| walk_at "rd") => `(tactic| try simp only [L2.start, List.map_cons, List.map_nil, List.length_cons, List.length_nil, List.cons_append, List.nil_append, List.reduceReplicate, List.replicate_zero, Nat.reduceAdd, Nat.reduceSub,
  List.getElem?_cons_zero, List.getElem?_cons_succ, List.set_cons_zero, List.set_cons_succ, Option.some.injEq, exists_eq_left', exists_eq_left, exists_eq_right, exists_eq_right', V.int.injEq, V.bl.injEq, V.str.injEq, V.ref.injEq, V.ty.injEq, List.cons.injEq, and_true, true_and, and_assoc,
  exists_and_left, exists_const, tVar, tC, tB, tAnd, tOr, tNot, tAndV, tOrV, tNotV, tIf, tSeq, tNext, iStr, iEnumT, iZip, RZ.iZipA, iRev, iList, iTup, iRng1, iRng2, tLc_eq, tDc_eq, tFor_eq, tYes, wipe, tBreak, tCont, tDrop, tRet, tRetN, tIfS, gName, gNil, gCons, gTup, tAsg, tPar, tOp, tUn, rI, rI0, rU, tTest, tChain, tNil, tCons, tTup, tLst, tCB, tFld_eq, tCVal_eq, tProp_eq, tMeth_eq, tMethR_eq, tCMeth, tMakeSL, tDNotIn, tDGet_eq, tDSetd, tDIn_eq, sDPut_eq, tNever, tMakeR_eq, tCKw_eq, tDNewK, tDNewT, tWhile, gSub_eq, tBM_eq, sFld, tPart, tNoPart, tSl, cx_K, cx_w, tCall, cx_K, tCall,
  Bool.false_eq_true, if_true, if_false, ite_true, ite_false, Bool.not_true, Bool.not_false, reduceIte, decide_eq_true_eq, eq_self_iff_true, reduceCtorEq, false_and, and_false, exists_false])
local macro_rules | `(tactic| walk_at "go") => `(tactic| (repeat (first | refine ixT_of (by assumption) (by rfl) ?_ | refine eqI_of ?_ | refine eqS_of ?_ | refine neI_of ?_); try walk_at "rd"))
/-- a dict of what is sent on: from a source to the target, the way and the number -/
def SendAt (H : Hp) (D : Addr) (S : SD) : Prop := ∃ kvs, H D = some (.dK kvs) ∧ kvs.length ≤ 30 ∧
  ∀ a, match S a with
    | none => valV kvs (Sum.inr a) = none
    | some (t, w, i) => ∃ p, valV kvs (Sum.inr a) = some (.ref p) ∧ H p = some (.tup [.str t, .int w, .int (i : Nat)])
def sp_holding (C : Addr) : Sp := fun vs H Q _ => ∃ b os day, vs = [.ref b, .int day] ∧ BookAt C H b os ∧ OkB os ∧
  ∀ p D L H', Same H H' → H' p = some (.tup [.ref D, .int L]) → SendAt H' D (sendI os day) → day ≤ L → (∀ o ∈ os, o.fst ≤ day → day ≤ o.lst → L ≤ o.lst) → Q (.ref p) H'
section
variable {P : Program} {w : World} {K : PySem.W.Frag} {mg : Str → Option Value} {base : Heap}
theorem ok_holding (T : Txt K mg) : FnOk P w K mg base (L2.CX P w) 4 T.holding.f T.holding.fd ["book", "day"] (sp_holding T.Book.C) := by
  have G_Book_orders := ok_orders (P := P) (w := w) (base := base) T
  refine T.holding.F.okX sc_holding (fun vs H Q E h => ?_) (fun cdv A outer s H vs Q E hr h => ?_)
  · obtain ⟨b, os, day, rfl, _⟩ := h
    rfl
  · obtain ⟨b, os, day, rfl, ⟨db, tb, hb, ps, htb, hos⟩, ok, k⟩ := h
    refine ⟨_, (pss_cons (ps_set (i := 2) sc_holding.nd rfl (Or.inl rfl) pe_dnewK)
  (pss_cons (ps_set (i := 3) sc_holding.nd rfl (Or.inl rfl) (pe_lst pa_nil))
  (pss_cons (ps_for (passes_of rfl) rfl (pi_enumT (by rfl) T.n_enumerate (pa_cons (pe_prop (pv 0) T.Book.cl T.p_orders.P G_Book_orders (hr.mono (by first | decide | omega)) T.p_orders.b .nil passF rfl) pa_nil)) (pg_tupK (K := K) (n := 2) rfl rfl (pgs_cons (pg_name (i := 4) sc_holding.nd rfl (Or.inl rfl)) (pgs_cons (pg_name (i := 5) sc_holding.nd rfl (Or.inl rfl)) pgs_nil)))
    (pss_cons (ps_asg (pv 5) (pg_tupK (K := K) (n := 5) rfl rfl (pgs_cons (pg_name (i := 6) sc_holding.nd rfl (Or.inl rfl)) (pgs_cons (pg_name (i := 7) sc_holding.nd rfl (Or.inl rfl)) (pgs_cons (pg_name (i := 8) sc_holding.nd rfl (Or.inl rfl)) (pgs_cons (pg_name (i := 9) sc_holding.nd rfl (Or.inl rfl)) (pgs_cons (pg_name (i := 10) sc_holding.nd rfl (Or.inl rfl)) pgs_nil)))))))
  (pss_one (ps_if (pt_chain op_le op_le (pv 8) (pv 1) (pv 9))
    (pss_cons (ps_dput (hu_of hr) (pv 2) (pv 6) (pe_tup (pa_cons (pv 7) (pa_cons (pv 10) (pa_cons (pv 4) pa_nil)))) rfl)
  (pss_one (ps_expr (pe_bm PySem.F.plainAttrs_list PySem.F.slot_list_append PySem.F.type_list_append mt_append (pv 3) (pa_cons (pv 9) pa_nil)))))
    pss_nil))))
  (pss_one (ps_ret (pe_tup (pa_cons (pv 2) (pa_cons (pe_minDef rfl (hu2 hr) (by rfl) T.n_min (pv 3) (pv 1)) pa_nil)))))))), ?_⟩
    walk_at "rd"
    intro D hD
    refine ⟨by decide, fun LD hLD => ?_⟩
    have nLD : LD ≠ D := fun z => by rw [z, upd_same] at hLD; cases hLD
    have fLD : H LD = none := by rw [upd_ne nLD] at hLD; exact hLD
    have at2 : (upd (upd H D (HO.dK [])) LD (HO.lst [])) LD = some (.lst []) := upd_same
    have at1 : (upd (upd H D (HO.dK [])) LD (HO.lst [])) D = some (.dK []) := by rw [upd_ne (Ne.symm nLD)]; exact upd_same
    have s1 : Same H (upd (upd H D (HO.dK [])) LD (HO.lst [])) := (same_new hD).trans (same_new hLD)
    generalize upd (upd H D (HO.dK [])) LD (HO.lst []) = H1 at at1 at2 s1
    refine prop_of (s1 _ _ hb) ⟨_, _, _, rfl, s1 _ _ hb, ?_⟩
    walk_at "rd"
    have len : ps.length = os.length := Paired.length hos
    have l30 := ok.len
    obtain ⟨W, hW⟩ : ∃ W : Nat → L2.St → Hp → Prop, W = fun i σ H' => ∃ (kvs : List (Key × V)) (ns : List Int) (v4 v5 v6 v7 v8 v9 v10 : Option V),
      σ = [some (.ref b), some (.int day), some (.ref D), some (.ref LD), v4, v5, v6, v7, v8, v9, v10] ∧ Same H H' ∧ H' D = some (.dK kvs) ∧ H' LD = some (.lst (ns.map V.int)) ∧ kvs.length ≤ i ∧ ns.length ≤ i ∧
      (∀ a, match sendI (os.take i) day a with
        | none => valV kvs (Sum.inr a) = none
        | some (t, w, j) => ∃ p, valV kvs (Sum.inr a) = some (.ref p) ∧ H' p = some (.tup [.str t, .int w, .int (j : Nat)])) ∧
      (∀ y ∈ ns, day ≤ y) ∧ (∀ o ∈ os.take i, o.fst ≤ day → day ≤ o.lst → o.lst ∈ ns) := ⟨_, rfl⟩
    refine ⟨_, SqT.of (s1 _ _ htb), for_rel (walk_enumT (K := K) (a := tb) (xs := ps.map V.ref)) W ?_ (fun i σ H' _ h => ?_) ?_ ?_⟩
    · rw [hW]
      exact ⟨[], [], _, _, _, _, _, _, _, rfl, s1, at1, at2, Nat.le_refl _, Nat.le_refl _, fun a => rfl, fun y h => by simp at h, fun o h => by simp at h⟩
    · rw [hW] at h
      obtain ⟨_, _, _, _, _, _, _, _, _, _, s2, _⟩ := h
      exact SqT.of (s2 _ _ htb)
    · rintro i x σ H2 H3 hi hw ⟨T', a1, a2, rfl, nT, rfl, e1, e2⟩
      rw [hW] at hw
      obtain ⟨kvs, ns, v4, v5, v6, v7, v8, v9, v10, rfl, s2, hk, hl, kl, nl, hS, lo, mem⟩ := hw
      cases e1
      obtain ⟨p, hp, rfl⟩ := nth_ref e2
      obtain ⟨o, ho, hpo⟩ := Paired.at hos hp
      have s3 := s2.trans (same_new (o := .tup [V.int (i : Nat), V.ref p]) nT)
      have old := same_new (o := .tup [V.int (i : Nat), V.ref p]) nT
      have at3 : (upd H2 T' (.tup [V.int (i : Nat), V.ref p])) T' = some (.tup [V.int (i : Nat), V.ref p]) := upd_same
      generalize upd H2 T' (.tup [V.int (i : Nat), V.ref p]) = H3 at s3 at3 old
      walk_at "rd"
      refine ⟨_, SqT.of at3, rfl, _, _, rfl, _, _, rfl, rfl, ?_⟩
      walk_at "rd"
      refine ⟨_, SqT.of (s3 _ _ hpo), rfl, _, _, rfl, _, _, rfl, _, _, rfl, _, _, rfl, _, _, rfl, rfl, ?_⟩
      walk_at "rd"
      have i30 : i < 30 := by rw [List.length_map, len] at hi; omega
      have tk : os.take (i + 1) = os.take i ++ [o] := take_one ho
      have okT : OkB (os.take i ++ [o]) := tk ▸ ok.take (i + 1)
      have li : (os.take i).length = i := by
        rw [List.length_take, Nat.min_eq_left]
        exact Nat.le_of_lt (List.getElem?_eq_some_iff.mp ho).1
      have skip : ¬ (o.fst ≤ day ∧ day ≤ o.lst) → ∃ (kvs' : List (Key × V)) (ns' : List Int) (v4 v5 v6 v7 v8 v9 v10 : Option V), [some (V.ref b), some (V.int day), some (V.ref D), some (V.ref LD), some (V.int (i : Nat)), some (V.ref p), some (V.str o.src), some (V.str o.tgt), some (V.int o.fst), some (V.int o.lst), some (V.int o.way)] = [some (.ref b), some (.int day), some (.ref D), some (.ref LD), v4, v5, v6, v7, v8, v9, v10] ∧
          Same H H3 ∧ H3 D = some (.dK kvs') ∧ H3 LD = some (.lst (ns'.map V.int)) ∧ kvs'.length ≤ i + 1 ∧ ns'.length ≤ i + 1 ∧ (∀ a, match sendI (os.take (i + 1)) day a with
        | none => valV kvs' (Sum.inr a) = none
        | some (t, w, j) => ∃ p, valV kvs' (Sum.inr a) = some (.ref p) ∧ H3 p = some (.tup [.str t, .int w, .int (j : Nat)])) ∧ (∀ y ∈ ns', day ≤ y) ∧ (∀ o ∈ os.take (i + 1), o.fst ≤ day → day ≤ o.lst → o.lst ∈ ns') := by
        intro no
        refine ⟨kvs, ns, _, _, _, _, _, _, _, rfl, s3, old _ _ hk, old _ _ hl, by omega, by omega, fun a => ?_, lo, fun u hu h1 h2 => ?_⟩
        · rw [tk, holds_app okT, if_neg (by
            simp only [Ord.holds, Bool.and_eq_true, decide_eq_true_eq]
            exact fun z => no z.2)]
          have hSa := hS a
          cases c : sendI (os.take i) day a with
          | none => rw [c] at hSa; exact hSa
          | some x =>
            obtain ⟨t, w', j⟩ := x
            rw [c] at hSa
            obtain ⟨q, g1, g2⟩ := hSa
            exact ⟨q, g1, old _ _ g2⟩
        · rw [tk] at hu
          rcases List.mem_append.mp hu with z | z
          · exact mem u z h1 h2
          · rw [List.mem_singleton.mp z] at h1 h2
            exact absurd ⟨h1, h2⟩ no
      by_cases c1 : o.fst ≤ day
      · rw [if_pos c1]
        by_cases c2 : day ≤ o.lst
        · rw [if_pos c2]
          refine ⟨by decide, fun q hq => ?_⟩
          have s4 := same_new (o := .tup [V.str o.tgt, V.int o.way, V.int (i : Nat)]) hq
          have at4 : (upd H3 q (.tup [V.str o.tgt, V.int o.way, V.int (i : Nat)])) q = some (.tup [V.str o.tgt, V.int o.way, V.int (i : Nat)]) := upd_same
          generalize upd H3 q (.tup [V.str o.tgt, V.int o.way, V.int (i : Nat)]) = H4 at s4 at4
          have hk4 := s4 _ _ (old _ _ hk)
          have hl4 := s4 _ _ (old _ _ hl)
          have nDL : LD ≠ D := nLD
          refine dput_of hk4 (by omega) ?_
          walk_at "rd"
          have hl5 : (upd H4 D (HO.dK (putK kvs (Sum.inr o.src) (V.ref q)))) LD = some (.lst (ns.map V.int)) := by rw [upd_ne nLD]; exact hl4
          refine ⟨tyL hl5, app_of hl5 (by rw [List.length_map]; omega) ?_⟩
          rw [hW]
          have nq1 : q ≠ D := ne_of at4 hk4 (by intro z; cases z)
          have nq2 : q ≠ LD := ne_of at4 hl4 (by intro z; cases z)
          have keep : ∀ c u, H4 c = some u → c ≠ D → c ≠ LD → (upd (upd H4 D (HO.dK (putK kvs (Sum.inr o.src) (V.ref q)))) LD (HO.lst (ns.map V.int ++ [V.int o.lst]))) c = some u := fun c u h n1 n2 => by
            rw [upd_ne n2, upd_ne n1]
            exact h
          refine ⟨putK kvs (Sum.inr o.src) (V.ref q), ns ++ [o.lst], _, _, _, _, _, _, _, rfl, fun c u h => keep c u (s4 _ _ (s3 _ _ h)) (ne_of_none h hD) (ne_of_none h fLD), ?_, ?_, ?_, ?_, fun a => ?_, fun y hy => ?_, fun u hu h1 h2 => ?_⟩
          · rw [upd_ne (Ne.symm nLD)]
            exact upd_same
          · rw [List.map_append]
            exact upd_same
          · exact Nat.le_trans (length_putK _ _ _) (by omega)
          · rw [List.length_append]
            simp
            omega
          · rw [tk, holds_app okT, li, valV_put]
            by_cases ea : o.src = a
            · subst ea
              rw [if_pos (by simp [Ord.holds, c1, c2]), if_pos rfl]
              exact ⟨q, rfl, keep _ _ at4 nq1 nq2⟩
            · rw [if_neg (by simp [Ord.holds, ea]), if_neg (fun z => ea (Sum.inr.inj z).symm)]
              have hSa := hS a
              cases c : sendI (os.take i) day a with
              | none => rw [c] at hSa; exact hSa
              | some x =>
                obtain ⟨t, w', j⟩ := x
                rw [c] at hSa
                obtain ⟨q', g1, g2⟩ := hSa
                have g4 := s4 _ _ (old _ _ g2)
                exact ⟨q', g1, keep _ _ g4 (ne_of g4 hk4 (by intro z; cases z)) (ne_of g4 hl4 (by intro z; cases z))⟩
          · rcases List.mem_append.mp hy with z | z
            · exact lo y z
            · rw [List.mem_singleton.mp z]
              exact c2
          · rw [tk] at hu
            rcases List.mem_append.mp hu with z | z
            · exact List.mem_append_left _ (mem u z h1 h2)
            · rw [List.mem_singleton.mp z]
              exact List.mem_append_right _ List.mem_cons_self
        · rw [if_neg c2, hW]
          exact skip fun z => c2 z.2
      · rw [if_neg c1]
        rw [hW]
        exact skip fun z => c1 z.1
    · rintro σ H2 hw
      rw [hW] at hw
      obtain ⟨kvs, ns, v4, v5, v6, v7, v8, v9, v10, rfl, s2, hk, hl, kl, nl, hS, lo, mem⟩ := hw
      rw [List.length_map, len, List.take_length] at *
      walk_at "rd"
      refine minD_of hl ?_
      walk_at "rd"
      refine ⟨by decide, fun p hp => ?_⟩
      have s4 := same_new (o := .tup [.ref D, .int (minL day ns)]) hp
      refine k p D _ _ (s2.trans s4) upd_same ⟨kvs, s4 _ _ hk, by omega, fun a => ?_⟩ (le_minL (Int.le_refl _) lo) fun o ho h1 h2 => minL_le (mem o ho h1 h2)
      have hSa := hS a
      cases c : sendI os day a with
      | none => rw [c] at hSa; exact hSa
      | some x =>
        obtain ⟨t, w', j⟩ := x
        rw [c] at hSa
        obtain ⟨q', g1, g2⟩ := hSa
        exact ⟨q', g1, s4 _ _ g2⟩
end
end K47
namespace K47
open PySem PySem.Spec PyProof.Rows L2 StX ClX My
local macro_rules | `(tactic| walk_at "rd") => `(tactic| try simp only [L2.start, List.map_cons, List.map_nil, List.length_cons, List.length_nil, List.cons_append, List.nil_append, List.reduceReplicate, List.replicate_zero, Nat.reduceAdd, Nat.reduceSub,
  List.getElem?_cons_zero, List.getElem?_cons_succ, List.set_cons_zero, List.set_cons_succ, Option.some.injEq, exists_eq_left', exists_eq_left, exists_eq_right, exists_eq_right', V.int.injEq, V.bl.injEq, V.str.injEq, V.ref.injEq, V.ty.injEq, List.cons.injEq, and_true, true_and, and_assoc,
  exists_and_left, exists_const, tVar, tC, tB, tAnd, tOr, tNot, tAndV, tOrV, tNotV, tIf, tSeq, tNext, iStr, iEnumT, iZip, RZ.iZipA, iRev, iList, iTup, iRng1, iRng2, tLc_eq, tDc_eq, tFor_eq, tYes, wipe, tBreak, tCont, tDrop, tRet, tRetN, tIfS, gName, gNil, gCons, gTup, tAsg, tPar, tOp, tUn, rI, rI0, rU, tTest, tChain, tNil, tCons, tTup, tLst, tCB, tFld_eq, tCVal_eq, tProp_eq, tMeth_eq, tMethR_eq, tCMeth, tMakeSL, tDNotIn, tDGet_eq, tDSetd, tDIn_eq, sDPut_eq, tNever, tMakeR_eq, tCKw_eq, tDNewK, tDNewT, tWhile, gSub_eq, tBM_eq, sFld, tPart, tNoPart, tSl, cx_K, cx_w, tCall, cx_K, tCall,
  Bool.false_eq_true, if_true, if_false, ite_true, ite_false, Bool.not_true, Bool.not_false, reduceIte, decide_eq_true_eq, eq_self_iff_true, reduceCtorEq, false_and, and_false, exists_false])
local macro_rules | `(tactic| walk_at "go") => `(tactic| (repeat (first | refine ixT_of (by assumption) (by rfl) ?_ | refine eqI_of ?_ | refine eqS_of ?_ | refine neI_of ?_); try walk_at "rd"))
def sp_walk : Sp := fun vs H Q _ => ∃ (D : Addr) (L : Int) (a : Str) (d most : Int) (S : SD), vs = [.ref D, .int L, .str a, .int d, .int most] ∧ SendAt H D S ∧ PosS S ∧ 0 ≤ d ∧ L ≤ 2 ^ 62 ∧ 0 ≤ most ∧ most ≤ 2 ^ 62 ∧
  ∀ p lp b e (tr : List Str) H', Same H H' → H' p = some (.tup [.str b, .int e, .int (tr.length : Nat), .ref lp]) → H' lp = some (.lst ((nubF tr).map V.str)) → GoesT S L tr (a, d) (b, e) → (tr.length : Int) ≤ most →
    ¬ ((tr.length : Int) < most ∧ e ≤ L ∧ S b ≠ none) → Q (.ref p) H'
theorem nodup_le {α : Type} [DecidableEq α] : ∀ {l m : List α}, l.Nodup → (∀ x ∈ l, x ∈ m) → l.length ≤ m.length
  | [], _, _, _ => Nat.zero_le _
  | a :: l, m, nd, sub => by
    have ha : a ∈ m := sub a List.mem_cons_self
    have nd2 := List.nodup_cons.mp nd
    have h := nodup_le (m := m.erase a) nd2.2 fun x hx => by
      have ne : x ≠ a := fun e => nd2.1 (e ▸ hx)
      exact (List.mem_erase_of_ne ne).mpr (sub x (List.mem_cons_of_mem _ hx))
    rw [List.length_erase_of_mem ha] at h
    have := List.length_pos_of_mem ha
    rw [List.length_cons]
    omega
theorem valV_mem {kvs : List (Key × V)} {k : Key} {v : V} (h : valV kvs k = some v) : k ∈ kvs.map Prod.fst := by
  unfold valV at h
  cases f : kvs.find? fun kv => decide (kv.1 = k) with
  | none => rw [f] at h; cases h
  | some kv =>
    have m := List.mem_of_find?_eq_some f
    have e := List.find?_some f
    rw [← of_decide_eq_true e]
    exact List.mem_map_of_mem m
theorem valV_none {kvs : List (Key × V)} {k : Key} (h : valV kvs k = none) : k ∉ kvs.map Prod.fst := by
  unfold valV at h
  cases f : kvs.find? fun kv => decide (kv.1 = k) with
  | none =>
    intro m
    obtain ⟨kv, h1, h2⟩ := List.mem_map.mp m
    have := List.find?_eq_none.mp f kv h1
    simp [h2] at this
  | some kv => rw [f] at h; cases h
theorem keys_put {kvs : List (Key × V)} {k : Key} {v : V} (h : valV kvs k = none) : (putK kvs k v).map Prod.fst = kvs.map Prod.fst ++ [k] := by
  rw [putK_new v h, List.map_append]
  rfl
/-- what is seen on the way: when each address was left first, and that the letter has come here from there -/
structure Seen (S : SD) (L : Int) (H : Hp) (svs : List (Key × V)) (b : Str) (e : Int) (tr : List Str) : Prop where
  at_ : ∀ c v, valV svs (Sum.inr c) = some v → ∃ (q : Addr) (d0 : Int) (k0 : Nat) (lt : List Str), v = .ref q ∧ H q = some (.tup [.int d0, .int (k0 : Nat)]) ∧ tr.length = k0 + lt.length ∧ lt ≠ [] ∧ GoesT S L lt (c, d0) (b, e) ∧ 0 ≤ d0 ∧ ∀ x ∈ lt, x ∈ tr
theorem SendAt.few {S : SD} {kvs : List (Key × V)} {H : Hp} {ls : List Str} (small : kvs.length ≤ 30) (hS : ∀ a, match S a with
    | none => valV kvs (Sum.inr a) = none
    | some (t, w, i) => ∃ p, valV kvs (Sum.inr a) = some (.ref p) ∧ H p = some (.tup [.str t, .int w, .int (i : Nat)])) (nd : ls.Nodup) (on : ∀ a ∈ ls, S a ≠ none) : ls.length ≤ 30 := by
  have h := nodup_le (l := ls.map (Sum.inr : Str → Key)) (m := kvs.map Prod.fst) ?_ fun x hx => ?_
  · rw [List.length_map, List.length_map] at h
    omega
  · refine List.pairwise_map.mpr (List.Pairwise.imp (fun {a b} n z => n (Sum.inr.inj z)) nd)
  · obtain ⟨c, hc, rfl⟩ := List.mem_map.mp hx
    have := hS c
    cases eb : S c with
    | none => exact absurd eb (on c hc)
    | some tw =>
      obtain ⟨t', w', i'⟩ := tw
      rw [eb] at this
      obtain ⟨p', h1, _⟩ := this
      exact valV_mem h1
section
variable {P : Program} {w : World} {K : PySem.W.Frag} {mg : Str → Option Value} {base : Heap}
end
end K47
namespace K47
open PySem PySem.Spec PyProof.Rows L2 StX ClX My
local macro_rules | `(tactic| walk_at "rd") => `(tactic| try simp only [L2.start, List.map_cons, List.map_nil, List.length_cons, List.length_nil, List.cons_append, List.nil_append, List.reduceReplicate, List.replicate_zero, Nat.reduceAdd, Nat.reduceSub,
  List.getElem?_cons_zero, List.getElem?_cons_succ, List.set_cons_zero, List.set_cons_succ, Option.some.injEq, exists_eq_left', exists_eq_left, exists_eq_right, exists_eq_right', V.int.injEq, V.bl.injEq, V.str.injEq, V.ref.injEq, V.ty.injEq, List.cons.injEq, and_true, true_and, and_assoc,
  exists_and_left, exists_const, tVar, tC, tB, tAnd, tOr, tNot, tAndV, tOrV, tNotV, tIf, tSeq, tNext, iStr, iEnumT, iZip, RZ.iZipA, iRev, iList, iTup, iRng1, iRng2, tLc_eq, tDc_eq, tFor_eq, tYes, wipe, tBreak, tCont, tDrop, tRet, tRetN, tIfS, gName, gNil, gCons, gTup, tAsg, tPar, tOp, tUn, rI, rI0, rU, tTest, tChain, tNil, tCons, tTup, tLst, tCB, tFld_eq, tCVal_eq, tProp_eq, tMeth_eq, tMethR_eq, tCMeth, tMakeSL, tDNotIn, tDGet_eq, tDSetd, tDIn_eq, sDPut_eq, tNever, tMakeR_eq, tCKw_eq, tDNewK, tDNewT, tWhile, gSub_eq, tBM_eq, sFld, tPart, tNoPart, tSl, cx_K, cx_w, tCall, cx_K, tCall,
  Bool.false_eq_true, if_true, if_false, ite_true, ite_false, Bool.not_true, Bool.not_false, reduceIte, decide_eq_true_eq, eq_self_iff_true, reduceCtorEq, false_and, and_false, exists_false])
local macro_rules | `(tactic| walk_at "go") => `(tactic| (repeat (first | refine ixT_of (by assumption) (by rfl) ?_ | refine eqI_of ?_ | refine eqS_of ?_ | refine neI_of ?_); try walk_at "rd"))
def sp_sent_on (C : Addr) : Sp := fun vs H Q _ => ∃ (b : Addr) (os : List Ord) (a : Str) (d most : Int), vs = [.ref b, .str a, .int d, .int most] ∧ BookAt C H b os ∧ OkB os ∧ 0 ≤ d ∧ 0 ≤ most ∧ most ≤ 2 ^ 62 ∧
  ∀ p c e (k : Nat) H', Same H H' → H' p = some (.tup [.str c, .int e, .int k]) → EndsBy os most.toNat (a, d) (c, e) k → Q (.ref p) H'
def sp_arrival (C : Addr) : Sp := fun vs H Q _ => ∃ (b : Addr) (os : List Ord) (l : Addr) (pt : Pt) (most : Int), vs = [.ref b, .ref l, .int most] ∧ BookAt C H b os ∧ OkB os ∧ LetAt H l pt ∧ 0 ≤ pt.2 ∧ 0 ≤ most ∧ most ≤ 2 ^ 62 ∧
  ∀ p q (k : Nat) H', Same H H' → LetAt H' p q → EndsBy os most.toNat pt q k → Q (.ref p) H'
abbrev maxT : Int := 1000000000000000001
def sp_end (C : Addr) : Sp := fun vs H Q _ => ∃ (b : Addr) (os : List Ord) (a : Str) (d : Int), vs = [.ref b, .str a, .int d] ∧ BookAt C H b os ∧ OkB os ∧ adrB (.str a) = true ∧ okD d ∧
  ∀ p q (k : Nat) H', Same H H' → LetAt H' p q → EndsBy os maxT.toNat (a, d) q k → Q (.ref p) H'
def sp_times (C : Addr) : Sp := fun vs H Q _ => ∃ (b : Addr) (os : List Ord) (a : Str) (d : Int), vs = [.ref b, .str a, .int d] ∧ BookAt C H b os ∧ OkB os ∧ adrB (.str a) = true ∧ okD d ∧
  ∀ q (k : Nat) H', Same H H' → EndsBy os maxT.toNat (a, d) q k → Q (.int k) H'
section
variable {P : Program} {w : World} {K : PySem.W.Frag} {mg : Str → Option Value} {base : Heap}
end
end K47
namespace K47
open PySem PySem.Spec PyProof.Rows L2 StX ClX My
local macro_rules | `(tactic| walk_at "rd") => `(tactic| try simp only [L2.start, List.map_cons, List.map_nil, List.length_cons, List.length_nil, List.cons_append, List.nil_append, List.reduceReplicate, List.replicate_zero, Nat.reduceAdd, Nat.reduceSub,
  List.getElem?_cons_zero, List.getElem?_cons_succ, List.set_cons_zero, List.set_cons_succ, Option.some.injEq, exists_eq_left', exists_eq_left, exists_eq_right, exists_eq_right', V.int.injEq, V.bl.injEq, V.str.injEq, V.ref.injEq, V.ty.injEq, List.cons.injEq, and_true, true_and, and_assoc,
  exists_and_left, exists_const, tVar, tC, tB, tAnd, tOr, tNot, tAndV, tOrV, tNotV, tIf, tSeq, tNext, iStr, iEnumT, iZip, RZ.iZipA, iRev, iList, iTup, iRng1, iRng2, tLc_eq, tDc_eq, tFor_eq, tYes, wipe, tBreak, tCont, tDrop, tRet, tRetN, tIfS, gName, gNil, gCons, gTup, tAsg, tPar, tOp, tUn, rI, rI0, rU, tTest, tChain, tNil, tCons, tTup, tLst, tCB, tFld_eq, tCVal_eq, tProp_eq, tMeth_eq, tMethR_eq, tCMeth, tMakeSL, tDNotIn, tDGet_eq, tDSetd, tDIn_eq, sDPut_eq, tNever, tMakeR_eq, tCKw_eq, tDNewK, tDNewT, tWhile, gSub_eq, tBM_eq, sFld, tPart, tNoPart, tSl, cx_K, cx_w, tCall, cx_K, tCall,
  Bool.false_eq_true, if_true, if_false, ite_true, ite_false, Bool.not_true, Bool.not_false, reduceIte, decide_eq_true_eq, eq_self_iff_true, reduceCtorEq, false_and, and_false, exists_false])
local macro_rules | `(tactic| walk_at "go") => `(tactic| (repeat (first | refine ixT_of (by assumption) (by rfl) ?_ | refine eqI_of ?_ | refine eqS_of ?_ | refine neI_of ?_); try walk_at "rd"))
/-! ### letters that meet -/
def dPt (u : Pt) : PyData := .tuple [.str u.1, .int u.2]
theorem dPt_eq (u v : Pt) : PyData.eqv (dPt u) (dPt v) = decide (u = v) := by
  obtain ⟨a, d⟩ := u
  obtain ⟨b, e⟩ := v
  simp only [dPt, PyData.eqv, PyData.eqvAll, Bool.and_true, Prod.mk.injEq, Bool.decide_and]
  congr 1
theorem str_ok {a : Str} (h : adrB (.str a) = true) : PyData.strOk a = true := by
  simp only [adrB, Bool.and_eq_true, List.all_eq_true] at h
  unfold PyData.strOk
  rw [← Array.all_toList, List.all_eq_true]
  intro c hc
  have := h.2 c hc
  simp only [low, Bool.and_eq_true, decide_eq_true_eq] at this
  simp
  omega
theorem dPt_shaped {u : Pt} (h : adrB (.str u.1) = true) : SeqAt.shaped (dPt u) = true := by
  simp [dPt, SeqAt.shaped, PyData.canLay0, PyData.canLayAll0, PyData.depth, PyData.depthAll, str_ok h]
theorem dPt_at {K : PySem.W.Frag} {H : Hp} {p : Addr} {u : Pt} (h : LetAt H p u) : Dp K H (.ref p) (dPt u) := .tup (SqT.of h) (.cons (.str _) (.cons (.int _) .nil))
theorem eqPt_of {K : PySem.W.Frag} {H : Hp} {p q : Addr} {u v : Pt} {Q : VK} (h1 : LetAt H p u) (h2 : LetAt H q v) (a1 : adrB (.str u.1) = true) (a2 : adrB (.str v.1) = true) (k : Q (.bl (decide (u = v))) H) : rEqD K (.ref p) (.ref q) H Q :=
  ⟨dPt u, dPt v, dPt_at h1, dPt_at h2, dPt_shaped a1, dPt_shaped a2, by rw [dPt_eq]; exact k⟩
theorem nePt_of {K : PySem.W.Frag} {H : Hp} {p q : Addr} {u v : Pt} {Q : VK} (h1 : LetAt H p u) (h2 : LetAt H q v) (a1 : adrB (.str u.1) = true) (a2 : adrB (.str v.1) = true) (k : Q (.bl (!decide (u = v))) H) : rNeD K (.ref p) (.ref q) H Q :=
  ⟨dPt u, dPt v, dPt_at h1, dPt_at h2, dPt_shaped a1, dPt_shaped a2, by rw [dPt_eq]; exact k⟩
theorem Goes.adr {os : List Ord} (ok : OkB os) {n : Nat} {p q : Pt} (h : Goes os n p q) (a : adrB (.str p.1) = true) : adrB (.str q.1) = true := by
  induction h with
  | zero p => exact a
  | @succ n p q r st _ ih =>
    refine ih ?_
    unfold step at st
    cases f : os.find? fun o => o.holds p.1 p.2 with
    | none => rw [f] at st; cases st
    | some o =>
      rw [f] at st
      have e := Option.some.inj st
      have v := ok.mem (List.mem_of_find?_eq_some f)
      simp only [okO, Bool.and_eq_true] at v
      rw [← e]
      exact v.1.1.1.2
theorem LetAt.up {H H' : Hp} {p : Addr} {u : Pt} (s : Same H H') (h : LetAt H p u) : LetAt H' p u := s _ _ h
/-- both letters have so many orders left and stand together at r -/
def Tog (os : List Ord) (p1 p2 : Pt) (n1 n2 l : Nat) (r : Pt) : Prop := Goes os (n1 - l) p1 r ∧ Goes os (n2 - l) p2 r
/-- where they stand together first -/
structure First (os : List Ord) (p1 p2 : Pt) (n1 n2 l : Nat) (r : Pt) : Prop where
  le1 : l ≤ n1
  le2 : l ≤ n2
  tog : Tog os p1 p2 n1 n2 l r
  none : l + 1 ≤ n1 → l + 1 ≤ n2 → ∀ r', ¬ Tog os p1 p2 n1 n2 (l + 1) r'
def sp_first (C : Addr) : Sp := fun vs H Q _ => ∃ (b : Addr) (os : List Ord) (l1 l2 : Addr) (p1 p2 q : Pt) (n1 n2 : Nat), vs = [.ref b, .ref l1, .int n1, .ref l2, .int n2] ∧ BookAt C H b os ∧ OkB os ∧ LetAt H l1 p1 ∧ LetAt H l2 p2 ∧
  0 ≤ p1.2 ∧ 0 ≤ p2.2 ∧ adrB (.str p1.1) = true ∧ adrB (.str p2.1) = true ∧ Goes os n1 p1 q ∧ Goes os n2 p2 q ∧ (n1 : Int) ≤ 2 ^ 62 ∧ (n2 : Int) ≤ 2 ^ 62 ∧ ∀ p r l H', Same H H' → LetAt H' p r → First os p1 p2 n1 n2 l r → Q (.ref p) H'
def sp_meeting (C : Addr) : Sp := fun vs H Q _ => ∃ (b : Addr) (os : List Ord) (l1 l2 : Addr) (p1 p2 : Pt), vs = [.ref b, .ref l1, .ref l2] ∧ BookAt C H b os ∧ OkB os ∧ LetAt H l1 p1 ∧ LetAt H l2 p2 ∧
  adrB (.str p1.1) = true ∧ adrB (.str p2.1) = true ∧ okD p1.2 ∧ okD p2.2 ∧
  ∀ q1 q2 n1 n2, EndsBy os maxT.toNat p1 q1 n1 → EndsBy os maxT.toNat p2 q2 n2 →
    (q1 ≠ q2 → ∀ H', Same H H' → Q .non H') ∧ (q1 = q2 → ∀ p r l H', Same H H' → LetAt H' p r → First os p1 p2 n1 n2 l r → Q (.ref p) H')
theorem Goes.part {os : List Ord} {n : Nat} {p q : Pt} (h : Goes os n p q) {m : Nat} (le : m ≤ n) : ∃ r, EndsBy os m p r m := by
  obtain ⟨d, rfl⟩ : ∃ d, n = m + d := ⟨n - m, by omega⟩
  obtain ⟨r, h1, _⟩ := h.split
  exact ⟨r, h1, Nat.le_refl _, .inl rfl⟩
section
variable {P : Program} {w : World} {K : PySem.W.Frag} {mg : Str → Option Value} {base : Heap}
end
end K47
namespace K47
open PySem PySem.Spec PyProof.Rows L2 StX ClX My
/-! ### where letters end, and which orders send them on -/
def Whole (os : List Ord) (p q : Pt) : Prop := ∃ k, Goes os k p q ∧ step os q = none
def Uses (os : List Ord) (p : Pt) (i : Nat) : Prop := ∃ k q o, Goes os k p q ∧ os[i]? = some o ∧ o.holds q.1 q.2 = true
theorem Whole.det {os : List Ord} {p q r : Pt} (a : Whole os p q) (b : Whole os p r) : q = r := by
  obtain ⟨k, h1, h2⟩ := a
  obtain ⟨m, h3, h4⟩ := b
  exact (EndsBy.det (n := max k m) ⟨h1, by omega, .inr h2⟩ ⟨h3, by omega, .inr h4⟩).1
theorem Whole.back {os : List Ord} {p q r : Pt} {n : Nat} (a : Goes os n p q) (b : Whole os q r) : Whole os p r := by
  obtain ⟨k, h1, h2⟩ := b
  exact ⟨n + k, a.trans h1, h2⟩
theorem Whole.front {os : List Ord} {p q r : Pt} {n : Nat} (a : Goes os n p q) (b : Whole os p r) : Whole os q r := by
  obtain ⟨k, h1, h2⟩ := b
  by_cases c : n ≤ k
  · obtain ⟨m, rfl⟩ : ∃ m, k = n + m := ⟨k - n, by omega⟩
    obtain ⟨q', h3, h4⟩ := h1.split
    have e := a.det h3
    subst e
    exact ⟨m, h4, h2⟩
  · obtain ⟨m, rfl⟩ : ∃ m, n = k + (m + 1) := ⟨n - k - 1, by omega⟩
    obtain ⟨q', h3, h4⟩ := a.split
    have e := h1.det h3
    subst e
    cases h4 with
    | succ h t => rw [h2] at h; cases h
theorem Whole.ex {os : List Ord} (ok : OkB os) : ∀ p : Pt, ∃ q, Whole os p q := by
  have main : ∀ (n : Nat) (p : Pt), (dayM + 1 - p.2).toNat ≤ n → ∃ q, Whole os p q := by
    intro n
    induction n with
    | zero =>
      intro p h
      cases c : step os p with
      | none => exact ⟨p, 0, .zero p, c⟩
      | some q =>
        have := ok.way c
        omega
    | succ n ih =>
      intro p h
      cases c : step os p with
      | none => exact ⟨p, 0, .zero p, c⟩
      | some q =>
        have := ok.way c
        obtain ⟨r, hr⟩ := ih q (by omega)
        exact ⟨r, .back (.succ c (.zero q)) hr⟩
  exact fun p => main _ p (Nat.le_refl _)
theorem EndsBy.whole {os : List Ord} (ok : OkB os) {p q : Pt} {k : Nat} (h : EndsBy os maxT.toNat p q k) (d0 : 0 ≤ p.2) : Whole os p q := by
  refine ⟨k, h.goes, ?_⟩
  have mono : ∀ {n : Nat} {p q : Pt}, Goes os n p q → p.2 + n ≤ q.2 := by
    intro n p q g
    induction g with
    | zero p => simp
    | succ h _ ih =>
      have := ok.way h
      omega
  rcases h.stop with z | z
  · have m := mono h.goes
    cases c : step os q with
    | none => rfl
    | some r =>
      have := ok.way c
      have e : maxT.toNat = 1000000000000000001 := by decide
      rw [e] at z
      have dm : dayM = 1000000000000000000 := rfl
      omega
  · exact z
theorem EndsBy.of_whole {os : List Ord} {p q r : Pt} {k : Nat} (ok : OkB os) (h : EndsBy os maxT.toNat p q k) (d0 : 0 ≤ p.2) (w : Whole os p r) : q = r := (h.whole ok d0).det w
theorem Uses.later {os : List Ord} {p q : Pt} {n i : Nat} (a : Goes os n p q) (b : Uses os q i) : Uses os p i := by
  obtain ⟨k, r, o, h1, h2, h3⟩ := b
  exact ⟨n + k, r, o, a.trans h1, h2, h3⟩
theorem Uses.lt {os : List Ord} {p : Pt} {i : Nat} (h : Uses os p i) : i < os.length := by
  obtain ⟨_, _, o, _, h2, _⟩ := h
  exact (List.getElem?_eq_some_iff.mp h2).1
/-- what is told of a letter: where it ends, and a bit for each order that sends it on -/
def Told (os : List Ord) (p : Pt) (e : Str) (bits : Nat) : Prop := ∃ q, Whole os p q ∧ q.1 = e ∧ ∀ i, bits.testBit i = true ↔ Uses os p i
theorem Told.stop {os : List Ord} {p : Pt} (h : step os p = none) (ok : OkB os) : Told os p p.1 0 := by
  refine ⟨p, ⟨0, .zero p, h⟩, rfl, fun i => ?_⟩
  simp only [Nat.zero_testBit, Bool.false_eq_true, false_iff]
  rintro ⟨k, q, o, g, ho, hh⟩
  cases g with
  | zero =>
    unfold step at h
    have m := List.mem_of_getElem? ho
    cases f : os.find? fun o => o.holds p.1 p.2 with
    | none => have := List.find?_eq_none.mp f o m; simp [hh] at this
    | some u => rw [f] at h; cases h
  | succ st _ => rw [h] at st; cases st
/-- stretches of days in which no order begins or ends -/
structure StrOk (os : List Ord) (ss : List (Int × Int)) : Prop where
  pos : 0 < ss.length
  len : ss.length ≤ 2 * os.length + 1
  zero : ∀ s : Int × Int, ss[0]? = some s → s.1 = 0
  next : ∀ (i : Nat) (s t : Int × Int), ss[i]? = some s → ss[i + 1]? = some t → t.1 = s.2 + 1
  last : ∀ s : Int × Int, ss[ss.length - 1]? = some s → s.2 = dayM + 30
  le : ∀ (i : Nat) (s : Int × Int), ss[i]? = some s → s.1 ≤ s.2
  same : ∀ (i : Nat) (s : Int × Int), ss[i]? = some s → ∀ d, s.1 ≤ d → d ≤ s.2 → ∀ o ∈ os, (o.fst ≤ d ∧ d ≤ o.lst ↔ o.fst ≤ s.1 ∧ s.1 ≤ o.lst)
theorem StrOk.at_ {os : List Ord} {ss : List (Int × Int)} (h : StrOk os ss) {i : Nat} (hi : i < ss.length) : ∃ s, ss[i]? = some s := ⟨ss[i], List.getElem?_eq_getElem hi⟩
theorem StrOk.asc {os : List Ord} {ss : List (Int × Int)} (h : StrOk os ss) {s t : Int × Int} : ∀ {i j : Nat}, ss[i]? = some s → ss[j]? = some t → i < j → s.2 < t.1 := by
  intro i j hi hj lt
  obtain ⟨n, rfl⟩ : ∃ n, j = i + 1 + n := ⟨j - i - 1, by omega⟩
  clear lt
  induction n generalizing t with
  | zero =>
    have := h.next i s t hi hj
    omega
  | succ n ih =>
    obtain ⟨u, hu⟩ := h.at_ (i := i + 1 + n) (by have := (List.getElem?_eq_some_iff.mp hj).1; omega)
    have a := ih hu
    have b := h.next _ u t hu hj
    have c := h.le _ u hu
    omega
theorem StrOk.lo {os : List Ord} {ss : List (Int × Int)} (h : StrOk os ss) {i : Nat} {s : Int × Int} (hi : ss[i]? = some s) : 0 ≤ s.1 := by
  obtain ⟨t, ht⟩ := h.at_ h.pos
  have z := h.zero t ht
  rcases Nat.eq_zero_or_pos i with rfl | p
  · rw [ht] at hi
    cases hi
    omega
  · have := h.asc ht hi p
    have := h.le _ t ht
    omega
theorem StrOk.hi {os : List Ord} {ss : List (Int × Int)} (h : StrOk os ss) {i : Nat} {s : Int × Int} (hi : ss[i]? = some s) : s.2 ≤ dayM + 30 := by
  have lt := (List.getElem?_eq_some_iff.mp hi).1
  obtain ⟨t, ht⟩ := h.at_ (i := ss.length - 1) (by omega)
  have z := h.last t ht
  by_cases c : i = ss.length - 1
  · rw [c, ht] at hi
    cases hi
    omega
  · have := h.asc hi ht (by omega)
    have := h.le _ t ht
    omega
theorem findIdx_congr {α : Type} {f g : α → Bool} : ∀ {l : List α}, (∀ x ∈ l, f x = g x) → l.findIdx? f = l.findIdx? g
  | [], _ => rfl
  | a :: l, h => by
    rw [List.findIdx?_cons, List.findIdx?_cons, h a List.mem_cons_self, findIdx_congr fun x hx => h x (List.mem_cons_of_mem _ hx)]
theorem StrOk.send {os : List Ord} {ss : List (Int × Int)} (h : StrOk os ss) {i : Nat} {s : Int × Int} (hi : ss[i]? = some s) {d : Int} (d0 : s.1 ≤ d) (d1 : d ≤ s.2) : sendI os d = sendI os s.1 := by
  funext a
  unfold sendI
  rw [findIdx_congr (f := fun o : Ord => o.holds a d) (g := fun o => o.holds a s.1) fun o ho => ?_]
  have := h.same i s hi d d0 d1 o ho
  have e : (decide (o.fst ≤ d) && decide (d ≤ o.lst)) = (decide (o.fst ≤ s.1) && decide (s.1 ≤ o.lst)) := by
    rw [← Bool.decide_and, ← Bool.decide_and]
    exact decide_eq_decide.mpr this
  unfold Ord.holds
  rw [e]
theorem StrOk.ends {os : List Ord} {ss : List (Int × Int)} (h : StrOk os ss) {i : Nat} {s : Int × Int} (hi : ss[i]? = some s) : ∀ o ∈ os, o.fst ≤ s.1 → s.1 ≤ o.lst → s.2 ≤ o.lst := fun o ho h1 h2 =>
  ((h.same i s hi s.2 (h.le i s hi) (Int.le_refl _) o ho).mpr ⟨h1, h2⟩).2
theorem StrOk.find {os : List Ord} {ss : List (Int × Int)} (h : StrOk os ss) {d : Int} (d0 : 0 ≤ d) (d1 : d ≤ dayM + 30) : ∃ (i : Nat) (s : Int × Int), ss[i]? = some s ∧ s.1 ≤ d ∧ d ≤ s.2 := by
  have main : ∀ n : Nat, n < ss.length → (∀ s : Int × Int, ss[n]? = some s → d ≤ s.2) → ∃ (i : Nat) (s : Int × Int), ss[i]? = some s ∧ s.1 ≤ d ∧ d ≤ s.2 := by
    intro n
    induction n with
    | zero =>
      intro lt q
      obtain ⟨s, hs⟩ := h.at_ lt
      exact ⟨0, s, hs, by rw [h.zero s hs]; exact d0, q s hs⟩
    | succ n ih =>
      intro lt q
      obtain ⟨s, hs⟩ := h.at_ lt
      by_cases c : s.1 ≤ d
      · exact ⟨_, s, hs, c, q s hs⟩
      · refine ih (by omega) fun t ht => ?_
        have := h.next n t s ht hs
        omega
  have p := h.pos
  exact main (ss.length - 1) (by omega) fun s hs => by rw [h.last s hs]; exact d1
theorem Uses.one {os : List Ord} (ok : OkB os) {a t : Str} {d w : Int} {i j : Nat} (h : sendI os d a = some (t, w, j)) : Uses os (a, d) i ↔ i = j ∨ Uses os (t, d + w) i := by
  have st : step os (a, d) = some (t, d + w) := by rw [step_sendI ok, h]; rfl
  obtain ⟨o, ho, hh, _, _⟩ := (sendI_some ok).mp h
  constructor
  · rintro ⟨k, q, u, g, hu, hq⟩
    cases g with
    | zero => exact .inl (ok.uniqI hu ho hq hh)
    | @succ n _ q' _ st' g' =>
      rw [st] at st'
      cases st'
      exact .inr ⟨n, q, u, g', hu, hq⟩
  · rintro (rfl | z)
    · exact ⟨0, (a, d), o, .zero _, ho, hh⟩
    · exact .later (.succ st (.zero _)) z
theorem GoesT.goesS {os : List Ord} (ok : OkB os) {ss : List (Int × Int)} (sk : StrOk os ss) {n : Nat} {s : Int × Int} (hs : ss[n]? = some s) {L : Int} (hL : L ≤ s.2) {tr : List Str} {p q : Pt} (h : GoesT (sendI os s.1) L tr p q) (d0 : s.1 ≤ p.2) : Goes os tr.length p q :=
  h.goes ok (fun o ho h1 h2 => Int.le_trans hL (sk.ends hs o ho h1 h2)) d0
theorem GoesT.uses {os : List Ord} (ok : OkB os) {ss : List (Int × Int)} (sk : StrOk os ss) {n : Nat} {s : Int × Int} (hs : ss[n]? = some s) {L : Int} (hL : L ≤ s.2) {tr : List Str} {p q : Pt} (h : GoesT (sendI os s.1) L tr p q) (d0 : s.1 ≤ p.2) (i : Nat) :
    Uses os p i ↔ (∃ x ∈ tr, ∃ t w, sendI os s.1 x = some (t, w, i)) ∨ Uses os q i := by
  induction h with
  | zero p => simp
  | @snoc tr p q0 t w j g le h ih =>
    have m := g.mono (sendI_pos ok)
    have at_ : sendI os q0.2 q0.1 = some (t, w, j) := by rw [sk.send hs (by omega) (by omega)]; exact h
    rw [ih d0, Uses.one ok at_]
    constructor
    · rintro (⟨x, hx, z⟩ | rfl | z)
      · exact .inl ⟨x, List.mem_append_left _ hx, z⟩
      · exact .inl ⟨q0.1, by simp, t, w, h⟩
      · exact .inr z
    · rintro (⟨x, hx, t', w', z⟩ | z)
      · rcases List.mem_append.mp hx with y | y
        · exact .inl ⟨x, y, t', w', z⟩
        · rw [List.mem_singleton.mp y, h] at z
          cases z
          exact .inr (.inl rfl)
      · exact .inr (.inr z)
theorem Told.back {os : List Ord} (ok : OkB os) {ss : List (Int × Int)} (sk : StrOk os ss) {n : Nat} {s : Int × Int} (hs : ss[n]? = some s) {L : Int} (hL : L ≤ s.2) {tr : List Str} {p q : Pt} (h : GoesT (sendI os s.1) L tr p q) (d0 : s.1 ≤ p.2) {e : Str} {b c : Nat} (told : Told os q e b)
    (hc : ∀ i, c.testBit i = true ↔ ∃ x ∈ tr, ∃ t w, sendI os s.1 x = some (t, w, i)) : Told os p e (b ||| c) := by
  obtain ⟨r, w, e1, u⟩ := told
  refine ⟨r, .back (h.goesS ok sk hs hL d0) w, e1, fun i => ?_⟩
  rw [Nat.testBit_or, Bool.or_eq_true, u, hc, h.uses ok sk hs hL d0]
  exact or_comm
/-! sums of bits -/
theorem pow_add_bit {n k : Nat} (h : n.testBit k = false) (i : Nat) : (2 ^ k + n).testBit i = (n.testBit i || decide (i = k)) := by
  rw [Nat.testBit_eq_decide_div_mod_eq] at h
  have h0 : n / 2 ^ k % 2 = 0 := by
    have := of_decide_eq_false h
    omega
  have lt : n % 2 ^ k < 2 ^ k := Nat.mod_lt _ (Nat.two_pow_pos k)
  have e1 : n = 2 ^ k * (2 * (n / 2 ^ k / 2)) + n % 2 ^ k := by
    have a : 2 * (n / 2 ^ k / 2) = n / 2 ^ k := by omega
    rw [a]
    exact (Nat.div_add_mod n (2 ^ k)).symm
  generalize n / 2 ^ k / 2 = hi at e1
  generalize n % 2 ^ k = lo at e1 lt
  have e2 : 2 ^ k * (2 * hi) = 2 ^ (k + 1) * hi := by rw [Nat.pow_succ, Nat.mul_assoc]
  have lt2 : lo < 2 ^ (k + 1) := Nat.lt_of_lt_of_le lt (Nat.pow_le_pow_right (by decide) (by omega))
  have lt3 : 2 ^ k + lo < 2 ^ (k + 1) := by rw [Nat.pow_succ]; omega
  have e3 : n = 2 ^ (k + 1) * hi ||| lo := by rw [e1, e2, Nat.two_pow_add_eq_or_of_lt lt2]
  have e4 : 2 ^ k + n = 2 ^ (k + 1) * hi ||| (2 ^ k ||| lo) := by
    have a := Nat.two_pow_add_eq_or_of_lt lt 1
    rw [Nat.mul_one] at a
    rw [← a, ← Nat.two_pow_add_eq_or_of_lt lt3, e1, e2]
    omega
  rw [e4, e3, Nat.testBit_or, Nat.testBit_or, Nat.testBit_or, Nat.testBit_two_pow]
  by_cases c : i = k
  · subst c
    simp
  · have c2 : ¬ k = i := fun z => c z.symm
    simp [c, c2]
def sumB (ks : List Nat) : Nat := (ks.map fun k => 2 ^ k).sum
theorem sumB_bit {ks : List Nat} (nd : ks.Nodup) (i : Nat) : (sumB ks).testBit i = true ↔ i ∈ ks := by
  have main : ∀ ks : List Nat, ks.Nodup → ∀ i, (sumB ks).testBit i = decide (i ∈ ks) := by
    intro ks
    induction ks with
    | nil => intro _ i; simp [sumB]
    | cons k ks ih =>
      intro nd i
      have nd2 := List.nodup_cons.mp nd
      have e : sumB (k :: ks) = 2 ^ k + sumB ks := by simp [sumB]
      rw [e, pow_add_bit (by rw [ih nd2.2]; simpa using nd2.1), ih nd2.2]
      by_cases c : i = k <;> simp [c]
  rw [main ks nd]
  simp
/-- so many days: each once -/
def Num (P : Int → Prop) (n : Nat) : Prop := ∃ l : List Int, l.Nodup ∧ (∀ d, d ∈ l ↔ P d) ∧ l.length = n
theorem Num.det {P : Int → Prop} {m n : Nat} (a : Num P m) (b : Num P n) : m = n := by
  obtain ⟨l, h1, h2, rfl⟩ := a
  obtain ⟨k, g1, g2, rfl⟩ := b
  exact ((List.perm_ext_iff_of_nodup h1 g1).mpr fun d => (h2 d).trans (g2 d).symm).length_eq
theorem Num.congr {P R : Int → Prop} {n : Nat} (a : Num P n) (h : ∀ d, P d ↔ R d) : Num R n := by
  obtain ⟨l, h1, h2, h3⟩ := a
  exact ⟨l, h1, fun d => (h2 d).trans (h d), h3⟩
theorem Num.zero {P : Int → Prop} (h : ∀ d, ¬ P d) : Num P 0 := ⟨[], List.nodup_nil, fun d => by simpa using h d, rfl⟩
theorem Num.add {P R : Int → Prop} {m n : Nat} (a : Num P m) (b : Num R n) (no : ∀ d, P d → R d → False) : Num (fun d => P d ∨ R d) (m + n) := by
  obtain ⟨l, h1, h2, rfl⟩ := a
  obtain ⟨k, g1, g2, rfl⟩ := b
  refine ⟨l ++ k, List.nodup_append.mpr ⟨h1, g1, fun x hx y hy e => no x ((h2 x).mp hx) ((g2 x).mp (e ▸ hy))⟩, fun d => ?_, List.length_append⟩
  rw [List.mem_append, h2, g2]
theorem Num.pos {P : Int → Prop} {n : Nat} (a : Num P n) {d : Int} (h : P d) : 0 < n := by
  obtain ⟨l, h1, h2, rfl⟩ := a
  exact List.length_pos_of_mem ((h2 d).mpr h)
end K47
namespace K47
open PySem PySem.Spec PyProof.Rows L2 StX ClX My
local macro_rules | `(tactic| walk_at "rd") => `(tactic| try simp only [L2.start, List.map_cons, List.map_nil, List.length_cons, List.length_nil, List.cons_append, List.nil_append, List.reduceReplicate, List.replicate_zero, Nat.reduceAdd, Nat.reduceSub,
  List.getElem?_cons_zero, List.getElem?_cons_succ, List.set_cons_zero, List.set_cons_succ, Option.some.injEq, exists_eq_left', exists_eq_left, exists_eq_right, exists_eq_right', V.int.injEq, V.bl.injEq, V.str.injEq, V.ref.injEq, V.ty.injEq, List.cons.injEq, and_true, true_and, and_assoc,
  exists_and_left, exists_const, tVar, tC, tB, tAnd, tOr, tNot, tAndV, tOrV, tNotV, tIf, tSeq, tNext, iStr, iEnumT, iZip, RZ.iZipA, iRev, iList, iTup, iRng1, iRng2, tLc_eq, tDc_eq, tFor_eq, tYes, wipe, tBreak, tCont, tDrop, tRet, tRetN, tIfS, gName, gNil, gCons, gTup, tAsg, tPar, tOp, tUn, rI, rI0, rU, tTest, tChain, tNil, tCons, tTup, tLst, tCB, tFld_eq, tCVal_eq, tProp_eq, tMeth_eq, tMethR_eq, tCMeth, tMakeSL, tDNotIn, tDGet_eq, tDSetd, tDIn_eq, sDPut_eq, tNever, tMakeR_eq, tCKw_eq, tDNewK, tDNewT, tWhile, gSub_eq, tBM_eq, sFld, tPart, tNoPart, tSl, cx_K, cx_w, tCall, cx_K, tCall,
  Bool.false_eq_true, if_true, if_false, ite_true, ite_false, Bool.not_true, Bool.not_false, reduceIte, decide_eq_true_eq, eq_self_iff_true, reduceCtorEq, false_and, and_false, exists_false])
local macro_rules | `(tactic| walk_at "go") => `(tactic| (repeat (first | refine ixT_of (by assumption) (by rfl) ?_ | refine eqI_of ?_ | refine eqS_of ?_ | refine neI_of ?_); try walk_at "rd"))
theorem SendAt.up {H H' : Hp} {D : Addr} {S : SD} (s : SameT H H') (h : SendAt H D S) : SendAt H' D S := by
  obtain ⟨kvs, h1, h2, h3⟩ := h
  refine ⟨kvs, s.dic h1, h2, fun a => ?_⟩
  have z := h3 a
  cases c : S a with
  | none => rw [c] at z; exact z
  | some x =>
    obtain ⟨t, w, i⟩ := x
    rw [c] at z
    obtain ⟨p, g1, g2⟩ := z
    exact ⟨p, g1, s.tup g2⟩
/-- a stretch as it stands -/
def SAt (os : List Ord) (H : Hp) (q : Addr) (s : Int × Int) : Prop := ∃ D, H q = some (.tup [.int s.1, .int s.2, .ref D]) ∧ SendAt H D (sendI os s.1)
theorem SAt.up {os : List Ord} {H H' : Hp} {q : Addr} {x : Int × Int} (s : SameT H H') (h : SAt os H q x) : SAt os H' q x := by
  obtain ⟨D, h1, h2⟩ := h
  exact ⟨D, s.tup h1, h2.up s⟩
/-- a list of stretches -/
def StrAt (H : Hp) (l : Addr) (os : List Ord) (ss : List (Int × Int)) : Prop := ∃ qs : List Addr, H l = some (.lst (qs.map V.ref)) ∧ Paired (SAt os H) qs ss
theorem StrAt.up {os : List Ord} {H H' : Hp} {l : Addr} {ss : List (Int × Int)} (s : SameT H H') (e : ∀ o, H l = some o → H' l = some o) (h : StrAt H l os ss) : StrAt H' l os ss := by
  obtain ⟨qs, h1, h2⟩ := h
  exact ⟨qs, e _ h1, Paired.mp (fun _ _ r => r.up s) h2⟩
def sp_stretches (C : Addr) : Sp := fun vs H Q _ => ∃ b os, vs = [.ref b] ∧ BookAt C H b os ∧ OkB os ∧ ∀ l ss H', Same H H' → StrAt H' l os ss → StrOk os ss → Q (.ref l) H'
/-- the stretches between the cuts -/
def between (ns : List Int) : List (Int × Int) := List.zipWith (fun a b => (a, b - 1)) ns (ns.drop 1)
theorem between_get {ns : List Int} {i : Nat} {s : Int × Int} : (between ns)[i]? = some s ↔ ∃ a b, ns[i]? = some a ∧ ns[i + 1]? = some b ∧ s = (a, b - 1) := by
  unfold between
  rw [List.getElem?_zipWith_eq_some]
  constructor
  · rintro ⟨x, y, h1, h2, rfl⟩
    rw [List.getElem?_drop] at h2
    exact ⟨x, y, h1, by rw [Nat.add_comm]; exact h2, rfl⟩
  · rintro ⟨x, y, h1, h2, rfl⟩
    exact ⟨x, y, h1, by rw [List.getElem?_drop, Nat.add_comm]; exact h2, rfl⟩
theorem between_len (ns : List Int) : (between ns).length = ns.length - 1 := by
  unfold between
  rw [List.length_zipWith, List.length_drop]
  omega
theorem between_ok {os : List Ord} (ok : OkB os) {ns : List Int} (asc : ns.Pairwise (· < ·)) (mem : ∀ k, k ∈ ns ↔ k = 0 ∨ k = dayM + 31 ∨ ∃ o ∈ os, k = o.fst ∨ k = o.lst + 1) (len : ns.length ≤ 2 * os.length + 2) : StrOk os (between ns) := by
  have dm : dayM = 1000000000000000000 := rfl
  have up : ∀ {i j : Nat} {a b : Int}, ns[i]? = some a → ns[j]? = some b → i < j → a < b := by
    intro i j a b hi hj lt
    obtain ⟨h1, rfl⟩ := List.getElem?_eq_some_iff.mp hi
    obtain ⟨h2, rfl⟩ := List.getElem?_eq_some_iff.mp hj
    exact List.pairwise_iff_getElem.mp asc i j h1 h2 lt
  have bd : ∀ k ∈ ns, 0 ≤ k ∧ k ≤ dayM + 31 := by
    intro k hk
    rcases (mem k).mp hk with rfl | rfl | ⟨o, ho, z⟩
    · omega
    · omega
    · have := okO_day (ok.mem ho)
      omega
  obtain ⟨i0, h0⟩ := List.getElem?_of_mem ((mem 0).mpr (.inl rfl))
  obtain ⟨i1, h1⟩ := List.getElem?_of_mem ((mem (dayM + 31)).mpr (.inr (.inl rfl)))
  have z0 : i0 = 0 := by
    rcases Nat.eq_zero_or_pos i0 with z | z
    · exact z
    · have lt := (List.getElem?_eq_some_iff.mp h0).1
      have e : ns[0]? = some ns[0] := List.getElem?_eq_getElem (by omega)
      have := up e h0 z
      have := bd _ (List.mem_of_getElem? e)
      omega
  subst z0
  have z1 : i1 + 1 = ns.length := by
    have lt := (List.getElem?_eq_some_iff.mp h1).1
    rcases Nat.lt_or_ge (i1 + 1) ns.length with z | z
    · have e : ns[i1 + 1]? = some ns[i1 + 1] := List.getElem?_eq_getElem z
      have := up h1 e (by omega)
      have := bd _ (List.mem_of_getElem? e)
      omega
    · omega
  have two : 2 ≤ ns.length := by
    rcases Nat.eq_zero_or_pos i1 with z | z
    · subst z
      rw [h0] at h1
      cases h1
    · omega
  refine ⟨by rw [between_len]; omega, by rw [between_len]; omega, fun s hs => ?_, fun i s t hs ht => ?_, fun s hs => ?_, fun i s hs => ?_, fun i s hs d d0 d1 o ho => ?_⟩
  · obtain ⟨a, b, ha, hb, rfl⟩ := between_get.mp hs
    rw [h0] at ha
    cases ha
    rfl
  · obtain ⟨a, b, ha, hb, rfl⟩ := between_get.mp hs
    obtain ⟨a', b', ha', hb', rfl⟩ := between_get.mp ht
    rw [hb] at ha'
    cases ha'
    show b = b - 1 + 1
    omega
  · obtain ⟨a, b, ha, hb, rfl⟩ := between_get.mp hs
    rw [between_len, show ns.length - 1 - 1 + 1 = i1 by omega, h1] at hb
    cases hb
    show dayM + 31 - 1 = dayM + 30
    omega
  · obtain ⟨a, b, ha, hb, rfl⟩ := between_get.mp hs
    have := up ha hb (by omega)
    show a ≤ b - 1
    omega
  · obtain ⟨a, b, ha, hb, rfl⟩ := between_get.mp hs
    dsimp only at d0 d1 ⊢
    have no : ∀ k ∈ ns, ¬ (a < k ∧ k < b) := by
      rintro k hk ⟨g1, g2⟩
      obtain ⟨j, hj⟩ := List.getElem?_of_mem hk
      rcases Nat.lt_trichotomy j i with z | z | z
      · have := up hj ha z
        omega
      · subst z
        rw [hj] at ha
        cases ha
        omega
      · rcases Nat.lt_trichotomy j (i + 1) with y | y | y
        · omega
        · subst y
          rw [hj] at hb
          cases hb
          omega
        · have := up hb hj y
          omega
    have n1 := no o.fst ((mem _).mpr (.inr (.inr ⟨o, ho, .inl rfl⟩)))
    have n2 := no (o.lst + 1) ((mem _).mpr (.inr (.inr ⟨o, ho, .inr rfl⟩)))
    constructor <;> intro h <;> constructor <;> omega
section
variable {P : Program} {w : World} {K : PySem.W.Frag} {mg : Str → Option Value} {base : Heap}
end
end K47
namespace K47
open PySem PySem.Spec PyProof.Rows L2 StX ClX My
local macro_rules | `(tactic| walk_at "rd") => `(tactic| try simp only [L2.start, List.map_cons, List.map_nil, List.length_cons, List.length_nil, List.cons_append, List.nil_append, List.reduceReplicate, List.replicate_zero, Nat.reduceAdd, Nat.reduceSub,
  List.getElem?_cons_zero, List.getElem?_cons_succ, List.set_cons_zero, List.set_cons_succ, Option.some.injEq, exists_eq_left', exists_eq_left, exists_eq_right, exists_eq_right', V.int.injEq, V.bl.injEq, V.str.injEq, V.ref.injEq, V.ty.injEq, List.cons.injEq, and_true, true_and, and_assoc,
  exists_and_left, exists_const, tVar, tC, tB, tAnd, tOr, tNot, tAndV, tOrV, tNotV, tIf, tSeq, tNext, iStr, iEnumT, iZip, RZ.iZipA, iRev, iList, iTup, iRng1, iRng2, tLc_eq, tDc_eq, tFor_eq, tYes, wipe, tBreak, tCont, tDrop, tRet, tRetN, tIfS, gName, gNil, gCons, gTup, tAsg, tPar, tOp, tUn, rI, rI0, rU, tTest, tChain, tNil, tCons, tTup, tLst, tCB, tFld_eq, tCVal_eq, tProp_eq, tMeth_eq, tMethR_eq, tCMeth, tMakeSL, tDNotIn, tDGet_eq, tDSetd, tDIn_eq, sDPut_eq, tNever, tMakeR_eq, tCKw_eq, tDNewK, tDNewT, tWhile, gSub_eq, tBM_eq, sFld, tPart, tNoPart, tSl, cx_K, cx_w, tCall, cx_K, tCall,
  Bool.false_eq_true, if_true, if_false, ite_true, ite_false, Bool.not_true, Bool.not_false, reduceIte, decide_eq_true_eq, eq_self_iff_true, reduceCtorEq, false_and, and_false, exists_false])
local macro_rules | `(tactic| walk_at "go") => `(tactic| (repeat (first | refine ixT_of (by assumption) (by rfl) ?_ | refine eqI_of ?_ | refine eqS_of ?_ | refine neI_of ?_); try walk_at "rd"))
/-- what has been found once -/
def FoundAt (H : Hp) (f : Addr) (os : List Ord) (m : Nat) : Prop := ∃ kvs : List (List Key × V), H f = some (.dT kvs) ∧ kvs.length ≤ m ∧
  ∀ a d v, valV kvs [Sum.inr a, Sum.inl d] = some v → ∃ (q : Addr) (e : Str) (bits : Nat), v = .ref q ∧ H q = some (.tup [.str e, .int bits]) ∧ Told os (a, d) e bits
/-- an object of ends over a book -/
structure EndsAt (C : Addr) (H : Hp) (e l f : Addr) (os : List Ord) (ss : List (Int × Int)) (m : Nat) : Prop where
  obj : ∃ dx, H e = some (.ins C dx [("_stretches", .ref l), ("_found", .ref f)])
  str : StrAt H l os ss
  sok : StrOk os ss
  found : FoundAt H f os m
theorem FoundAt.up {H H' : Hp} {f : Addr} {os : List Ord} {m : Nat} (s : Same H H') (h : FoundAt H f os m) : FoundAt H' f os m := by
  obtain ⟨kvs, h1, h2, h3⟩ := h
  refine ⟨kvs, s _ _ h1, h2, fun a d v hv => ?_⟩
  obtain ⟨q, e, bits, g1, g2, g3⟩ := h3 a d v hv
  exact ⟨q, e, bits, g1, s _ _ g2, g3⟩
theorem EndsAt.up {C : Addr} {H H' : Hp} {e l f : Addr} {os : List Ord} {ss : List (Int × Int)} {m : Nat} (s : Same H H') (h : EndsAt C H e l f os ss m) : EndsAt C H' e l f os ss m := by
  obtain ⟨dx, h1⟩ := h.obj
  exact ⟨⟨dx, s _ _ h1⟩, h.str.up (SameT.of s) (fun o z => s _ _ z), h.sok, h.found.up s⟩
/-- the rest stands while only what has been found is changed -/
theorem EndsAt.upX {C : Addr} {H H' : Hp} {e l f : Addr} {os : List Ord} {ss : List (Int × Int)} {m n : Nat} (s : SameX f H H') (h : EndsAt C H e l f os ss m) (hf : FoundAt H' f os n) : EndsAt C H' e l f os ss n := by
  obtain ⟨dx, h1⟩ := h.obj
  obtain ⟨qs, h2, h3⟩ := h.str
  obtain ⟨kvs, k1, _⟩ := h.found
  have go : ∀ b o, H b = some o → (∀ kvs, o ≠ HO.dT kvs) → H' b = some o := fun b o hb no => s b o (fun z => no kvs (by rw [z, k1] at hb; exact (Option.some.inj hb).symm)) hb
  refine ⟨⟨dx, go _ _ h1 (fun _ z => by cases z)⟩, ⟨qs, go _ _ h2 (fun _ z => by cases z), Paired.mp (fun q x r => ?_) h3⟩, h.sok, hf⟩
  obtain ⟨D, r1, kv2, r2, r3, r4⟩ := r
  refine ⟨D, go _ _ r1 (fun _ z => by cases z), kv2, go _ _ r2 (fun _ z => by cases z), r3, fun a => ?_⟩
  have z := r4 a
  cases c : sendI os x.1 a with
  | none => rw [c] at z; exact z
  | some y =>
    obtain ⟨t, w, i⟩ := y
    rw [c] at z
    obtain ⟨p, g1, g2⟩ := z
    exact ⟨p, g1, go _ _ g2 (fun _ z => by cases z)⟩
def sp_Ends (C CE : Addr) : Sp := fun vs H Q _ => ∃ e b dx os, vs = [.ref e, .ref b] ∧ H e = some (.ins CE dx []) ∧ BookAt C H b os ∧ OkB os ∧
  ∀ H' l f ss, (∀ a o, a ≠ e → H a = some o → H' a = some o) → H f = Option.none → EndsAt CE H' e l f os ss 0 → Q .non H'

def sp_stretch_of (CE : Addr) : Sp := fun vs H Q _ => ∃ e l f os ss m d, vs = [.ref e, .int d] ∧ EndsAt CE H e l f os ss m ∧ 0 ≤ d ∧ d ≤ dayM + 30 ∧ ∀ (q : Addr) (i : Nat) (s : Int × Int), ss[i]? = some s → s.1 ≤ d → d ≤ s.2 → SAt os H q s → Q (.ref q) H
def sp_end_of (CE : Addr) : Sp := fun vs H Q _ => ∃ e l f os ss m a d, vs = [.ref e, .str a, .int d] ∧ EndsAt CE H e l f os ss m ∧ OkB os ∧ 0 ≤ d ∧ d ≤ dayM + 30 ∧ m ≤ 10000000 ∧
  ∀ p b bits H', SameX f H H' → EndsAt CE H' e l f os ss (m + (2 * os.length + 2)) → H' p = some (.tup [.str b, .int (bits : Nat)]) → Told os (a, d) b bits → Q (.ref p) H'
theorem make_Ends {C CE : Addr} {H : Hp} {b : Addr} {os : List Ord} {Q : VK} {E : XK} (hb : BookAt C H b os) (ok : OkB os) (k : ∀ e l f ss H', Same H H' → H f = Option.none → EndsAt CE H' e l f os ss 0 → Q (.ref e) H') :
    rMake CE (sp_Ends C CE) E [V.ref b] H Q := by
  intro x dx nx nd ne
  have s0 : Same H (upd (upd H dx (.own x)) x (.ins CE dx [])) := fun b o e => by
    rw [upd_ne (ne_of_none e nx), upd_ne (ne_of_none e nd)]
    exact e
  generalize e0 : upd (upd H dx (.own x)) x (.ins CE dx []) = H2 at s0
  have at2 : H2 x = some (.ins CE dx []) := by rw [← e0]; exact upd_same
  refine ⟨x, b, dx, os, rfl, at2, hb.up (SameN.of s0), ok, fun H' l f ss kp nf z => ⟨rfl, k x l f ss H' (fun b o e => kp b o (ne_of_none e nx) (s0 _ _ e)) (s0.free nf) z⟩⟩
theorem StrOk.uniq {os : List Ord} {ss : List (Int × Int)} (h : StrOk os ss) {i j : Nat} {s t : Int × Int} {d : Int} (hi : ss[i]? = some s) (hj : ss[j]? = some t) (a0 : s.1 ≤ d) (a1 : d ≤ s.2) (b0 : t.1 ≤ d) (b1 : d ≤ t.2) : i = j := by
  rcases Nat.lt_trichotomy i j with z | z | z
  · have := h.asc hi hj z
    omega
  · exact z
  · have := h.asc hj hi z
    omega
theorem Goes.hi {os : List Ord} (ok : OkB os) {n : Nat} {p q : Pt} (h : Goes os (n + 1) p q) : q.2 ≤ dayM + 30 := by
  obtain ⟨r, _, h2⟩ := h.split
  cases h2 with
  | succ st t =>
    cases t
    have := ok.way st
    omega
/-- what is told of one is told of the other, with more bits -/
def Link (os : List Ord) (q : Pt) (c : Nat) (r : Pt) : Prop := ∀ e b, Told os r e b → Told os q e (b ||| c)
/-- the letters on the way, the last one first -/
def Back (os : List Ord) : List (Pt × Nat) → Pt → Pt → Prop
  | [], r, p => p = r
  | (q, c) :: rs, r, p => Link os q c r ∧ Back os rs q p
/-- the number of the order of a source -/
def ixOf (S : SD) (x : Str) : Nat := match S x with
  | some (_, _, i) => i
  | none => 0
theorem ixOf_some {S : SD} {x t : Str} {w : Int} {i : Nat} (h : S x = some (t, w, i)) : ixOf S x = i := by
  unfold ixOf
  rw [h]
theorem bits_of {os : List Ord} (ok : OkB os) {day : Int} {tr : List Str} (on : ∀ x ∈ tr, sendI os day x ≠ none) (i : Nat) :
    (sumB ((nubF tr).map (ixOf (sendI os day)))).testBit i = true ↔ ∃ x ∈ tr, ∃ t w, sendI os day x = some (t, w, i) := by
  have get : ∀ x ∈ tr, ∃ t w, sendI os day x = some (t, w, ixOf (sendI os day) x) := fun x hx => by
    cases c : sendI os day x with
    | none => exact absurd c (on x hx)
    | some y =>
      obtain ⟨t, w, j⟩ := y
      rw [ixOf_some c]
      exact ⟨t, w, rfl⟩
  rw [sumB_bit]
  · constructor
    · intro h
      obtain ⟨x, hx, rfl⟩ := List.mem_map.mp h
      have hx := mem_nubF.mp hx
      exact ⟨x, hx, get x hx⟩
    · rintro ⟨x, hx, t, w, h⟩
      rw [← ixOf_some h]
      exact List.mem_map_of_mem (mem_nubF.mpr hx)
  · refine List.pairwise_map.mpr (List.Pairwise.imp_of_mem (fun {x y} hx hy n z => n ?_) (nubF_nodup tr))
    obtain ⟨t1, w1, h1⟩ := get x (mem_nubF.mp hx)
    obtain ⟨t2, w2, h2⟩ := get y (mem_nubF.mp hy)
    rw [z] at h1
    obtain ⟨o, ho, hh, _⟩ := (sendI_some ok).mp h1
    obtain ⟨u, hu, hk, _⟩ := (sendI_some ok).mp h2
    rw [ho] at hu
    cases hu
    simp only [Ord.holds, Bool.and_eq_true, decide_eq_true_eq] at hh hk
    exact hh.1.symm.trans hk.1
theorem sum_cast (ks : List Nat) : (ks.map fun k => (2 : Int) ^ k).sum = (sumB ks : Nat) := by
  induction ks with
  | nil => rfl
  | cons k ks ih =>
    have e : sumB (k :: ks) = 2 ^ k + sumB ks := by simp [sumB]
    rw [List.map_cons, List.sum_cons, ih, e, Int.natCast_add, Int.natCast_pow]
    rfl
/-- the walked letters as they stand -/
def WkAt (H : Hp) (p : Addr) (g : Pt × Nat) : Prop := ∃ lt, H p = some (.tup [.ref lt, .int (g.2 : Nat)]) ∧ H lt = some (.tup [.str g.1.1, .int g.1.2])
theorem WkAt.up {H H' : Hp} {p : Addr} {g : Pt × Nat} (s : ∀ b vs, H b = some (.tup vs) → H' b = some (.tup vs)) (h : WkAt H p g) : WkAt H' p g := by
  obtain ⟨lt, h1, h2⟩ := h
  exact ⟨lt, s _ _ h1, s _ _ h2⟩
theorem dputT_of {H : Hp} {f p : Addr} {kvs : List (List Key × V)} {k : List Key} {v : V} {q : Hp → Prop} (h : H f = some (.dT kvs)) (hp : H p = some (.tup (k.map kV))) (small : kvs.length < 16777216) (z : q (upd H f (.dT (putK kvs k v)))) : rDPut v (.ref f) (.ref p) H q :=
  ⟨f, _, rfl, DPut.t h hp (Nat.lt_of_lt_of_le small (by decide)), z⟩
theorem valT_put {kvs : List (List Key × V)} {k j : List Key} {v : V} : valV (putK kvs k v) j = if j = k then some v else valV kvs j := valV_put _ _ _ _
theorem keyT {a b : Str} {c d : Int} (h : ([Sum.inr a, Sum.inl c] : List Key) = [Sum.inr b, Sum.inl d]) : a = b ∧ c = d := by
  injection h with h1 h2
  injection h2 with h2 _
  exact ⟨Sum.inr.inj h1, Sum.inl.inj h2⟩
theorem GoesT.nil_eq {S : SD} {L : Int} {tr : List Str} {p q : Pt} (h : GoesT S L tr p q) (e : tr = []) : q = p := by
  cases h with
  | zero => rfl
  | snoc => simp at e
section
variable {P : Program} {w : World} {K : PySem.W.Frag} {mg : Str → Option Value} {base : Heap}
end
end K47
namespace K47
open PySem PySem.Spec PyProof.Rows L2 StX ClX My
local macro_rules | `(tactic| walk_at "rd") => `(tactic| try simp only [L2.start, List.map_cons, List.map_nil, List.length_cons, List.length_nil, List.cons_append, List.nil_append, List.reduceReplicate, List.replicate_zero, Nat.reduceAdd, Nat.reduceSub,
  List.getElem?_cons_zero, List.getElem?_cons_succ, List.set_cons_zero, List.set_cons_succ, Option.some.injEq, exists_eq_left', exists_eq_left, exists_eq_right, exists_eq_right', V.int.injEq, V.bl.injEq, V.str.injEq, V.ref.injEq, V.ty.injEq, List.cons.injEq, and_true, true_and, and_assoc,
  exists_and_left, exists_const, tVar, tC, tB, tAnd, tOr, tNot, tAndV, tOrV, tNotV, tIf, tSeq, tNext, iStr, iEnumT, iZip, RZ.iZipA, iRev, iList, iTup, iRng1, iRng2, tLc_eq, tDc_eq, tFor_eq, tYes, wipe, tBreak, tCont, tDrop, tRet, tRetN, tIfS, gName, gNil, gCons, gTup, tAsg, tPar, tOp, tUn, rI, rI0, rU, tTest, tChain, tNil, tCons, tTup, tLst, tCB, tFld_eq, tCVal_eq, tProp_eq, tMeth_eq, tMethR_eq, tCMeth, tMakeSL, tDNotIn, tDGet_eq, tDSetd, tDIn_eq, sDPut_eq, tNever, tMakeR_eq, tCKw_eq, tDNewK, tDNewT, tWhile, gSub_eq, tBM_eq, sFld, tPart, tNoPart, tSl, cx_K, cx_w, tCall, cx_K, tCall,
  Bool.false_eq_true, if_true, if_false, ite_true, ite_false, Bool.not_true, Bool.not_false, reduceIte, decide_eq_true_eq, eq_self_iff_true, reduceCtorEq, false_and, and_false, exists_false])
local macro_rules | `(tactic| walk_at "go") => `(tactic| (repeat (first | refine ixT_of (by assumption) (by rfl) ?_ | refine eqI_of ?_ | refine eqS_of ?_ | refine neI_of ?_); try walk_at "rd"))
/-- after so many days a letter has come into a loop of so many days, or to its end -/
def Settles (os : List Ord) (b : Int) (a : Str) (dy per : Int) : Prop := ∃ c tr1 tr2, (∀ x L, x + dy ≤ L → GoesT (sendI os b) L tr1 (a, x) (c, x + dy)) ∧
  (tr2 = ([] : List Str) ∧ sendI os b c = none ∧ per = 1 ∨ ∀ x L, x + per ≤ L → GoesT (sendI os b) L tr2 (c, x) (c, x + per))
def sp_settling : Sp := fun vs H Q _ => ∃ (D : Addr) (os : List Ord) (b : Int) (a : Str), vs = [.ref D, .str a] ∧ SendAt H D (sendI os b) ∧ OkB os ∧
  ∀ p dy per H', Same H H' → H' p = some (.tup [.int dy, .int per]) → Settles os b a dy per → 0 ≤ dy → 1 ≤ per → dy + per ≤ 30 * os.length + 1 → Q (.ref p) H'
theorem few_src {os : List Ord} (ok : OkB os) {b : Int} {ls : List Str} (nd : ls.Nodup) (on : ∀ a ∈ ls, sendI os b a ≠ none) : ls.length ≤ os.length := by
  have get : ∀ x ∈ ls, ∃ o, os[ixOf (sendI os b) x]? = some o ∧ o.src = x := fun x hx => by
    cases c : sendI os b x with
    | none => exact absurd c (on x hx)
    | some y =>
      obtain ⟨t, w, j⟩ := y
      obtain ⟨o, ho, hh, _⟩ := (sendI_some ok).mp c
      rw [ixOf_some c]
      simp only [Ord.holds, Bool.and_eq_true, decide_eq_true_eq] at hh
      exact ⟨o, ho, hh.1⟩
  have h := nodup_le (l := ls.map (ixOf (sendI os b))) (m := List.range os.length) ?_ fun i hi => ?_
  · rw [List.length_map, List.length_range] at h
    exact h
  · refine List.pairwise_map.mpr (List.Pairwise.imp_of_mem (fun {x y} hx hy n z => n ?_) nd)
    obtain ⟨o, h1, h2⟩ := get x hx
    obtain ⟨u, g1, g2⟩ := get y hy
    rw [z, g1] at h1
    cases h1
    exact h2.symm.trans g2
  · obtain ⟨x, hx, rfl⟩ := List.mem_map.mp hi
    obtain ⟨o, h1, _⟩ := get x hx
    exact List.mem_range.mpr (List.getElem?_eq_some_iff.mp h1).1
theorem sendI_way {os : List Ord} (ok : OkB os) {day w : Int} {a t : Str} {i : Nat} (h : sendI os day a = some (t, w, i)) : 1 ≤ w ∧ w ≤ 30 := by
  obtain ⟨o, ho, hh, rfl, rfl⟩ := (sendI_some ok).mp h
  have d := okO_day (ok.mem (List.mem_of_getElem? ho))
  exact ⟨d.2.2.2.1, d.2.2.2.2⟩
section
variable {P : Program} {w : World} {K : PySem.W.Frag} {mg : Str → Option Value} {base : Heap}
end
end K47
namespace K47
open PySem PySem.Spec PyProof.Rows L2 StX ClX My
/-! ### daily letters in groups -/
def EndsIn (os : List Ord) (p : Pt) (e : Str) : Prop := ∃ q, Whole os p q ∧ q.1 = e
theorem EndsIn.det {os : List Ord} {p : Pt} {e u : Str} (a : EndsIn os p e) (b : EndsIn os p u) : e = u := by
  obtain ⟨q, h1, rfl⟩ := a
  obtain ⟨r, h2, rfl⟩ := b
  rw [h1.det h2]
theorem EndsIn.goes {os : List Ord} {p q : Pt} {n : Nat} (g : Goes os n p q) (e : Str) : EndsIn os p e ↔ EndsIn os q e :=
  ⟨fun ⟨r, h1, h2⟩ => ⟨r, .front g h1, h2⟩, fun ⟨r, h1, h2⟩ => ⟨r, .back g h1, h2⟩⟩
theorem EndsIn.ex {os : List Ord} (ok : OkB os) (p : Pt) : ∃ e, EndsIn os p e := by
  obtain ⟨q, h⟩ := Whole.ex ok p
  exact ⟨_, q, h, rfl⟩
theorem Told.ends {os : List Ord} {p : Pt} {e : Str} {b : Nat} (h : Told os p e b) : EndsIn os p e := by
  obtain ⟨q, h1, h2, _⟩ := h
  exact ⟨q, h1, h2⟩
theorem settle_same {os : List Ord} (ok : OkB os) {ss : List (Int × Int)} (sok : StrOk os ss) {j : Nat} {s : Int × Int} (hs : ss[j]? = some s) {a : Str} {dy per : Int} (st : Settles os s.1 a dy per) (dy0 : 0 ≤ dy) (p1 : 1 ≤ per) {x : Int} (x0 : s.1 ≤ x) (x1 : x + per ≤ s.2 - dy) :
    (∀ e, EndsIn os (a, x) e ↔ EndsIn os (a, x + per) e) ∧ ∀ i, Uses os (a, x + per) i → Uses os (a, x) i := by
  obtain ⟨c, tr1, tr2, h1, h2⟩ := st
  have g1 := h1 x s.2 (by omega)
  have g3 := h1 (x + per) s.2 (by omega)
  have k1 := g1.goesS ok sok hs (Int.le_refl _) x0
  have k3 := g3.goesS ok sok hs (Int.le_refl _) (by dsimp only; omega)
  have u1 := g1.uses ok sok hs (Int.le_refl _) x0
  have u3 := g3.uses ok sok hs (Int.le_refl _) (by dsimp only; omega)
  rcases h2 with ⟨_, hc, rfl⟩ | h2
  · have stop : ∀ y, s.1 ≤ y → y ≤ s.2 → step os (c, y) = none := fun y y0 y1 => (step_none ok).mpr (by rw [sok.send hs y0 y1]; exact hc)
    have fin : ∀ y, s.1 ≤ y → y ≤ s.2 → ∀ e, EndsIn os (c, y) e ↔ c = e := fun y y0 y1 e => by
      have w : Whole os (c, y) (c, y) := ⟨0, .zero _, stop y y0 y1⟩
      constructor
      · rintro ⟨q, h, rfl⟩
        rw [← w.det h]
      · rintro rfl
        exact ⟨_, w, rfl⟩
    have none_ : ∀ y, s.1 ≤ y → y ≤ s.2 → ∀ i, ¬ Uses os (c, y) i := fun y y0 y1 i h => by
      obtain ⟨q, _, _, t⟩ := Told.stop (stop y y0 y1) ok
      have := (t i).mpr h
      simp at this
    refine ⟨fun e => ?_, fun i h => ?_⟩
    · rw [EndsIn.goes k1, EndsIn.goes k3, fin _ (by omega) (by omega), fin _ (by omega) (by omega)]
    · rw [u1]
      rcases (u3 i).mp h with z | z
      · exact .inl z
      · exact absurd z (none_ _ (by omega) (by omega) i)
  · have g2 := h2 (x + dy) s.2 (by omega)
    have k2 := g2.goesS ok sok hs (Int.le_refl _) (by dsimp only; omega)
    have e1 : x + per + dy = x + dy + per := by omega
    rw [e1] at k3 u3
    refine ⟨fun e => ?_, fun i h => ?_⟩
    · rw [EndsIn.goes k1, EndsIn.goes k2, EndsIn.goes k3]
    · rw [u1]
      rcases (u3 i).mp h with z | z
      · exact .inl z
      · exact .inr (.later k2 z)
structure DG where
  day : Int
  latest : Int
  ds : List Int
structure DayG (os : List Ord) (a : Str) (g : DG) : Prop where
  nd : g.ds.Nodup
  first : g.day ∈ g.ds
  last : g.latest ∈ g.ds
  in_ : ∀ d ∈ g.ds, g.day ≤ d ∧ d ≤ g.latest
  same : ∀ d ∈ g.ds, ∀ e, EndsIn os (a, d) e ↔ EndsIn os (a, g.day) e
  uses : ∀ d ∈ g.ds, ∀ i, Uses os (a, d) i → Uses os (a, g.day) i
def DaysOk (os : List Ord) (a : Str) (gs : List DG) (f l : Int) : Prop := (∀ g ∈ gs, DayG os a g) ∧ (gs.flatMap DG.ds).Nodup ∧ ∀ d, d ∈ gs.flatMap DG.ds ↔ f ≤ d ∧ d ≤ l
def mkG (f per st : Int) (r : Nat) : DG := ⟨f + r, f + r + (st - (f + r)) / per * per, (List.range (((st - (f + r)) / per).toNat + 1)).map fun k : Nat => f + r + k * per⟩
def sgl (d : Int) : DG := ⟨d, d, [d]⟩
def mxI (m n : Int) : Int := if n > m then n else m
def mnI (m n : Int) : Int := if n < m then n else m
theorem mxI_def (m n : Int) : m ≤ mxI m n ∧ n ≤ mxI m n ∧ (mxI m n = m ∨ mxI m n = n) := by unfold mxI; split <;> omega
theorem mnI_def (m n : Int) : mnI m n ≤ m ∧ mnI m n ≤ n ∧ (mnI m n = m ∨ mnI m n = n) := by unfold mnI; split <;> omega
def daysOf (f l per st : Int) : List DG := (List.range (mnI (f + per) (st + 1) - f).toNat).map (mkG f per st) ++ (List.range (l + 1 - mxI f (st + 1)).toNat).map fun k : Nat => sgl (mxI f (st + 1) + k)
theorem mul_lt_of {k per x : Int} (p1 : 1 ≤ per) (x0 : 0 ≤ x) : k ≤ x / per ↔ k * per ≤ x := Int.le_ediv_iff_mul_le (by omega)
theorem days_ok {os : List Ord} {a : Str} {f l per st : Int} (p1 : 1 ≤ per) (stl : st ≤ l)
    (same : ∀ x, f ≤ x → x + per ≤ st → (∀ e, EndsIn os (a, x) e ↔ EndsIn os (a, x + per) e) ∧ ∀ i, Uses os (a, x + per) i → Uses os (a, x) i) : DaysOk os a (daysOf f l per st) f l := by
  have mn := mnI_def (f + per) (st + 1)
  have mx := mxI_def f (st + 1)
  -- many rounds
  have far : ∀ (k : Nat) (x : Int), f ≤ x → x + k * per ≤ st → (∀ e, EndsIn os (a, x + k * per) e ↔ EndsIn os (a, x) e) ∧ ∀ i, Uses os (a, x + k * per) i → Uses os (a, x) i := by
    intro k
    induction k with
    | zero => intro x _ _; simp
    | succ k ih =>
      intro x x0 x1
      have e : ((k + 1 : Nat) : Int) * per = k * per + per := by rw [Int.natCast_succ, Int.add_mul, Int.one_mul]
      have nn : 0 ≤ (k : Int) * per := Int.mul_nonneg (Int.natCast_nonneg k) (by omega)
      rw [e] at x1 ⊢
      have h1 := ih x x0 (by omega)
      have h2 := same (x + k * per) (by omega) (by omega)
      rw [← Int.add_assoc]
      exact ⟨fun e => (h2.1 e).symm.trans (h1.1 e), fun i h => h1.2 i (h2.2 i h)⟩
  have memG : ∀ (r : Nat) (d : Int), f + r ≤ st → (d ∈ (mkG f per st r).ds ↔ ∃ k : Nat, d = f + r + k * per ∧ d ≤ st) := by
    intro r d le
    unfold mkG
    simp only [List.mem_map, List.mem_range]
    constructor
    · rintro ⟨k, hk, rfl⟩
      have q0 : 0 ≤ (st - (f + r)) / per := Int.ediv_nonneg (by omega) (by omega)
      have := (mul_lt_of (k := k) p1 (x := st - (f + r)) (by omega)).mp (by omega)
      exact ⟨k, rfl, by omega⟩
    · rintro ⟨k, rfl, h⟩
      have := (mul_lt_of (k := k) p1 (x := st - (f + r)) (by omega)).mpr (by omega)
      exact ⟨k, by omega, rfl⟩
  have rlt : ∀ r : Nat, r < (mnI (f + per) (st + 1) - f).toNat → f + r ≤ st ∧ (r : Int) < per := fun r hr => by omega
  -- a place in the round and the round
  have parts : ∀ (r r' : Nat) (k k' : Nat), (r : Int) < per → (r' : Int) < per → (r : Int) + k * per = r' + k' * per → r = r' ∧ k = k' := by
    intro r r' k k' h1 h2 e
    have a1 : ((r : Int) + k * per) / per = k := by rw [Int.add_mul_ediv_right _ _ (by omega), Int.ediv_eq_zero_of_lt (by omega) h1]; omega
    have a2 : ((r' : Int) + k' * per) / per = k' := by rw [Int.add_mul_ediv_right _ _ (by omega), Int.ediv_eq_zero_of_lt (by omega) h2]; omega
    rw [e, a2] at a1
    have e2 : k = k' := by omega
    subst e2
    exact ⟨by omega, rfl⟩
  have ndG : ∀ r : Nat, (mkG f per st r).ds.Nodup := by
    intro r
    unfold mkG
    refine List.pairwise_map.mpr (List.Pairwise.imp (fun {x y} n z => n ?_) List.nodup_range)
    have z : (x : Int) * per = y * per := by omega
    have := Int.eq_of_mul_eq_mul_right (by omega) z
    omega
  refine ⟨fun g hg => ?_, ?_, fun d => ?_⟩
  · rcases List.mem_append.mp hg with h | h
    · obtain ⟨r, hr, rfl⟩ := List.mem_map.mp h
      obtain ⟨r1, r2⟩ := rlt r (List.mem_range.mp hr)
      have q0 : 0 ≤ (st - (f + r)) / per := Int.ediv_nonneg (by omega) (by omega)
      have e0 : ((((st - (f + r)) / per).toNat : Nat) : Int) = (st - (f + r)) / per := Int.toNat_of_nonneg q0
      have inn : ∀ d ∈ (mkG f per st r).ds, ∃ k : Nat, d = f + r + k * per ∧ d ≤ st := fun d hd => (memG r d r1).mp hd
      refine ⟨ndG r, (memG r _ r1).mpr ⟨0, by show f + r = _; simp, r1⟩, ?_, fun d hd => ?_, fun d hd e => ?_, fun d hd i h => ?_⟩
      · refine List.mem_map.mpr ⟨((st - (f + r)) / per).toNat, List.mem_range.mpr (by omega), ?_⟩
        rw [e0]
        rfl
      · obtain ⟨k, hk, e⟩ := List.mem_map.mp hd
        have hk := List.mem_range.mp hk
        have nn : 0 ≤ (k : Int) * per := Int.mul_nonneg (Int.natCast_nonneg k) (by omega)
        have le : (k : Int) * per ≤ (st - (f + r)) / per * per := Int.mul_le_mul_of_nonneg_right (by omega) (by omega)
        rw [← e]
        show f + r ≤ _ ∧ _ ≤ f + r + (st - (f + r)) / per * per
        omega
      · obtain ⟨k, rfl, le⟩ := inn d hd
        exact (far k (f + r) (by omega) le).1 e
      · obtain ⟨k, rfl, le⟩ := inn d hd
        exact (far k (f + r) (by omega) le).2 i h
    · obtain ⟨k, hk, rfl⟩ := List.mem_map.mp h
      refine ⟨List.nodup_cons.mpr ⟨by simp, List.nodup_nil⟩, List.mem_cons_self, List.mem_cons_self, fun d hd => ?_, fun d hd e => ?_, fun d hd i h => ?_⟩
      · rw [List.mem_singleton.mp hd]
        exact ⟨Int.le_refl _, Int.le_refl _⟩
      · rw [List.mem_singleton.mp hd]
        exact Iff.rfl
      · rw [List.mem_singleton.mp hd] at h
        exact h
  · unfold List.Nodup daysOf
    rw [List.pairwise_flatMap]
    refine ⟨fun g hg => ?_, ?_⟩
    · rcases List.mem_append.mp hg with h | h
      · obtain ⟨r, _, rfl⟩ := List.mem_map.mp h
        exact ndG r
      · obtain ⟨k, _, rfl⟩ := List.mem_map.mp h
        exact List.nodup_cons.mpr ⟨by simp, List.nodup_nil⟩
    · rw [List.pairwise_append]
      refine ⟨?_, ?_, ?_⟩
      · refine List.pairwise_map.mpr (List.Pairwise.imp_of_mem (fun {r r'} hr hr' n x hx y hy e => n ?_) List.nodup_range)
        obtain ⟨r1, r2⟩ := rlt r (List.mem_range.mp hr)
        obtain ⟨q1, q2⟩ := rlt r' (List.mem_range.mp hr')
        obtain ⟨k, rfl, _⟩ := (memG r x r1).mp hx
        obtain ⟨k', e', _⟩ := (memG r' y q1).mp hy
        exact (parts r r' k k' r2 q2 (by omega)).1
      · refine List.pairwise_map.mpr (List.Pairwise.imp (fun {x y} n u hu v hv e => n ?_) List.nodup_range)
        rw [List.mem_singleton.mp hu, List.mem_singleton.mp hv] at e
        omega
      · intro g hg h hh x hx y hy e
        obtain ⟨r, hr, rfl⟩ := List.mem_map.mp hg
        obtain ⟨k, hk, rfl⟩ := List.mem_map.mp hh
        obtain ⟨r1, r2⟩ := rlt r (List.mem_range.mp hr)
        obtain ⟨k', _, le⟩ := (memG r x r1).mp hx
        have := List.mem_singleton.mp hy
        omega
  · unfold daysOf
    rw [List.flatMap_append, List.mem_append, List.mem_flatMap, List.mem_flatMap]
    constructor
    · rintro (⟨g, hg, hd⟩ | ⟨g, hg, hd⟩)
      · obtain ⟨r, hr, rfl⟩ := List.mem_map.mp hg
        obtain ⟨r1, r2⟩ := rlt r (List.mem_range.mp hr)
        obtain ⟨k, rfl, le⟩ := (memG r d r1).mp hd
        have nn : 0 ≤ (k : Int) * per := Int.mul_nonneg (Int.natCast_nonneg k) (by omega)
        omega
      · obtain ⟨k, hk, rfl⟩ := List.mem_map.mp hg
        have := List.mem_singleton.mp hd
        have := List.mem_range.mp hk
        omega
    · rintro ⟨h1, h2⟩
      by_cases c : d ≤ st
      · left
        have m0 : 0 ≤ (d - f) % per := Int.emod_nonneg _ (by omega)
        have m1 : (d - f) % per < per := Int.emod_lt_of_pos _ (by omega)
        have d0 : 0 ≤ (d - f) / per := Int.ediv_nonneg (by omega) (by omega)
        have e := Int.emod_add_mul_ediv (d - f) per
        have e1 : ((((d - f) % per).toNat : Nat) : Int) = (d - f) % per := Int.toNat_of_nonneg m0
        have e2 : ((((d - f) / per).toNat : Nat) : Int) = (d - f) / per := Int.toNat_of_nonneg d0
        have nn : 0 ≤ per * ((d - f) / per) := Int.mul_nonneg (by omega) d0
        have hr : ((d - f) % per).toNat < (mnI (f + per) (st + 1) - f).toNat := by omega
        refine ⟨_, List.mem_map.mpr ⟨((d - f) % per).toNat, List.mem_range.mpr hr, rfl⟩, ?_⟩
        refine (memG _ d (rlt _ hr).1).mpr ⟨((d - f) / per).toNat, ?_, c⟩
        rw [e1, e2, Int.mul_comm ((d - f) / per) per]
        omega
      · right
        refine ⟨sgl d, List.mem_map.mpr ⟨(d - mxI f (st + 1)).toNat, List.mem_range.mpr (by omega), ?_⟩, List.mem_cons_self⟩
        have : mxI f (st + 1) + ((d - mxI f (st + 1)).toNat : Nat) = d := by omega
        rw [this]
end K47
namespace K47
open PySem PySem.Spec PyProof.Rows L2 StX ClX My
local macro_rules | `(tactic| walk_at "rd") => `(tactic| try simp only [L2.start, List.map_cons, List.map_nil, List.length_cons, List.length_nil, List.cons_append, List.nil_append, List.reduceReplicate, List.replicate_zero, Nat.reduceAdd, Nat.reduceSub,
  List.getElem?_cons_zero, List.getElem?_cons_succ, List.set_cons_zero, List.set_cons_succ, Option.some.injEq, exists_eq_left', exists_eq_left, exists_eq_right, exists_eq_right', V.int.injEq, V.bl.injEq, V.str.injEq, V.ref.injEq, V.ty.injEq, List.cons.injEq, and_true, true_and, and_assoc,
  exists_and_left, exists_const, tVar, tC, tB, tAnd, tOr, tNot, tAndV, tOrV, tNotV, tIf, tSeq, tNext, iStr, iEnumT, iZip, RZ.iZipA, iRev, iList, iTup, iRng1, iRng2, tLc_eq, tDc_eq, tFor_eq, tYes, wipe, tBreak, tCont, tDrop, tRet, tRetN, tIfS, gName, gNil, gCons, gTup, tAsg, tPar, tOp, tUn, rI, rI0, rU, tTest, tChain, tNil, tCons, tTup, tLst, tCB, tFld_eq, tCVal_eq, tProp_eq, tMeth_eq, tMethR_eq, tCMeth, tMakeSL, tDNotIn, tDGet_eq, tDSetd, tDIn_eq, sDPut_eq, tNever, tMakeR_eq, tCKw_eq, tDNewK, tDNewT, tWhile, gSub_eq, tBM_eq, sFld, tPart, tNoPart, tSl, cx_K, cx_w, tCall, cx_K, tCall,
  Bool.false_eq_true, if_true, if_false, ite_true, ite_false, Bool.not_true, Bool.not_false, reduceIte, decide_eq_true_eq, eq_self_iff_true, reduceCtorEq, false_and, and_false, exists_false])
local macro_rules | `(tactic| walk_at "go") => `(tactic| (repeat (first | refine ixT_of (by assumption) (by rfl) ?_ | refine eqI_of ?_ | refine eqS_of ?_ | refine neI_of ?_); try walk_at "rd"))
/-- a tuple of a first day, a last day and a number -/
def DGAt (H : Hp) (q : Addr) (g : DG) : Prop := H q = some (.tup [.int g.day, .int g.latest, .int (g.ds.length : Nat)])
def sp_alike : Sp := fun vs H Q _ => ∃ (D : Addr) (os : List Ord) (ss : List (Int × Int)) (j : Nat) (s : Int × Int) (a : Str) (f l : Int), vs = [.ref D, .int s.2, .str a, .int f, .int l] ∧ SendAt H D (sendI os s.1) ∧ OkB os ∧ StrOk os ss ∧ ss[j]? = some s ∧ s.1 ≤ f ∧ l ≤ s.2 ∧ f ≤ 2 ^ 61 ∧ 0 ≤ l ∧
  ∀ p qs gs H', Same H H' → H p = Option.none → H' p = some (.lst (qs.map V.ref)) → Paired (DGAt H') qs gs → DaysOk os a gs f l → gs.length ≤ 30 * os.length + 1 → Q (.ref p) H'
section
variable {P : Program} {w : World} {K : PySem.W.Frag} {mg : Str → Option Value} {base : Heap}
end
end K47
namespace K47
open PySem PySem.Spec PyProof.Rows L2 StX ClX My
local macro_rules | `(tactic| walk_at "rd") => `(tactic| try simp only [L2.start, List.map_cons, List.map_nil, List.length_cons, List.length_nil, List.cons_append, List.nil_append, List.reduceReplicate, List.replicate_zero, Nat.reduceAdd, Nat.reduceSub,
  List.getElem?_cons_zero, List.getElem?_cons_succ, List.set_cons_zero, List.set_cons_succ, Option.some.injEq, exists_eq_left', exists_eq_left, exists_eq_right, exists_eq_right', V.int.injEq, V.bl.injEq, V.str.injEq, V.ref.injEq, V.ty.injEq, List.cons.injEq, and_true, true_and, and_assoc,
  exists_and_left, exists_const, tVar, tC, tB, tAnd, tOr, tNot, tAndV, tOrV, tNotV, tIf, tSeq, tNext, iStr, iEnumT, iZip, RZ.iZipA, iRev, iList, iTup, iRng1, iRng2, tLc_eq, tDc_eq, tFor_eq, tYes, wipe, tBreak, tCont, tDrop, tRet, tRetN, tIfS, gName, gNil, gCons, gTup, tAsg, tPar, tOp, tUn, rI, rI0, rU, tTest, tChain, tNil, tCons, tTup, tLst, tCB, tFld_eq, tCVal_eq, tProp_eq, tMeth_eq, tMethR_eq, tCMeth, tMakeSL, tDNotIn, tDGet_eq, tDSetd, tDIn_eq, sDPut_eq, tNever, tMakeR_eq, tCKw_eq, tDNewK, tDNewT, tWhile, gSub_eq, tBM_eq, sFld, tPart, tNoPart, tSl, cx_K, cx_w, tCall, cx_K, tCall,
  Bool.false_eq_true, if_true, if_false, ite_true, ite_false, Bool.not_true, Bool.not_false, reduceIte, decide_eq_true_eq, eq_self_iff_true, reduceCtorEq, false_and, and_false, exists_false])
local macro_rules | `(tactic| walk_at "go") => `(tactic| (repeat (first | refine ixT_of (by assumption) (by rfl) ?_ | refine eqI_of ?_ | refine eqS_of ?_ | refine neI_of ?_); try walk_at "rd"))
/-- a group: where it ends, by which orders, and its days -/
structure GG where
  en : Str
  bits : Nat
  g : DG
def GGAt (H : Hp) (q : Addr) (x : GG) : Prop := H q = some (.tup [.str x.en, .int (x.bits : Nat), .int x.g.day, .int x.g.latest, .int (x.g.ds.length : Nat)])
structure GrG (os : List Ord) (a : Str) (x : GG) : Prop where
  days : DayG os a x.g
  told : Told os (a, x.g.day) x.en x.bits
def GrOk (os : List Ord) (a : Str) (gs : List GG) (P : Int → Prop) : Prop := (∀ x ∈ gs, GrG os a x) ∧ (gs.flatMap fun x => x.g.ds).Nodup ∧ ∀ d, d ∈ (gs.flatMap fun x => x.g.ds) ↔ P d
def capG (n : Nat) : Nat := (2 * n + 1) * (30 * n + 1)
def sp_groups (CE : Addr) : Sp := fun vs H Q _ => ∃ e lS fd os ss m a f l, vs = [.ref e, .str a, .int f, .int l] ∧ EndsAt CE H e lS fd os ss m ∧ OkB os ∧ 0 ≤ f ∧ f ≤ dayM ∧ 0 ≤ l ∧ l ≤ dayM ∧ m + capG os.length * (2 * os.length + 2) ≤ 10000000 ∧
  ∀ p qs gs H', SameX fd H H' → EndsAt CE H' e lS fd os ss (m + capG os.length * (2 * os.length + 2)) → H' p = some (.lst (qs.map V.ref)) → Paired (GGAt H') qs gs → GrOk os a gs (fun d => f ≤ d ∧ d ≤ l) → gs.length ≤ capG os.length → Q (.ref p) H'
theorem EndsAt.more {C : Addr} {H : Hp} {e l f : Addr} {os : List Ord} {ss : List (Int × Int)} {m n : Nat} (h : EndsAt C H e l f os ss m) (le : m ≤ n) : EndsAt C H e l f os ss n := by
  obtain ⟨kvs, h1, h2, h3⟩ := h.found
  exact ⟨h.obj, h.str, h.sok, kvs, h1, by omega, h3⟩
theorem ref_inj : ∀ {l m : List Addr}, l.map V.ref = m.map V.ref → l = m
  | [], [], _ => rfl
  | [], _ :: _, h => by simp at h
  | _ :: _, [], h => by simp at h
  | a :: l, b :: m, h => by
    rw [List.map_cons, List.map_cons] at h
    injection h with h1 h2
    injection h1 with h1
    rw [h1, ref_inj h2]
theorem GGAt.up {H H' : Hp} {q : Addr} {x : GG} (s : ∀ b vs, H b = some (.tup vs) → H' b = some (.tup vs)) (h : GGAt H q x) : GGAt H' q x := s _ _ h
section
variable {P : Program} {w : World} {K : PySem.W.Frag} {mg : Str → Option Value} {base : Heap}
end
end K47
namespace K47
open PySem PySem.Spec PyProof.Rows L2 StX ClX My
local macro_rules | `(tactic| walk_at "rd") => `(tactic| try simp only [L2.start, List.map_cons, List.map_nil, List.length_cons, List.length_nil, List.cons_append, List.nil_append, List.reduceReplicate, List.replicate_zero, Nat.reduceAdd, Nat.reduceSub,
  List.getElem?_cons_zero, List.getElem?_cons_succ, List.set_cons_zero, List.set_cons_succ, Option.some.injEq, exists_eq_left', exists_eq_left, exists_eq_right, exists_eq_right', V.int.injEq, V.bl.injEq, V.str.injEq, V.ref.injEq, V.ty.injEq, List.cons.injEq, and_true, true_and, and_assoc,
  exists_and_left, exists_const, tVar, tC, tB, tAnd, tOr, tNot, tAndV, tOrV, tNotV, tIf, tSeq, tNext, iStr, iEnumT, iZip, RZ.iZipA, iRev, iList, iTup, iRng1, iRng2, tLc_eq, tDc_eq, tFor_eq, tYes, wipe, tBreak, tCont, tDrop, tRet, tRetN, tIfS, gName, gNil, gCons, gTup, tAsg, tPar, tOp, tUn, rI, rI0, rU, tTest, tChain, tNil, tCons, tTup, tLst, tCB, tFld_eq, tCVal_eq, tProp_eq, tMeth_eq, tMethR_eq, tCMeth, tMakeSL, tDNotIn, tDGet_eq, tDSetd, tDIn_eq, sDPut_eq, tNever, tMakeR_eq, tCKw_eq, tDNewK, tDNewT, tWhile, gSub_eq, tBM_eq, sFld, tPart, tNoPart, tSl, cx_K, cx_w, tCall, cx_K, tCall,
  Bool.false_eq_true, if_true, if_false, ite_true, ite_false, Bool.not_true, Bool.not_false, reduceIte, decide_eq_true_eq, eq_self_iff_true, reduceCtorEq, false_and, and_false, exists_false])
local macro_rules | `(tactic| walk_at "go") => `(tactic| (repeat (first | refine ixT_of (by assumption) (by rfl) ?_ | refine eqI_of ?_ | refine eqS_of ?_ | refine neI_of ?_); try walk_at "rd"))
local macro_rules | `(tactic| walk_at "r2") => `(tactic| ((walk_at "rd"); (try simp only [tPar3, tDGet2]); (walk_at "rd")))

local macro_rules | `(tactic| walk_at "rl") => `(tactic| ((walk_at "r2"); (try simp only [tLstRg, tRg1, tRg2]); (walk_at "r2")))
/-! ### counting -/
def sp_check_days : Sp := fun vs H Q _ => ∃ a f l, vs = [.str a, .int f, .int l] ∧ adrB (.str a) = true ∧ 0 ≤ f ∧ f ≤ l ∧ l ≤ dayM ∧ ∀ H', Same H H' → Q .non H'
theorem EndsIn.among {os : List Ord} {a e : Str} {d : Int} (h : EndsIn os (a, d) e) : e ∈ a :: os.map Ord.tgt := by
  obtain ⟨q, ⟨k, g, _⟩, rfl⟩ := h
  have main : ∀ {n : Nat} {p q : Pt}, Goes os n p q → q.1 ∈ p.1 :: os.map Ord.tgt := by
    intro n p q g
    induction g with
    | zero => exact List.mem_cons_self
    | @succ n p r q st _ ih =>
      unfold step at st
      cases f : os.find? fun o => o.holds p.1 p.2 with
      | none => rw [f] at st; cases st
      | some o =>
        rw [f] at st
        have e := Option.some.inj st
        have m := List.mem_map_of_mem (f := Ord.tgt) (List.mem_of_find?_eq_some f)
        refine List.mem_cons_of_mem _ ?_
        rcases List.mem_cons.mp ih with z | z
        · rw [z, ← e]
          exact m
        · exact z
  exact main g
theorem GrG.ends {os : List Ord} {a : Str} {x : GG} (h : GrG os a x) {d : Int} (hd : d ∈ x.g.ds) : EndsIn os (a, d) x.en := (h.days.same d hd _).mpr h.told.ends
/-- how many days of the groups end there -/
def cntG (gs : List GG) (e : Str) : Nat := ((gs.filter fun x => decide (x.en = e)).map fun x => x.g.ds.length).sum
theorem cntG_num {os : List Ord} {a : Str} {gs : List GG} {P : Int → Prop} (h : GrOk os a gs P) (e : Str) : Num (fun d => P d ∧ EndsIn os (a, d) e) (cntG gs e) := by
  refine ⟨(gs.filter fun x => decide (x.en = e)).flatMap fun x => x.g.ds, ?_, fun d => ?_, ?_⟩
  · have n := h.2.1
    unfold List.Nodup at n ⊢
    rw [List.pairwise_flatMap] at n ⊢
    exact ⟨fun x hx => n.1 x (List.mem_filter.mp hx).1, n.2.filter _⟩
  · rw [List.mem_flatMap]
    constructor
    · rintro ⟨x, hx, hd⟩
      obtain ⟨h1, h2⟩ := List.mem_filter.mp hx
      have h2 := of_decide_eq_true h2
      exact ⟨(h.2.2 d).mp (List.mem_flatMap.mpr ⟨x, h1, hd⟩), h2 ▸ (h.1 x h1).ends hd⟩
    · rintro ⟨h1, h2⟩
      obtain ⟨x, hx, hd⟩ := List.mem_flatMap.mp ((h.2.2 d).mpr h1)
      exact ⟨x, List.mem_filter.mpr ⟨hx, decide_eq_true (((h.1 x hx).ends hd).det h2)⟩, hd⟩
  · rw [List.length_flatMap]
    rfl
theorem cntG_snoc (gs : List GG) (x : GG) (e : Str) : cntG (gs ++ [x]) e = cntG gs e + if x.en = e then x.g.ds.length else 0 := by
  unfold cntG
  rw [List.filter_append, List.map_append, List.sum_append]
  congr 1
  by_cases c : x.en = e <;> simp [c]
/-- numbers of ends, in ascending order -/
structure CountsOk (os : List Ord) (a : Str) (f l : Int) (kvs : List (Key × V)) (es : List (Str × Nat)) : Prop where
  kvs_ : kvs = es.map fun x => (Sum.inr x.1, V.int (x.2 : Nat))
  asc : sortedS (es.map Prod.fst) = true
  nd : (es.map Prod.fst).Nodup
  num : ∀ x ∈ es, 0 < x.2 ∧ Num (fun d => (f ≤ d ∧ d ≤ l) ∧ EndsIn os (a, d) x.1) x.2
  all : ∀ d, f ≤ d → d ≤ l → ∀ e, EndsIn os (a, d) e → e ∈ es.map Prod.fst
def sp_end_counts (C : Addr) : Sp := fun vs H Q _ => ∃ b os a f l, vs = [.ref b, .str a, .int f, .int l] ∧ BookAt C H b os ∧ OkB os ∧ adrB (.str a) = true ∧ 0 ≤ f ∧ f ≤ l ∧ l ≤ dayM ∧
  ∀ p kvs es H', Same H H' → H p = Option.none → H' p = some (.dK kvs) → CountsOk os a f l kvs es → Q (.ref p) H'
theorem cap_ok {os : List Ord} (ok : OkB os) : 0 + capG os.length * (2 * os.length + 2) ≤ 10000000 := by
  have l := ok.len
  have a : capG os.length ≤ 54961 := by
    unfold capG
    exact Nat.le_trans (Nat.mul_le_mul (show 2 * os.length + 1 ≤ 61 by omega) (show 30 * os.length + 1 ≤ 901 by omega)) (by decide)
  have := Nat.mul_le_mul a (show 2 * os.length + 2 ≤ 62 by omega)
  omega
theorem keys_put_in {κ : Type} [DecidableEq κ] {kvs : List (κ × V)} {k : κ} {v y : V} (h : valV kvs k = some v) : (putK kvs k y).map Prod.fst = kvs.map Prod.fst := by
  have any : (kvs.any fun kv => decide (kv.1 = k)) = true := by
    unfold valV at h
    cases f : kvs.find? fun kv => decide (kv.1 = k) with
    | none => rw [f] at h; cases h
    | some kv =>
      have e := List.find?_some f
      exact List.any_eq_true.mpr ⟨kv, List.mem_of_find?_eq_some f, e⟩
  unfold putK
  rw [if_pos any, List.map_map]
  refine List.map_congr_left fun kv _ => ?_
  by_cases c : kv.1 = k <;> simp [c]
theorem keys_add {kvs : List (Key × V)} {ks : List Str} {z : Str} {v : V} (h : kvs.map Prod.fst = ks.map Sum.inr) : (putK kvs (Sum.inr z) v).map Prod.fst = (addF ks z).map Sum.inr := by
  cases c : valV kvs (Sum.inr z) with
  | none =>
    have n : z ∉ ks := fun m => valV_none c (by rw [h]; exact List.mem_map_of_mem m)
    rw [keys_put c, h]
    unfold addF
    rw [if_neg n, List.map_append]
    rfl
  | some y =>
    have m := valV_mem c
    rw [h] at m
    obtain ⟨x, hx, e⟩ := List.mem_map.mp m
    rw [keys_put_in c, h]
    unfold addF
    rw [if_pos (Sum.inr.inj e ▸ hx)]
theorem addF_nodup {ks : List Str} {z : Str} (h : ks.Nodup) : (addF ks z).Nodup := by
  unfold addF
  split
  · exact h
  · rename_i n
    exact List.nodup_append.mpr ⟨h, List.nodup_cons.mpr ⟨by simp, List.nodup_nil⟩, fun x hx y hy e => n (by rw [List.mem_singleton.mp hy] at e; exact e ▸ hx)⟩
theorem cntG_pos {gs : List GG} {e : Str} (h : ∃ x ∈ gs, x.en = e) (ne : ∀ x ∈ gs, 0 < x.g.ds.length) : 0 < cntG gs e := by
  induction gs with
  | nil => obtain ⟨x, hx, _⟩ := h; simp at hx
  | cons g gs ih =>
    have e1 : cntG (g :: gs) e = (if g.en = e then g.g.ds.length else 0) + cntG gs e := by
      unfold cntG
      by_cases c : g.en = e <;> simp [c]
    rw [e1]
    obtain ⟨x, hx, he⟩ := h
    rcases List.mem_cons.mp hx with rfl | z
    · rw [if_pos he]
      have := ne x List.mem_cons_self
      omega
    · have := ih ⟨x, z, he⟩ fun y hy => ne y (List.mem_cons_of_mem _ hy)
      omega
section
variable {P : Program} {w : World} {K : PySem.W.Frag} {mg : Str → Option Value} {base : Heap}
end
end K47
namespace K47
open PySem PySem.Spec PyProof.Rows L2 StX ClX My
local macro_rules | `(tactic| walk_at "rd") => `(tactic| try simp only [L2.start, List.map_cons, List.map_nil, List.length_cons, List.length_nil, List.cons_append, List.nil_append, List.reduceReplicate, List.replicate_zero, Nat.reduceAdd, Nat.reduceSub,
  List.getElem?_cons_zero, List.getElem?_cons_succ, List.set_cons_zero, List.set_cons_succ, Option.some.injEq, exists_eq_left', exists_eq_left, exists_eq_right, exists_eq_right', V.int.injEq, V.bl.injEq, V.str.injEq, V.ref.injEq, V.ty.injEq, List.cons.injEq, and_true, true_and, and_assoc,
  exists_and_left, exists_const, tVar, tC, tB, tAnd, tOr, tNot, tAndV, tOrV, tNotV, tIf, tSeq, tNext, iStr, iEnumT, iZip, RZ.iZipA, iRev, iList, iTup, iRng1, iRng2, tLc_eq, tDc_eq, tFor_eq, tYes, wipe, tBreak, tCont, tDrop, tRet, tRetN, tIfS, gName, gNil, gCons, gTup, tAsg, tPar, tOp, tUn, rI, rI0, rU, tTest, tChain, tNil, tCons, tTup, tLst, tCB, tFld_eq, tCVal_eq, tProp_eq, tMeth_eq, tMethR_eq, tCMeth, tMakeSL, tDNotIn, tDGet_eq, tDSetd, tDIn_eq, sDPut_eq, tNever, tMakeR_eq, tCKw_eq, tDNewK, tDNewT, tWhile, gSub_eq, tBM_eq, sFld, tPart, tNoPart, tSl, cx_K, cx_w, tCall, cx_K, tCall,
  Bool.false_eq_true, if_true, if_false, ite_true, ite_false, Bool.not_true, Bool.not_false, reduceIte, decide_eq_true_eq, eq_self_iff_true, reduceCtorEq, false_and, and_false, exists_false])
local macro_rules | `(tactic| walk_at "go") => `(tactic| (repeat (first | refine ixT_of (by assumption) (by rfl) ?_ | refine eqI_of ?_ | refine eqS_of ?_ | refine neI_of ?_); try walk_at "rd"))
def sp_len (C : Addr) : Sp := fun vs H Q _ => ∃ b os, vs = [.ref b] ∧ BookAt C H b os ∧ Q (.int (os.length : Nat)) H
def sp_check_index (C : Addr) : Sp := fun vs H Q _ => ∃ b os i, vs = [.ref b, .int i] ∧ BookAt C H b os ∧ 0 ≤ i ∧ i < os.length ∧ Q .non H
def sp_getitem (C : Addr) : Sp := fun vs H Q _ => ∃ (b : Addr) (os : List Ord) (i : Nat), vs = [.ref b, .int i] ∧ BookAt C H b os ∧ i < os.length ∧ ∀ p o, os[i]? = some o → OrdAt H p o → Q (.ref p) H
section
variable {P : Program} {w : World} {K : PySem.W.Frag} {mg : Str → Option Value} {base : Heap}
theorem ok_len (T : Txt K mg) : FnOk P w K mg base (L2.CX P w) 1 T.Book_len.f T.Book_len.fd ["self"] (sp_len T.Book.C) := by
  refine T.Book_len.F.okX sc_Book_len (fun vs H Q E h => ?_) (fun cdv A outer s H vs Q E hr h => ?_)
  · obtain ⟨b, os, rfl, _⟩ := h
    rfl
  · obtain ⟨b, os, rfl, ⟨db, tb, hb, ps, htb, hos⟩, k⟩ := h
    refine ⟨_, (pss_one (ps_ret (pe_callB call_len_seq (by rfl) T.n_len (by decide +kernel) (pa_cons (pe_fld (pv 0) rfl) pa_nil)))), ?_⟩
    walk_at "rd"
    refine fld_of hb T.Book.cl T.a_orders rfl ⟨tb, rfl, _, .inr (SqT.of htb), ?_⟩
    rw [List.length_map, Paired.length hos]
    exact k
theorem ok_check_index (T : Txt K mg) : FnOk P w K mg base (L2.CX P w) 2 T.Book_check_index.f T.Book_check_index.fd ["self", "index"] (sp_check_index T.Book.C) := by
  have G_is_number := ok_is_number (P := P) (w := w) (base := base) T
  refine T.Book_check_index.F.okX sc_Book_check_index (fun vs H Q E h => ?_) (fun cdv A outer s H vs Q E hr h => ?_)
  · obtain ⟨b, os, i, rfl, _⟩ := h
    rfl
  · obtain ⟨b, os, i, rfl, ⟨db, tb, hb, ps, htb, hos⟩, i0, i1, k⟩ := h
    refine ⟨_, (pss_one (ps_if (pt_not (pt_val (pe_call G_is_number (hr.mono (by first | decide | omega)) rfl T.is_number.mg T.is_number.F.kp T.is_number.b .nil passF (pa_cons (pv 1) (pa_cons pe_int (pa_cons (pe_op op_sub (pe_callB call_len_seq (by rfl) T.n_len (by decide +kernel) (pa_cons (pe_fld (pv 0) rfl) pa_nil)) pe_int) pa_nil))))))
    (pss_one (ps_never))
    pss_nil)), ?_⟩
    walk_at "rd"
    refine fld_of hb T.Book.cl T.a_orders rfl ⟨tb, rfl, _, .inr (SqT.of htb), ?_⟩
    refine ⟨_, _, _, _, rfl, .int _, ?_⟩
    rw [List.length_map, Paired.length hos]
    rw [show numB (.int i) 0 ((os.length : Int) - 1) = true by simp [numB, i0]; omega]
    walk_at "rd"
    exact k
theorem ok_getitem (T : Txt K mg) : FnOk P w K mg base (L2.CX P w) 3 T.Book_getitem.f T.Book_getitem.fd ["self", "at"] (sp_getitem T.Book.C) := by
  have G_Book_check_index := ok_check_index (P := P) (w := w) (base := base) T
  refine T.Book_getitem.F.okX sc_Book_getitem (fun vs H Q E h => ?_) (fun cdv A outer s H vs Q E hr h => ?_)
  · obtain ⟨b, os, i, rfl, _⟩ := h
    rfl
  · obtain ⟨b, os, i, rfl, hbk, i1, k⟩ := h
    obtain ⟨db, tb, hb, ps, htb, hos⟩ := id hbk
    refine ⟨_, (pss_cons (ps_expr (pe_meth (pv 0) T.Book.cl T.Book_check_index.m G_Book_check_index (hr.mono (by first | decide | omega)) T.Book_check_index.b .nil passF (pa_cons (pv 1) pa_nil)))
  (pss_one (ps_ret (pe_ix ix_tup (pe_fld (pv 0) rfl) (pv 1) (fun _ _ => rfl))))), ?_⟩
    walk_at "rd"
    refine mobj_of hb (by rfl) ⟨b, os, i, rfl, hbk, by omega, by omega, ?_⟩
    walk_at "rd"
    have len : ps.length = os.length := Paired.length hos
    obtain ⟨p, hp⟩ : ∃ p, ps[i]? = some p := ⟨_, List.getElem?_eq_getElem (len ▸ i1)⟩
    obtain ⟨o, ho, hpo⟩ := Paired.at hos hp
    refine fld_of hb T.Book.cl T.a_orders rfl ?_
    exact ixT_of htb (atI_nat (by rw [List.getElem?_map, hp]; rfl)) (k p o ho hpo)
end
end K47
namespace K47
open PySem PySem.Spec PyProof.Rows L2 StX ClX My
local macro_rules | `(tactic| walk_at "rd") => `(tactic| try simp only [L2.start, List.map_cons, List.map_nil, List.length_cons, List.length_nil, List.cons_append, List.nil_append, List.reduceReplicate, List.replicate_zero, Nat.reduceAdd, Nat.reduceSub,
  List.getElem?_cons_zero, List.getElem?_cons_succ, List.set_cons_zero, List.set_cons_succ, Option.some.injEq, exists_eq_left', exists_eq_left, exists_eq_right, exists_eq_right', V.int.injEq, V.bl.injEq, V.str.injEq, V.ref.injEq, V.ty.injEq, List.cons.injEq, and_true, true_and, and_assoc,
  exists_and_left, exists_const, tVar, tC, tB, tAnd, tOr, tNot, tAndV, tOrV, tNotV, tIf, tSeq, tNext, iStr, iEnumT, iZip, RZ.iZipA, iRev, iList, iTup, iRng1, iRng2, tLc_eq, tDc_eq, tFor_eq, tYes, wipe, tBreak, tCont, tDrop, tRet, tRetN, tIfS, gName, gNil, gCons, gTup, tAsg, tPar, tOp, tUn, rI, rI0, rU, tTest, tChain, tNil, tCons, tTup, tLst, tCB, tFld_eq, tCVal_eq, tProp_eq, tMeth_eq, tMethR_eq, tCMeth, tMakeSL, tDNotIn, tDGet_eq, tDSetd, tDIn_eq, sDPut_eq, tNever, tMakeR_eq, tCKw_eq, tDNewK, tDNewT, tWhile, gSub_eq, tBM_eq, sFld, tPart, tNoPart, tSl, cx_K, cx_w, tCall, cx_K, tCall,
  Bool.false_eq_true, if_true, if_false, ite_true, ite_false, Bool.not_true, Bool.not_false, reduceIte, decide_eq_true_eq, eq_self_iff_true, reduceCtorEq, false_and, and_false, exists_false])
local macro_rules | `(tactic| walk_at "go") => `(tactic| (repeat (first | refine ixT_of (by assumption) (by rfl) ?_ | refine eqI_of ?_ | refine eqS_of ?_ | refine neI_of ?_); try walk_at "rd"))
def sp_sent_by (C : Addr) : Sp := fun vs H Q _ => ∃ b os a f l, vs = [.ref b, .str a, .int f, .int l] ∧ BookAt C H b os ∧ OkB os ∧ adrB (.str a) = true ∧ 0 ≤ f ∧ f ≤ l ∧ l ≤ dayM ∧
  ∀ p (ks : List Nat) H', Same H H' → H p = Option.none → H' p = some (.lst (ks.map fun k : Nat => V.int (k : Nat))) → ks.Pairwise (· < ·) → (∀ i, i ∈ ks ↔ ∃ d, f ≤ d ∧ d ≤ l ∧ Uses os (a, d) i) → Q (.ref p) H'
def sp_groups_for (C : Addr) : Sp := fun vs H Q _ => ∃ b os a g, vs = [.ref b, .str a, .str g] ∧ BookAt C H b os ∧ OkB os ∧ adrB (.str a) = true ∧ adrB (.str g) = true ∧
  ∀ p qs gs H', Same H H' → H' p = some (.lst (qs.map V.ref)) → Paired (GGAt H') qs gs → (∀ x ∈ gs, GrG os a x ∧ x.en = g ∧ ∀ d ∈ x.g.ds, 0 ≤ d ∧ d ≤ dayM) → (∀ d, 0 ≤ d → d ≤ dayM → EndsIn os (a, d) g → ∃ x ∈ gs, d ∈ x.g.ds) → gs.length ≤ 54961 → Q (.ref p) H'
def sp_day_for (C : Addr) (ord : Int → Int → Prop) : Sp := fun vs H Q _ => ∃ b os a g, vs = [.ref b, .str a, .str g] ∧ BookAt C H b os ∧ OkB os ∧ adrB (.str a) = true ∧ adrB (.str g) = true ∧
  ∀ H', Same H H' → ((∀ d, 0 ≤ d → d ≤ dayM → ¬ EndsIn os (a, d) g) → Q .non H') ∧ ∀ m, 0 ≤ m → m ≤ dayM → EndsIn os (a, m) g → (∀ d, 0 ≤ d → d ≤ dayM → EndsIn os (a, d) g → ord m d) → Q (.int m) H'
theorem and_pow (n i : Nat) : n &&& 2 ^ i = if n.testBit i = true then 2 ^ i else 0 := by
  apply Nat.eq_of_testBit_eq
  intro j
  rw [Nat.testBit_and, Nat.testBit_two_pow]
  by_cases c : i = j
  · subst c
    cases h : n.testBit i <;> simp
  · cases h : n.testBit i <;> simp [c, Nat.testBit_two_pow]
theorem and_bit (n i : Nat) : ((((n &&& 2 ^ i : Nat) : Int)) != 0) = n.testBit i := by
  rw [and_pow]
  have p := Nat.two_pow_pos i
  cases n.testBit i with
  | false => simp
  | true =>
    rw [if_pos rfl]
    simp only [bne_iff_ne, ne_eq]
    omega
section
variable {P : Program} {w : World} {K : PySem.W.Frag} {mg : Str → Option Value} {base : Heap}
end
end K47
namespace K47
open PySem PySem.Spec PyProof.Rows L2 StX ClX My
local macro_rules | `(tactic| walk_at "rd") => `(tactic| try simp only [L2.start, List.map_cons, List.map_nil, List.length_cons, List.length_nil, List.cons_append, List.nil_append, List.reduceReplicate, List.replicate_zero, Nat.reduceAdd, Nat.reduceSub,
  List.getElem?_cons_zero, List.getElem?_cons_succ, List.set_cons_zero, List.set_cons_succ, Option.some.injEq, exists_eq_left', exists_eq_left, exists_eq_right, exists_eq_right', V.int.injEq, V.bl.injEq, V.str.injEq, V.ref.injEq, V.ty.injEq, List.cons.injEq, and_true, true_and, and_assoc,
  exists_and_left, exists_const, tVar, tC, tB, tAnd, tOr, tNot, tAndV, tOrV, tNotV, tIf, tSeq, tNext, iStr, iEnumT, iZip, RZ.iZipA, iRev, iList, iTup, iRng1, iRng2, tLc_eq, tDc_eq, tFor_eq, tYes, wipe, tBreak, tCont, tDrop, tRet, tRetN, tIfS, gName, gNil, gCons, gTup, tAsg, tPar, tOp, tUn, rI, rI0, rU, tTest, tChain, tNil, tCons, tTup, tLst, tCB, tFld_eq, tCVal_eq, tProp_eq, tMeth_eq, tMethR_eq, tCMeth, tMakeSL, tDNotIn, tDGet_eq, tDSetd, tDIn_eq, sDPut_eq, tNever, tMakeR_eq, tCKw_eq, tDNewK, tDNewT, tWhile, gSub_eq, tBM_eq, sFld, tPart, tNoPart, tSl, cx_K, cx_w, tCall, cx_K, tCall,
  Bool.false_eq_true, if_true, if_false, ite_true, ite_false, Bool.not_true, Bool.not_false, reduceIte, decide_eq_true_eq, eq_self_iff_true, reduceCtorEq, false_and, and_false, exists_false])
local macro_rules | `(tactic| walk_at "go") => `(tactic| (repeat (first | refine ixT_of (by assumption) (by rfl) ?_ | refine eqI_of ?_ | refine eqS_of ?_ | refine neI_of ?_); try walk_at "rd"))
def sp_returns_all (CE : Addr) : Sp := fun vs H Q _ => ∃ e lS fd os ss m q o, vs = [.ref e, .ref q] ∧ EndsAt CE H e lS fd os ss m ∧ OkB os ∧ OrdAt H q o ∧ okO o = true ∧ m + capG os.length * (2 * os.length + 2) ≤ 10000000 ∧
  ∀ (k : Bool) H', SameX fd H H' → EndsAt CE H' e lS fd os ss (m + capG os.length * (2 * os.length + 2)) → (k = true ↔ ∀ d, o.fst ≤ d → d ≤ o.lst → EndsIn os (o.src, d) o.src) → Q (.bl k) H'
/-- all letters that the order sends on end at its source -/
def Needless (os : List Ord) (o : Ord) : Prop := ∀ d, o.fst ≤ d → d ≤ o.lst → EndsIn os (o.src, d) o.src
def sp_is_needless (C : Addr) : Sp := fun vs H Q _ => ∃ (b : Addr) (os : List Ord) (i : Nat) (o : Ord), vs = [.ref b, .int i] ∧ BookAt C H b os ∧ OkB os ∧ os[i]? = some o ∧ ∀ (k : Bool) H', Same H H' → (k = true ↔ Needless os o) → Q (.bl k) H'
def sp_needless_orders (C : Addr) : Sp := fun vs H Q _ => ∃ (b : Addr) (os : List Ord), vs = [.ref b] ∧ BookAt C H b os ∧ OkB os ∧ os.length ≤ 16 ∧
  ∀ p (ks : List Nat) H', Same H H' → H p = Option.none → H' p = some (.lst (ks.map fun k : Nat => V.int (k : Nat))) → ks.Pairwise (· < ·) → (∀ i, i ∈ ks ↔ ∃ o, os[i]? = some o ∧ Needless os o) → Q (.ref p) H'
def sp_unlike (C : Addr) : Sp := fun vs H Q _ => ∃ b b2 os us a f, vs = [.ref b, .ref b2, .str a, .int f] ∧ BookAt C H b os ∧ OkB os ∧ BookAt C H b2 us ∧ OkB us ∧ adrB (.str a) = true ∧ okD f ∧
  ∀ H', Same H H' → ((∀ d, f ≤ d → d < f + 2000 → d ≤ dayM → ∀ e, EndsIn os (a, d) e ↔ EndsIn us (a, d) e) → Q .non H') ∧
    ∀ m, f ≤ m → m < f + 2000 → m ≤ dayM → (∀ d, f ≤ d → d < m → ∀ e, EndsIn os (a, d) e ↔ EndsIn us (a, d) e) → (∀ e, EndsIn os (a, m) e → ¬ EndsIn us (a, m) e) → Q (.int m) H'
theorem EndsAt.putL {C : Addr} {H : Hp} {e l f D : Addr} {os : List Ord} {ss : List (Int × Int)} {m : Nat} {v : List V} (h : EndsAt C H e l f os ss m) (hD : H D = Option.none ∨ ∃ v, H D = some (.lst v)) (n : l ≠ D) : EndsAt C (upd H D (.lst v)) e l f os ss m := by
  have s := SameT.put' (v := v) hD
  obtain ⟨dx, ho⟩ := h.obj
  obtain ⟨kv, hf, kl, kt⟩ := h.found
  refine ⟨⟨dx, s _ _ ho (fun l z => by cases z)⟩, h.str.up s fun o z => by rw [upd_ne n]; exact z, h.sok, kv, s _ _ hf (fun l z => by cases z), kl, fun b c v hv => ?_⟩
  obtain ⟨q', e', b', g1, g2, g3⟩ := kt b c v hv
  exact ⟨q', e', b', g1, s.tup g2, g3⟩
theorem EndsAt.upO {C : Addr} {H H' : Hp} {e l f g : Addr} {os : List Ord} {ss : List (Int × Int)} {m : Nat} {kv : List (List Key × V)} (s : SameX g H H') (hg : H g = some (.dT kv)) (n : f ≠ g) (h : EndsAt C H e l f os ss m) : EndsAt C H' e l f os ss m := by
  have go : ∀ b o, H b = some o → (∀ kvs, o ≠ HO.dT kvs) → H' b = some o := fun b o hb no => s b o (fun z => no kv (by rw [z, hg] at hb; exact (Option.some.inj hb).symm)) hb
  obtain ⟨dx, h1⟩ := h.obj
  obtain ⟨qs, h2, h3⟩ := h.str
  obtain ⟨kv2, hf, kl, kt⟩ := h.found
  refine ⟨⟨dx, go _ _ h1 (fun _ z => by cases z)⟩, ⟨qs, go _ _ h2 (fun _ z => by cases z), Paired.mp (fun q x r => ?_) h3⟩, h.sok, kv2, s _ _ n hf, kl, fun b c v hv => ?_⟩
  · obtain ⟨D, r1, kv2, r2, r3, r4⟩ := r
    refine ⟨D, go _ _ r1 (fun _ z => by cases z), kv2, go _ _ r2 (fun _ z => by cases z), r3, fun a => ?_⟩
    have z := r4 a
    cases c : sendI os x.1 a with
    | none => rw [c] at z; exact z
    | some y =>
      obtain ⟨t, w, i⟩ := y
      rw [c] at z
      obtain ⟨p, g1, g2⟩ := z
      exact ⟨p, g1, go _ _ g2 (fun _ z => by cases z)⟩
  · obtain ⟨q', e', b', g1, g2, g3⟩ := kt b c v hv
    exact ⟨q', e', b', g1, go _ _ g2 (fun _ z => by cases z), g3⟩
theorem cap16 {n : Nat} (h : n ≤ 16) : n * (capG n * (2 * n + 2)) ≤ 10000000 := by
  have a : capG n ≤ 33 * 481 := by
    unfold capG
    exact Nat.mul_le_mul (by omega) (by omega)
  exact Nat.le_trans (Nat.mul_le_mul h (Nat.mul_le_mul a (show 2 * n + 2 ≤ 34 by omega))) (by decide)
section
variable {P : Program} {w : World} {K : PySem.W.Frag} {mg : Str → Option Value} {base : Heap}
end
end K47
namespace K47
open PySem PySem.Spec PyProof.Rows L2 StX ClX My
/-! ### letters on their way while orders are prolonged -/
/-- the order of an address that began last by a day sends on; at the goal, only while it holds -/
def MoveTo (os : List Ord) (g : Str) (day : Int) (a t : Str) (w : Int) (i : Nat) : Prop := ∃ o, os[i]? = some o ∧ o.tgt = t ∧ o.way = w ∧ o.src = a ∧ o.fst ≤ day ∧ (∀ u ∈ os, u.src = a → u.fst ≤ day → u.fst ≤ o.fst) ∧ (a = g → day ≤ o.lst)
open Classical in
noncomputable def moveI (os : List Ord) (g : Str) (day : Int) : SD := fun a => if h : ∃ x : Str × Int × Nat, MoveTo os g day a x.1 x.2.1 x.2.2 then some h.choose else none
theorem OkB.same_first {os : List Ord} (ok : OkB os) {i j : Nat} {o u : Ord} (hi : os[i]? = some o) (hj : os[j]? = some u) (s : o.src = u.src) (f : o.fst = u.fst) : i = j := by
  have d1 := okO_day (ok.mem (List.mem_of_getElem? hi))
  have d2 := okO_day (ok.mem (List.mem_of_getElem? hj))
  refine ok.uniqI (a := o.src) (d := o.fst) hi hj ?_ ?_
  · simp only [Ord.holds, Bool.and_eq_true, decide_eq_true_eq]
    exact ⟨trivial, Int.le_refl _, by omega⟩
  · simp only [Ord.holds, Bool.and_eq_true, decide_eq_true_eq]
    exact ⟨s.symm, by omega, by omega⟩
theorem MoveTo.det {os : List Ord} (ok : OkB os) {g a t t' : Str} {day w w' : Int} {i j : Nat} (h : MoveTo os g day a t w i) (k : MoveTo os g day a t' w' j) : t = t' ∧ w = w' ∧ i = j := by
  obtain ⟨o, ho, rfl, rfl, s1, f1, m1, _⟩ := h
  obtain ⟨u, hu, rfl, rfl, s2, f2, m2, _⟩ := k
  have a1 := m1 u (List.mem_of_getElem? hu) s2 f2
  have a2 := m2 o (List.mem_of_getElem? ho) s1 f1
  have e := ok.same_first ho hu (s1.trans s2.symm) (by omega)
  subst e
  rw [ho] at hu
  cases hu
  exact ⟨rfl, rfl, rfl⟩
theorem moveI_some {os : List Ord} (ok : OkB os) {g a t : Str} {day w : Int} {i : Nat} : moveI os g day a = some (t, w, i) ↔ MoveTo os g day a t w i := by
  unfold moveI
  constructor
  · intro h
    split at h
    · rename_i ex
      have c := ex.choose_spec
      have e := Option.some.inj h
      rw [e] at c
      exact c
    · cases h
  · intro h
    have ex : ∃ x : Str × Int × Nat, MoveTo os g day a x.1 x.2.1 x.2.2 := ⟨(t, w, i), h⟩
    rw [dif_pos ex]
    have c := ex.choose_spec
    generalize ex.choose = x at c
    obtain ⟨t', w', i'⟩ := x
    obtain ⟨rfl, rfl, rfl⟩ := MoveTo.det ok h c
    rfl
theorem moveI_none {os : List Ord} {g a : Str} {day : Int} : moveI os g day a = none ↔ ∀ t w i, ¬ MoveTo os g day a t w i := by
  unfold moveI
  constructor
  · intro h t w i m
    rw [dif_pos ⟨(t, w, i), m⟩] at h
    cases h
  · intro h
    rw [dif_neg]
    rintro ⟨⟨t, w, i⟩, m⟩
    exact h t w i m
/-- no order begins or ends in these days -/
def Quiet (os : List Ord) (b l : Int) : Prop := ∀ o ∈ os, (b < o.fst → l < o.fst) ∧ (b ≤ o.lst → l ≤ o.lst)
theorem moveI_stays {os : List Ord} {g : Str} {b l d : Int} (q : Quiet os b l) (d0 : b ≤ d) (d1 : d ≤ l) : moveI os g d = moveI os g b := by
  have iff : ∀ a t w i, MoveTo os g d a t w i ↔ MoveTo os g b a t w i := by
    intro a t w i
    constructor
    · rintro ⟨o, ho, e1, e2, e3, f, m, gl⟩
      have qo := q o (List.mem_of_getElem? ho)
      refine ⟨o, ho, e1, e2, e3, by omega, fun u hu s fu => m u hu s (by omega), fun e => ?_⟩
      have := gl e
      omega
    · rintro ⟨o, ho, e1, e2, e3, f, m, gl⟩
      have qo := q o (List.mem_of_getElem? ho)
      refine ⟨o, ho, e1, e2, e3, by omega, fun u hu s fu => m u hu s ?_, fun e => ?_⟩
      · have := q u hu
        omega
      · have := gl e
        omega
  funext a
  unfold moveI
  have e : (fun x : Str × Int × Nat => MoveTo os g d a x.1 x.2.1 x.2.2) = fun x => MoveTo os g b a x.1 x.2.1 x.2.2 := by
    funext x
    exact propext (iff _ _ _ _)
  rw [e]
theorem moveI_way {os : List Ord} (ok : OkB os) {g a t : Str} {day w : Int} {i : Nat} (h : moveI os g day a = some (t, w, i)) : 1 ≤ w ∧ w ≤ 30 := by
  obtain ⟨o, ho, rfl, rfl, _⟩ := (moveI_some ok).mp h
  have d := okO_day (ok.mem (List.mem_of_getElem? ho))
  exact ⟨d.2.2.2.1, d.2.2.2.2⟩
theorem moveI_pos {os : List Ord} (ok : OkB os) {g : Str} {day : Int} : PosS (moveI os g day) := fun _ _ _ _ h => (moveI_way ok h).1
/-- whether an order has ended -/
def endedI (os : List Ord) (i : Nat) (d : Int) : Bool := match os[i]? with
  | some o => decide (o.lst < d)
  | none => false
inductive GoesP (os : List Ord) (g : Str) : List (Nat × Bool) → Pt → Pt → Prop
  | zero (p : Pt) : GoesP os g [] p p
  | snoc {tr : List (Nat × Bool)} {p q : Pt} {t : Str} {w : Int} {i : Nat} (a : GoesP os g tr p q) (h : moveI os g q.2 q.1 = some (t, w, i)) : GoesP os g (tr ++ [(i, endedI os i q.2)]) p (t, q.2 + w)
theorem GoesP.trans {os : List Ord} {g : Str} {m n : List (Nat × Bool)} {p q r : Pt} (a : GoesP os g m p q) (b : GoesP os g n q r) : GoesP os g (m ++ n) p r := by
  induction b with
  | zero p => simpa using a
  | snoc _ h ih =>
    rw [← List.append_assoc]
    exact .snoc (ih a) h
/-- the numbers in the sequence of their first times -/
def addN (l : List Nat) (a : Nat) : List Nat := if a ∈ l then l else l ++ [a]
def needN (tr : List (Nat × Bool)) : List Nat := ((tr.filter fun x => x.2).map Prod.fst).foldl addN []
theorem mem_addN {l : List Nat} {a x : Nat} : x ∈ addN l a ↔ x ∈ l ∨ x = a := by
  unfold addN
  split
  · exact ⟨.inl, fun h => h.elim id fun e => e ▸ ‹_›⟩
  · simp
theorem mem_foldN {tr : List Nat} : ∀ {l : List Nat} {x : Nat}, x ∈ tr.foldl addN l ↔ x ∈ l ∨ x ∈ tr := by
  induction tr with
  | nil => simp
  | cons a tr ih =>
    intro l x
    rw [List.foldl_cons, ih, mem_addN, List.mem_cons]
    constructor
    · rintro ((h | h) | h)
      · exact .inl h
      · exact .inr (.inl h)
      · exact .inr (.inr h)
    · rintro (h | h | h)
      · exact .inl (.inl h)
      · exact .inl (.inr h)
      · exact .inr h
theorem addN_mem {l : List Nat} {a : Nat} (h : a ∈ l) : addN l a = l := by
  unfold addN
  rw [if_pos h]
theorem needN_app (tr us : List (Nat × Bool)) : needN (tr ++ us) = ((us.filter fun x => x.2).map Prod.fst).foldl addN (needN tr) := by
  unfold needN
  rw [List.filter_append, List.map_append, List.foldl_append]
/-- the walked addresses once, or as often as they come: the same numbers -/
theorem fold_nub {f : Str → Nat} {ok : Str → Bool} (tr : List Str) (l : List Nat) : (((nubF tr).filter ok).map f).foldl addN l = ((tr.filter ok).map f).foldl addN l := by
  have main : ∀ us : List Str, (((nubF us.reverse).filter ok).map f).foldl addN l = ((us.reverse.filter ok).map f).foldl addN l := by
    intro us
    induction us with
    | nil => rfl
    | cons a us ih =>
      rw [List.reverse_cons, nubF_snoc, List.filter_append, List.map_append, List.foldl_append, ← ih]
      unfold addF
      by_cases c : a ∈ nubF us.reverse
      · rw [if_pos c]
        by_cases k : ok a = true
        · have m : f a ∈ (((nubF us.reverse).filter ok).map f).foldl addN l := mem_foldN.mpr (.inr (List.mem_map_of_mem (List.mem_filter.mpr ⟨c, k⟩)))
          rw [List.filter_cons_of_pos k]
          exact (addN_mem m).symm
        · rw [List.filter_cons_of_neg k]
          rfl
      · rw [if_neg c, List.filter_append, List.map_append, List.foldl_append]
  have h := main tr.reverse
  rw [List.reverse_reverse] at h
  exact h
/-- a walk in quiet days, as steps -/
theorem GoesT.goesP {os : List Ord} (ok : OkB os) {g : Str} {b L : Int} (q : Quiet os b L) {tr : List Str} {p r : Pt} (h : GoesT (moveI os g b) L tr p r) (d0 : b ≤ p.2) : GoesP os g (tr.map fun x => (ixOf (moveI os g b) x, endedI os (ixOf (moveI os g b) x) b)) p r := by
  induction h with
  | zero p => exact .zero p
  | @snoc m p q0 t w i a le h ih =>
    have mm := a.mono (moveI_pos ok)
    have at_ : moveI os g q0.2 q0.1 = some (t, w, i) := by rw [moveI_stays q (by omega) le]; exact h
    have z := (ih d0).snoc at_
    rw [List.map_append]
    have e : endedI os i q0.2 = endedI os (ixOf (moveI os g b) q0.1) b := by
      rw [ixOf_some h]
      obtain ⟨o, ho, _⟩ := (moveI_some ok).mp h
      unfold endedI
      rw [ho]
      have := q o (List.mem_of_getElem? ho)
      exact decide_eq_decide.mpr (by omega)
    rw [e, ← ixOf_some h] at z
    exact z
def ProlEnd (os : List Ord) (g : Str) (p q : Pt) (ns : List Nat) : Prop := ∃ tr, GoesP os g tr p q ∧ moveI os g q.2 q.1 = none ∧ ns = needN tr
theorem few_srcG {os : List Ord} {S : SD} (src : ∀ x t w i, S x = some (t, w, i) → ∃ o, os[i]? = some o ∧ o.src = x) {ls : List Str} (nd : ls.Nodup) (on : ∀ a ∈ ls, S a ≠ none) : ls.length ≤ os.length := by
  have get : ∀ x ∈ ls, ∃ o, os[ixOf S x]? = some o ∧ o.src = x := fun x hx => by
    cases c : S x with
    | none => exact absurd c (on x hx)
    | some y =>
      obtain ⟨t, w, j⟩ := y
      rw [ixOf_some c]
      exact src x t w j c
  have h := nodup_le (l := ls.map (ixOf S)) (m := List.range os.length) ?_ fun i hi => ?_
  · rw [List.length_map, List.length_range] at h
    exact h
  · refine List.pairwise_map.mpr (List.Pairwise.imp_of_mem (fun {x y} hx hy n z => n ?_) nd)
    obtain ⟨o, h1, h2⟩ := get x hx
    obtain ⟨u, g1, g2⟩ := get y hy
    rw [z, g1] at h1
    cases h1
    exact h2.symm.trans g2
  · obtain ⟨x, hx, rfl⟩ := List.mem_map.mp hi
    obtain ⟨o, h1, _⟩ := get x hx
    exact List.mem_range.mpr (List.getElem?_eq_some_iff.mp h1).1
theorem moveI_src {os : List Ord} (ok : OkB os) {g : Str} {day : Int} : ∀ x t w i, moveI os g day x = some (t, w, i) → ∃ o, os[i]? = some o ∧ o.src = x := fun x t w i h => by
  obtain ⟨o, ho, _, _, s, _⟩ := (moveI_some ok).mp h
  exact ⟨o, ho, s⟩
/-- so many steps to an end -/
inductive Dies (S : SD) : Nat → Str → Prop
  | zero {a : Str} (h : S a = none) : Dies S 0 a
  | succ {a t : Str} {w : Int} {i k : Nat} (h : S a = some (t, w, i)) (d : Dies S k t) : Dies S (k + 1) a
theorem Dies.det {S : SD} {k m : Nat} {a : Str} (h : Dies S k a) (g : Dies S m a) : k = m := by
  induction h generalizing m with
  | zero h =>
    cases g with
    | zero => rfl
    | succ h2 => rw [h] at h2; cases h2
  | succ h _ ih =>
    cases g with
    | zero h2 => rw [h] at h2; cases h2
    | succ h2 d2 =>
      rw [h] at h2
      cases h2
      rw [ih d2]
theorem Dies.few {os : List Ord} {S : SD} (src : ∀ x t w i, S x = some (t, w, i) → ∃ o, os[i]? = some o ∧ o.src = x) {k : Nat} {a : Str} (h : Dies S k a) : k ≤ os.length := by
  have main : ∀ {k : Nat} {a : Str}, Dies S k a → ∃ l : List Str, l.length = k ∧ l.Nodup ∧ ∀ x ∈ l, S x ≠ none ∧ ∃ j, j ≤ k ∧ Dies S j x := by
    intro k a h
    induction h with
    | zero => exact ⟨[], rfl, List.nodup_nil, fun x h => by simp at h⟩
    | @succ a t w i k h d ih =>
      obtain ⟨l, h1, h2, h3⟩ := ih
      refine ⟨a :: l, by simp [h1], List.nodup_cons.mpr ⟨fun m => ?_, h2⟩, fun x hx => ?_⟩
      · obtain ⟨_, j, hj, dj⟩ := h3 a m
        have := dj.det (.succ h d)
        omega
      · rcases List.mem_cons.mp hx with rfl | z
        · exact ⟨by rw [h]; simp, k + 1, Nat.le_refl _, .succ h d⟩
        · obtain ⟨g1, j, hj, dj⟩ := h3 x z
          exact ⟨g1, j, by omega, dj⟩
  obtain ⟨l, h1, h2, h3⟩ := main h
  rw [← h1]
  exact few_srcG src h2 fun x hx => (h3 x hx).1
theorem GoesP.days {os : List Ord} (ok : OkB os) {g : Str} {tr : List (Nat × Bool)} {p q : Pt} (h : GoesP os g tr p q) : p.2 + tr.length ≤ q.2 ∧ q.2 ≤ p.2 + 30 * tr.length := by
  induction h with
  | zero p => simp
  | snoc a h ih =>
    have := moveI_way ok h
    rw [List.length_append, List.length_singleton]
    dsimp only
    omega
theorem GoesP.det {os : List Ord} {g : Str} {tr us : List (Nat × Bool)} {p q r : Pt} (h : GoesP os g tr p q) (k : GoesP os g us p r) (l : tr.length = us.length) : tr = us ∧ q = r := by
  induction h generalizing us r with
  | zero p =>
    cases k with
    | zero => exact ⟨rfl, rfl⟩
    | snoc => simp at l
  | snoc a h ih =>
    cases k with
    | zero => simp at l
    | snoc a2 h2 =>
      simp only [List.length_append, List.length_singleton, Nat.add_right_cancel_iff] at l
      obtain ⟨rfl, rfl⟩ := ih a2 l
      rw [h] at h2
      cases h2
      exact ⟨rfl, rfl⟩
theorem GoesP.split {os : List Ord} {g : Str} {tr : List (Nat × Bool)} {p r : Pt} (h : GoesP os g tr p r) : ∀ n, n ≤ tr.length → ∃ q, GoesP os g (tr.take n) p q ∧ GoesP os g (tr.drop n) q r := by
  induction h with
  | zero p => intro n _; exact ⟨p, by simpa using GoesP.zero p, by simpa using GoesP.zero p⟩
  | @snoc tr p q t w i a h ih =>
    intro n hn
    by_cases c : n ≤ tr.length
    · obtain ⟨x, h1, h2⟩ := ih n c
      refine ⟨x, by rw [List.take_append_of_le_length c]; exact h1, ?_⟩
      rw [List.drop_append_of_le_length c]
      exact h2.snoc h
    · have e : n = (tr ++ [(i, endedI os i q.2)]).length := by
        rw [List.length_append, List.length_singleton] at hn ⊢
        omega
      refine ⟨_, by rw [e, List.take_length]; exact a.snoc h, by rw [e, List.drop_length]; exact .zero _⟩
theorem GoesP.nil_eq {os : List Ord} {g : Str} {tr : List (Nat × Bool)} {p q : Pt} (h : GoesP os g tr p q) (e : tr = []) : q = p := by
  cases h with
  | zero => rfl
  | snoc => simp at e
theorem GoesP.first {os : List Ord} {g : Str} {tr : List (Nat × Bool)} {p r : Pt} (h : GoesP os g tr p r) (ne : tr ≠ []) : moveI os g p.2 p.1 ≠ none := by
  induction h with
  | zero p => exact absurd rfl ne
  | @snoc tr p q t w i a h ih =>
    by_cases c : tr = []
    · have e := a.nil_eq c
      subst e
      rw [h]
      simp
    · exact ih c
theorem late_quiet {os : List Ord} (ok : OkB os) {l : Int} (hl : ∀ o ∈ os, o.lst ≤ l) (L : Int) : Quiet os (l + 1) L := fun o ho => by
  have := hl o ho
  have := okO_day (ok.mem ho)
  omega
theorem GoesP.dies {os : List Ord} (ok : OkB os) {g : Str} {l : Int} (hl : ∀ o ∈ os, o.lst ≤ l) {tr : List (Nat × Bool)} {p q : Pt} (h : GoesP os g tr p q) (d0 : l < p.2) : ∀ k, Dies (moveI os g (l + 1)) k q.1 → Dies (moveI os g (l + 1)) (k + tr.length) p.1 := by
  induction h with
  | zero p => intro k d; exact d
  | @snoc tr p q t w i a h ih =>
    intro k d
    have days := a.days ok
    have e : moveI os g (l + 1) q.1 = some (t, w, i) := by
      rw [← moveI_stays (late_quiet ok hl q.2) (show l + 1 ≤ q.2 by omega) (Int.le_refl _)]
      exact h
    have z := ih d0 (k + 1) (.succ e d)
    rw [List.length_append, List.length_singleton]
    have e2 : k + 1 + tr.length = k + (tr.length + 1) := by omega
    rw [← e2]
    exact z
theorem GoesP.cross {os : List Ord} (ok : OkB os) {g : Str} {l : Int} {tr : List (Nat × Bool)} {p q : Pt} (h : GoesP os g tr p q) (d0 : p.2 ≤ l) (d1 : l < q.2) : ∃ m1 m2 r, tr = m1 ++ m2 ∧ GoesP os g m1 p r ∧ GoesP os g m2 r q ∧ l < r.2 ∧ r.2 ≤ l + 30 := by
  induction h with
  | zero p => omega
  | @snoc tr p q t w i a h ih =>
    by_cases c : l < q.2
    · obtain ⟨m1, m2, r, e, h1, h2, h3, h4⟩ := ih d0 c
      refine ⟨m1, m2 ++ [(i, endedI os i q.2)], r, by rw [e, List.append_assoc], h1, h2.snoc h, h3, h4⟩
    · have := moveI_way ok h
      exact ⟨tr ++ [(i, endedI os i q.2)], [], _, by simp, a.snoc h, .zero _, d1, by dsimp only; omega⟩
/-- who is still on the way so late, is on it for ever -/
theorem late_never {os : List Ord} (ok : OkB os) {g : Str} {l e : Int} {a b : Str} {d : Int} (hd : d ≤ l) (hl : ∀ o ∈ os, o.lst ≤ l) {tr : List (Nat × Bool)} (h1 : GoesP os g tr (a, d) (b, e)) (far : l + 930 < e) (on : moveI os g e b ≠ none) : ∀ q ns, ¬ ProlEnd os g (a, d) q ns := by
  rintro q ns ⟨us, h2, stop, _⟩
  have lt : tr.length < us.length := by
    rcases Nat.lt_or_ge tr.length us.length with z | z
    · exact z
    · obtain ⟨x, g1, g2⟩ := h1.split us.length z
      obtain ⟨_, e1⟩ := h2.det g1 (by rw [List.length_take]; omega)
      subst e1
      by_cases c : tr.drop us.length = []
      · have e2 := g2.nil_eq c
        cases e2
        exact absurd stop on
      · exact absurd stop (g2.first c)
  obtain ⟨x, g1, g2⟩ := h2.split tr.length (by omega)
  obtain ⟨_, e1⟩ := h1.det g1 (by rw [List.length_take]; omega)
  subst e1
  obtain ⟨m1, m2, r, _, k1, k2, k3, k4⟩ := h1.cross ok hd (show l < e by omega)
  have all := k2.trans g2
  have end_ : Dies (moveI os g (l + 1)) 0 q.1 := .zero (by
    have dq := all.days ok
    rw [← moveI_stays (late_quiet ok hl q.2) (show l + 1 ≤ q.2 by omega) (Int.le_refl _)]
    exact stop)
  have dd := all.dies ok hl k3 0 end_
  have few := dd.few (moveI_src ok)
  have days := k2.days ok
  have l30 := ok.len
  rw [List.length_append] at few
  dsimp only at days
  omega
end K47
namespace K47
open PySem PySem.Spec PyProof.Rows L2 StX ClX My
local macro_rules | `(tactic| walk_at "rd") => `(tactic| try simp only [L2.start, List.map_cons, List.map_nil, List.length_cons, List.length_nil, List.cons_append, List.nil_append, List.reduceReplicate, List.replicate_zero, Nat.reduceAdd, Nat.reduceSub,
  List.getElem?_cons_zero, List.getElem?_cons_succ, List.set_cons_zero, List.set_cons_succ, Option.some.injEq, exists_eq_left', exists_eq_left, exists_eq_right, exists_eq_right', V.int.injEq, V.bl.injEq, V.str.injEq, V.ref.injEq, V.ty.injEq, List.cons.injEq, and_true, true_and, and_assoc,
  exists_and_left, exists_const, tVar, tC, tB, tAnd, tOr, tNot, tAndV, tOrV, tNotV, tIf, tSeq, tNext, iStr, iEnumT, iZip, RZ.iZipA, iRev, iList, iTup, iRng1, iRng2, tLc_eq, tDc_eq, tFor_eq, tYes, wipe, tBreak, tCont, tDrop, tRet, tRetN, tIfS, gName, gNil, gCons, gTup, tAsg, tPar, tOp, tUn, rI, rI0, rU, tTest, tChain, tNil, tCons, tTup, tLst, tCB, tFld_eq, tCVal_eq, tProp_eq, tMeth_eq, tMethR_eq, tCMeth, tMakeSL, tDNotIn, tDGet_eq, tDSetd, tDIn_eq, sDPut_eq, tNever, tMakeR_eq, tCKw_eq, tDNewK, tDNewT, tWhile, gSub_eq, tBM_eq, sFld, tPart, tNoPart, tSl, cx_K, cx_w, tCall, cx_K, tCall,
  Bool.false_eq_true, if_true, if_false, ite_true, ite_false, Bool.not_true, Bool.not_false, reduceIte, decide_eq_true_eq, eq_self_iff_true, reduceCtorEq, false_and, and_false, exists_false])
local macro_rules | `(tactic| walk_at "go") => `(tactic| (repeat (first | refine ixT_of (by assumption) (by rfl) ?_ | refine eqI_of ?_ | refine eqS_of ?_ | refine neI_of ?_); try walk_at "rd"))
def sp_moves (C : Addr) : Sp := fun vs H Q _ => ∃ b os day g limit, vs = [.ref b, .int day, .str g, .int limit] ∧ BookAt C H b os ∧ OkB os ∧
  ∀ p D L H', Same H H' → H' p = some (.tup [.ref D, .int L]) → SendAt H' D (moveI os g day) → L ≤ limit → (day ≤ limit → day ≤ L) → Quiet os day L → Q (.ref p) H'
theorem paired_of {α β : Type} {F : α → β → Prop} : ∀ {l : List α}, (∀ a ∈ l, ∃ b, F a b) → ∃ m, Paired F l m
  | [], _ => ⟨[], .nil⟩
  | a :: l, h => by
    obtain ⟨b, hb⟩ := h a List.mem_cons_self
    obtain ⟨m, hm⟩ := paired_of (l := l) fun x hx => h x (List.mem_cons_of_mem _ hx)
    exact ⟨b :: m, .cons hb hm⟩
/-- the two ints of a pair as it stands -/
def pairK (H : Hp) : V → Int × Int
  | .ref t => match H t with
    | some (.tup [.int i, .int j]) => (i, j)
    | _ => (0, 0)
  | _ => (0, 0)
theorem pairK_at {H : Hp} {t : Addr} {i j : Int} (h : H t = some (.tup [.int i, .int j])) : pairK H (.ref t) = (i, j) := by
  simp only [pairK, h]
section
variable {P : Program} {w : World} {K : PySem.W.Frag} {mg : Str → Option Value} {base : Heap}
end
end K47
namespace K47
open PySem PySem.Spec PyProof.Rows L2 StX ClX My
local macro_rules | `(tactic| walk_at "rd") => `(tactic| try simp only [L2.start, List.map_cons, List.map_nil, List.length_cons, List.length_nil, List.cons_append, List.nil_append, List.reduceReplicate, List.replicate_zero, Nat.reduceAdd, Nat.reduceSub,
  List.getElem?_cons_zero, List.getElem?_cons_succ, List.set_cons_zero, List.set_cons_succ, Option.some.injEq, exists_eq_left', exists_eq_left, exists_eq_right, exists_eq_right', V.int.injEq, V.bl.injEq, V.str.injEq, V.ref.injEq, V.ty.injEq, List.cons.injEq, and_true, true_and, and_assoc,
  exists_and_left, exists_const, tVar, tC, tB, tAnd, tOr, tNot, tAndV, tOrV, tNotV, tIf, tSeq, tNext, iStr, iEnumT, iZip, RZ.iZipA, iRev, iList, iTup, iRng1, iRng2, tLc_eq, tDc_eq, tFor_eq, tYes, wipe, tBreak, tCont, tDrop, tRet, tRetN, tIfS, gName, gNil, gCons, gTup, tAsg, tPar, tOp, tUn, rI, rI0, rU, tTest, tChain, tNil, tCons, tTup, tLst, tCB, tFld_eq, tCVal_eq, tProp_eq, tMeth_eq, tMethR_eq, tCMeth, tMakeSL, tDNotIn, tDGet_eq, tDSetd, tDIn_eq, sDPut_eq, tNever, tMakeR_eq, tCKw_eq, tDNewK, tDNewT, tWhile, gSub_eq, tBM_eq, sFld, tPart, tNoPart, tSl, cx_K, cx_w, tCall, cx_K, tCall,
  Bool.false_eq_true, if_true, if_false, ite_true, ite_false, Bool.not_true, Bool.not_false, reduceIte, decide_eq_true_eq, eq_self_iff_true, reduceCtorEq, false_and, and_false, exists_false])
local macro_rules | `(tactic| walk_at "go") => `(tactic| (repeat (first | refine ixT_of (by assumption) (by rfl) ?_ | refine eqI_of ?_ | refine eqS_of ?_ | refine neI_of ?_); try walk_at "rd"))
def NsAt (H : Hp) (lp : Addr) (ns : List Nat) : Prop := H lp = some (.lst (ns.map fun k : Nat => V.int (k : Nat)))
def sp_prolonging (C : Addr) : Sp := fun vs H Q _ => ∃ b os a d g, vs = [.ref b, .str a, .int d, .str g] ∧ BookAt C H b os ∧ OkB os ∧ okD d ∧
  ∀ p lp H', Same H H' → H lp = Option.none → (∀ q ns, H' p = some (.tup [.str q.1, .int q.2, .ref lp]) → NsAt H' lp ns → ProlEnd os g (a, d) q ns → Q (.ref p) H') ∧
    ∀ e ns, H' p = some (.tup [.non, .int e, .ref lp]) → NsAt H' lp ns → (∀ q ns, ¬ ProlEnd os g (a, d) q ns) → Q (.ref p) H'
def sp_orders_to (C : Addr) : Sp := fun vs H Q _ => ∃ b os a d g, vs = [.ref b, .str a, .int d, .str g] ∧ BookAt C H b os ∧ OkB os ∧ adrB (.str a) = true ∧ okD d ∧ adrB (.str g) = true ∧
  ∀ H', Same H H' → (∀ lp q ns, H lp = Option.none → NsAt H' lp ns → ProlEnd os g (a, d) q ns → q.1 = g → Q (.ref lp) H') ∧ ((∀ q ns, ProlEnd os g (a, d) q ns → q.1 ≠ g) → Q .non H')
def sp_day_if (C : Addr) : Sp := fun vs H Q _ => ∃ b os a d g, vs = [.ref b, .str a, .int d, .str g] ∧ BookAt C H b os ∧ OkB os ∧ adrB (.str a) = true ∧ okD d ∧ adrB (.str g) = true ∧
  ∀ H', Same H H' → (∀ q ns, ProlEnd os g (a, d) q ns → q.1 = g → Q (.int q.2) H') ∧ ((∀ q ns, ProlEnd os g (a, d) q ns → q.1 ≠ g) → Q .non H')
theorem ProlEnd.det {os : List Ord} {g : Str} {p q r : Pt} {ns ms : List Nat} (h : ProlEnd os g p q ns) (k : ProlEnd os g p r ms) : q = r ∧ ns = ms := by
  obtain ⟨t1, h1, s1, rfl⟩ := h
  obtain ⟨t2, h2, s2, rfl⟩ := k
  have main : ∀ {t1 t2 : List (Nat × Bool)} {q r : Pt}, GoesP os g t1 p q → GoesP os g t2 p r → moveI os g q.2 q.1 = none → t1.length ≤ t2.length → t1 = t2 ∧ q = r := by
    intro t1 t2 q r h1 h2 s1 le
    obtain ⟨x, g1, g2⟩ := h2.split t1.length le
    obtain ⟨e0, e1⟩ := h1.det g1 (by rw [List.length_take]; omega)
    subst e1
    by_cases c : t2.drop t1.length = []
    · refine ⟨?_, (g2.nil_eq c).symm⟩
      rw [e0]
      exact List.take_of_length_le (List.drop_eq_nil_iff.mp c)
    · exact absurd s1 (g2.first c)
  by_cases c : t1.length ≤ t2.length
  · obtain ⟨e1, e2⟩ := main h1 h2 s1 c
    exact ⟨e2, by rw [e1]⟩
  · obtain ⟨e1, e2⟩ := main h2 h1 s2 (by omega)
    exact ⟨e2.symm, by rw [e1]⟩
theorem inN {i : Nat} {ns : List Nat} : inV (.int (i : Nat)) (ns.map fun k : Nat => V.int (k : Nat)) = decide (i ∈ ns) := by
  unfold inV
  rw [List.any_map]
  induction ns with
  | nil => simp
  | cons n ns ih =>
    rw [List.any_cons, ih]
    have e : ((fun y => eqV y (V.int (i : Nat))) ∘ fun k : Nat => V.int (k : Nat)) n = decide (i = n) := by
      show eqV (V.int (n : Nat)) (V.int (i : Nat)) = _
      simp only [eqV]
      by_cases c : i = n
      · subst c
        simp
      · have : ¬ (n : Int) = i := by omega
        simp [c, this]
    rw [e]
    by_cases c : i = n <;> simp [c]
theorem flatN (ns : List Nat) : (ns.map fun k : Nat => V.int (k : Nat)).all flatV = true := by
  rw [List.all_map, List.all_eq_true]
  intro x _
  rfl
theorem notInN_of {K : PySem.W.Frag} {H : Hp} {p : Addr} {ns : List Nat} {i : Nat} {Q : VK} (h : H p = some (.lst (ns.map fun k : Nat => V.int (k : Nat)))) (q : Q (.bl (!decide (i ∈ ns))) H) : rIn K true (.int (i : Nat)) (.ref p) H Q :=
  ⟨p, _, rfl, .inl (SqL.of h), rfl, flatN ns, by rw [if_pos rfl, inN]; exact q⟩
theorem addN_nodup {l : List Nat} {a : Nat} (h : l.Nodup) : (addN l a).Nodup := by
  unfold addN
  split
  · exact h
  · rename_i n
    exact List.nodup_append.mpr ⟨h, List.nodup_cons.mpr ⟨by simp, List.nodup_nil⟩, fun x hx y hy e => n (by rw [List.mem_singleton.mp hy] at e; exact e ▸ hx)⟩
theorem nodup_lt {l : List Nat} {n : Nat} (nd : l.Nodup) (lt : ∀ x ∈ l, x < n) : l.length ≤ n := by
  have := nodup_le (l := l) (m := List.range n) nd fun x hx => List.mem_range.mpr (lt x hx)
  rw [List.length_range] at this
  exact this
theorem need_walk {f : Str → Nat} {ok : Str → Bool} (tr : List (Nat × Bool)) (us : List Str) : needN (tr ++ us.map fun x => (f x, ok x)) = (((nubF us).filter ok).map f).foldl addN (needN tr) := by
  rw [needN_app, fold_nub, List.filter_map, List.map_map]
  rfl
theorem foldN_nodup {us : List Nat} : ∀ {l : List Nat}, l.Nodup → (us.foldl addN l).Nodup := by
  induction us with
  | nil => exact id
  | cons a us ih => exact fun h => ih (addN_nodup h)
section
variable {P : Program} {w : World} {K : PySem.W.Frag} {mg : Str → Option Value} {base : Heap}
end
end K47
namespace K47
open PySem PySem.Spec PyProof.Rows L2 StX ClX My
local macro_rules | `(tactic| walk_at "rd") => `(tactic| try simp only [L2.start, List.map_cons, List.map_nil, List.length_cons, List.length_nil, List.cons_append, List.nil_append, List.reduceReplicate, List.replicate_zero, Nat.reduceAdd, Nat.reduceSub,
  List.getElem?_cons_zero, List.getElem?_cons_succ, List.set_cons_zero, List.set_cons_succ, Option.some.injEq, exists_eq_left', exists_eq_left, exists_eq_right, exists_eq_right', V.int.injEq, V.bl.injEq, V.str.injEq, V.ref.injEq, V.ty.injEq, List.cons.injEq, and_true, true_and, and_assoc,
  exists_and_left, exists_const, tVar, tC, tB, tAnd, tOr, tNot, tAndV, tOrV, tNotV, tIf, tSeq, tNext, iStr, iEnumT, iZip, RZ.iZipA, iRev, iList, iTup, iRng1, iRng2, tLc_eq, tDc_eq, tFor_eq, tYes, wipe, tBreak, tCont, tDrop, tRet, tRetN, tIfS, gName, gNil, gCons, gTup, tAsg, tPar, tOp, tUn, rI, rI0, rU, tTest, tChain, tNil, tCons, tTup, tLst, tCB, tFld_eq, tCVal_eq, tProp_eq, tMeth_eq, tMethR_eq, tCMeth, tMakeSL, tDNotIn, tDGet_eq, tDSetd, tDIn_eq, sDPut_eq, tNever, tMakeR_eq, tCKw_eq, tDNewK, tDNewT, tWhile, gSub_eq, tBM_eq, sFld, tPart, tNoPart, tSl, cx_K, cx_w, tCall, cx_K, tCall,
  Bool.false_eq_true, if_true, if_false, ite_true, ite_false, Bool.not_true, Bool.not_false, reduceIte, decide_eq_true_eq, eq_self_iff_true, reduceCtorEq, false_and, and_false, exists_false])
local macro_rules | `(tactic| walk_at "go") => `(tactic| (repeat (first | refine ixT_of (by assumption) (by rfl) ?_ | refine eqI_of ?_ | refine eqS_of ?_ | refine neI_of ?_); try walk_at "rd"))
def Ord.later (n : Int) (o : Ord) : Ord := { o with fst := o.fst + n, lst := o.lst + n }
def sp_rshift (C : Addr) : Sp := fun vs H Q _ => ∃ b os n, vs = [.ref b, .int n] ∧ BookAt C H b os ∧ -dayM ≤ n ∧ n ≤ dayM ∧ OkB (os.map (Ord.later n)) ∧ ∀ c H', Same H H' → BookAt C H' c (os.map (Ord.later n)) → Q (.ref c) H'
def sp_check_number : Sp := fun vs H Q _ => ∃ i lo hi : Int, vs = [.int i, .int lo, .int hi] ∧ lo ≤ i ∧ i ≤ hi ∧ ∀ H', Same H H' → Q .non H'
def sp_order_at (C : Addr) : Sp := fun vs H Q _ => ∃ b os a d, vs = [.ref b, .str a, .int d] ∧ BookAt C H b os ∧ OkB os ∧ adrB (.str a) = true ∧ okD d ∧
  ∀ H', Same H H' → (∀ t w (i : Nat), sendI os d a = some (t, w, i) → Q (.int i) H') ∧ (sendI os d a = none → Q .non H')
section
variable {P : Program} {w : World} {K : PySem.W.Frag} {mg : Str → Option Value} {base : Heap}
theorem ok_check_number (T : Txt K mg) : FnOk P w K mg base (L2.CX P w) 2 T.check_number.f T.check_number.fd ["number", "low", "high"] sp_check_number := by
  have G_is_number := ok_is_number (P := P) (w := w) (base := base) T
  refine T.check_number.F.okX sc_check_number (fun vs H Q E h => ?_) (fun cdv A outer s H vs Q E hr h => ?_)
  · obtain ⟨i, lo, hi, rfl, _⟩ := h
    rfl
  · obtain ⟨i, lo, hi, rfl, h0, h1, k⟩ := h
    refine ⟨_, (pss_one (ps_if (pt_not (pt_val (pe_call G_is_number (hr.mono (by first | decide | omega)) rfl T.is_number.mg T.is_number.F.kp T.is_number.b .nil passF (pa_cons (pv 0) (pa_cons (pv 1) (pa_cons (pv 2) pa_nil))))))
    (pss_one (ps_never))
    pss_nil)), ?_⟩
    walk_at "rd"
    refine ⟨_, _, _, _, rfl, .int _, ?_⟩
    rw [show numB (.int i) lo hi = true by simp [numB, h0, h1]]
    walk_at "rd"
    exact k H (Same.refl H)
theorem ok_rshift (T : Txt K mg) : FnOk P w K mg base (L2.CX P w) 7 T.Book_rshift.f T.Book_rshift.fd ["self", "other"] (sp_rshift T.Book.C) := by
  have G_check_number := ok_check_number (P := P) (w := w) (base := base) T
  have G_Book_init := ok_init (P := P) (w := w) (base := base) T
  refine T.Book_rshift.F.okX sc_Book_rshift (fun vs H Q E h => ?_) (fun cdv A outer s H vs Q E hr h => ?_)
  · obtain ⟨b, os, n, rfl, _⟩ := h
    rfl
  · obtain ⟨b, os, n, rfl, ⟨db, tb, hb, ps, htb, hos⟩, n0, n1, ok, k⟩ := h
    refine ⟨_, (pss_cons (ps_expr (pe_call G_check_number (hr.mono (by first | decide | omega)) rfl T.check_number.mg T.check_number.F.kp T.check_number.b .nil passF (pa_cons (pv 1) (pa_cons (pe_un un_neg (pe_gI T.i_MAX_DAY)) (pa_cons (pe_gI T.i_MAX_DAY) pa_nil)))))
  (pss_cons (ps_setLc (i := 2) (own := [("source", 3), ("target", 4), ("first", 5), ("last", 6), ("way", 7)]) rfl sc_Book_rshift.nd rfl rfl (sw_true rfl rfl rfl (by decide +kernel)) (pi_tup (pe_fld (pv 0) rfl)) (blkOk_by (sc := defScope s_Book_rshift) (N := ["self", "other", "orders", "source", "target", "first", "last", "way"]) (own := [("source", 3), ("target", 4), ("first", 5), ("last", 6), ("way", 7)]) (by decide +kernel)) (fun _ _ _ _ _ => pg_tupK (K := K) (n := 5) rfl rfl (pgs_cons (pg_name (i := 3) sc_Book_rshift.nd rfl (Or.inl rfl)) (pgs_cons (pg_name (i := 4) sc_Book_rshift.nd rfl (Or.inl rfl)) (pgs_cons (pg_name (i := 5) sc_Book_rshift.nd rfl (Or.inl rfl)) (pgs_cons (pg_name (i := 6) sc_Book_rshift.nd rfl (Or.inl rfl)) (pgs_cons (pg_name (i := 7) sc_Book_rshift.nd rfl (Or.inl rfl)) pgs_nil)))))) (fun _ _ _ _ _ => pts_nil) (fun _ _ _ _ _ => (pe_tup (pa_cons (pv 3) (pa_cons (pv 4) (pa_cons (pe_op op_add (pv 5) (pv 1)) (pa_cons (pe_op op_add (pv 6) (pv 1)) (pa_cons (pv 7) pa_nil))))))))
  (pss_one (ps_ret (pe_makeS T.Book_init.new G_Book_init (hr.mono (by first | decide | omega)) rfl T.Book.mg passF (pv 2)))))), ?_⟩
    walk_at "rd"
    have len : ps.length = os.length := Paired.length hos
    have l30 := ok.len
    rw [List.length_map] at l30
    refine ⟨_, _, _, rfl, n0, n1, fun H1 s1 => ?_⟩
    refine fld_of (s1 _ _ hb) T.Book.cl T.a_orders rfl ⟨tb, rfl, ⟨_, SqT.of (s1 _ _ htb)⟩, fun D hD => ?_⟩
    refine comp_rel (walk_tup (K := K) (a := tb) (xs := ps.map V.ref)) (fun i acc H' => ∃ qs : List Addr, acc = qs.map V.ref ∧ Paired (OrdAt H') qs ((os.take i).map (Ord.later n))) (by rw [List.length_map]; omega) hD (fun H2 s2 => SqT.of (s2 _ _ (s1 _ _ htb))) ?_ ⟨[], rfl, .nil⟩ ?_ ?_ ?_
    · rintro i acc H2 H3 sn ⟨qs, e, pr⟩
      exact ⟨qs, e, ordsUp sn pr⟩
    · rintro i acc H2 ⟨qs, rfl, pr⟩
      have := Paired.length pr
      rw [List.length_map, List.length_take] at this
      rw [List.length_map]
      omega
    · rintro i x H2 H3 acc hi s2 ⟨qs, rfl, pr⟩ ⟨rfl, ex⟩ no yes _ hy
      obtain ⟨p, hp, rfl⟩ := nth_ref ex
      obtain ⟨o, ho, hpo⟩ := Paired.at hos hp
      walk_at "rd"
      refine ⟨_, SqT.of (s2 _ _ (s1 _ _ hpo)), rfl, _, _, rfl, _, _, rfl, _, _, rfl, _, _, rfl, _, _, rfl, rfl, ?_⟩
      walk_at "rd"
      refine ⟨by decide, fun q hq => hy _ _ (same_new hq) ⟨qs ++ [q], by simp, ?_⟩⟩
      rw [take_one ho, List.map_append]
      exact Paired.app (ordsUp (SameN.of (same_new hq)) pr) (.cons upd_same .nil)
    · rintro acc H2 s2 hD2 ⟨qs, rfl, pr⟩
      rw [List.length_map, len, List.take_length] at pr
      refine ⟨_, .inr (SqL.of hD2), ?_⟩
      exact make_book pr ok fun c H3 s3 hc => k c H3 ((s1.trans s2).trans s3) hc
end
end K47
namespace K47
open PySem PySem.Spec PyProof.Rows L2 StX ClX My
local macro_rules | `(tactic| walk_at "rd") => `(tactic| try simp only [L2.start, List.map_cons, List.map_nil, List.length_cons, List.length_nil, List.cons_append, List.nil_append, List.reduceReplicate, List.replicate_zero, Nat.reduceAdd, Nat.reduceSub,
  List.getElem?_cons_zero, List.getElem?_cons_succ, List.set_cons_zero, List.set_cons_succ, Option.some.injEq, exists_eq_left', exists_eq_left, exists_eq_right, exists_eq_right', V.int.injEq, V.bl.injEq, V.str.injEq, V.ref.injEq, V.ty.injEq, List.cons.injEq, and_true, true_and, and_assoc,
  exists_and_left, exists_const, tVar, tC, tB, tAnd, tOr, tNot, tAndV, tOrV, tNotV, tIf, tSeq, tNext, iStr, iEnumT, iZip, RZ.iZipA, iRev, iList, iTup, iRng1, iRng2, tLc_eq, tDc_eq, tFor_eq, tYes, wipe, tBreak, tCont, tDrop, tRet, tRetN, tIfS, gName, gNil, gCons, gTup, tAsg, tPar, tOp, tUn, rI, rI0, rU, tTest, tChain, tNil, tCons, tTup, tLst, tCB, tFld_eq, tCVal_eq, tProp_eq, tMeth_eq, tMethR_eq, tCMeth, tMakeSL, tDNotIn, tDGet_eq, tDSetd, tDIn_eq, sDPut_eq, tNever, tMakeR_eq, tCKw_eq, tDNewK, tDNewT, tWhile, gSub_eq, tBM_eq, sFld, tPart, tNoPart, tSl, cx_K, cx_w, tCall, cx_K, tCall,
  Bool.false_eq_true, if_true, if_false, ite_true, ite_false, Bool.not_true, Bool.not_false, reduceIte, decide_eq_true_eq, eq_self_iff_true, reduceCtorEq, false_and, and_false, exists_false])
local macro_rules | `(tactic| walk_at "go") => `(tactic| (repeat (first | refine ixT_of (by assumption) (by rfl) ?_ | refine eqI_of ?_ | refine eqS_of ?_ | refine neI_of ?_); try walk_at "rd"))
/-- the orders of a chain -/
def chainO (f l w : Int) : List Str → List Ord
  | a :: b :: r => ⟨a, b, f, l, w⟩ :: chainO f l w (b :: r)
  | _ => []
def sp_chain (C : Addr) : Sp := fun vs H Q _ => ∃ (t : Addr) (f l w : Int) (as : List Str), vs = [.ref C, .int f, .int l, .int w, .ref t] ∧ H t = some (.tup (as.map V.str)) ∧ as.length ≤ 31 ∧ OkB (chainO f l w as) ∧ ∀ b H', Same H H' → BookAt C H' b (chainO f l w as) → Q (.ref b) H'
def sp_chainR (C : Addr) : Sp := fun vs H Q E => ∃ ws rest, vs = ws ++ rest ∧ ws.length = 4 ∧ rest.length ≤ sizeLine ∧ ∀ p, H p = Option.none → sp_chain C (ws ++ [V.ref p]) (upd H p (.tup rest)) Q E
theorem chainO_len (f l w : Int) : ∀ as : List Str, (chainO f l w as).length = as.length - 1
  | [] => rfl
  | [_] => rfl
  | a :: b :: r => by
    have e := chainO_len f l w (b :: r)
    simp only [chainO, List.length_cons] at e ⊢
    omega
theorem chainO_get (f l w : Int) : ∀ (as : List Str) (i : Nat) (a b : Str), as[i]? = some a → as[i + 1]? = some b → (chainO f l w as)[i]? = some ⟨a, b, f, l, w⟩
  | [], i, a, b, h, _ => by simp at h
  | [x], i, a, b, h, k => by simp at k
  | x :: y :: r, 0, a, b, h, k => by
    simp at h k
    subst h k
    rfl
  | x :: y :: r, i + 1, a, b, h, k => by
    have h' : (y :: r)[i]? = some a := by simpa using h
    have k' : (y :: r)[i + 1]? = some b := by simpa using k
    have e := chainO_get f l w (y :: r) i a b h' k'
    simpa [chainO] using e
section
variable {P : Program} {w : World} {K : PySem.W.Frag} {mg : Str → Option Value} {base : Heap}
end
end K47
namespace K47
open PySem PySem.Spec PyProof.Rows L2 StX ClX My
local macro_rules | `(tactic| walk_at "rd") => `(tactic| try simp only [L2.start, List.map_cons, List.map_nil, List.length_cons, List.length_nil, List.cons_append, List.nil_append, List.reduceReplicate, List.replicate_zero, Nat.reduceAdd, Nat.reduceSub,
  List.getElem?_cons_zero, List.getElem?_cons_succ, List.set_cons_zero, List.set_cons_succ, Option.some.injEq, exists_eq_left', exists_eq_left, exists_eq_right, exists_eq_right', V.int.injEq, V.bl.injEq, V.str.injEq, V.ref.injEq, V.ty.injEq, List.cons.injEq, and_true, true_and, and_assoc,
  exists_and_left, exists_const, tVar, tC, tB, tAnd, tOr, tNot, tAndV, tOrV, tNotV, tIf, tSeq, tNext, iStr, iEnumT, iZip, RZ.iZipA, iRev, iList, iTup, iRng1, iRng2, tLc_eq, tDc_eq, tFor_eq, tYes, wipe, tBreak, tCont, tDrop, tRet, tRetN, tIfS, gName, gNil, gCons, gTup, tAsg, tPar, tOp, tUn, rI, rI0, rU, tTest, tChain, tNil, tCons, tTup, tLst, tCB, tFld_eq, tCVal_eq, tProp_eq, tMeth_eq, tMethR_eq, tCMeth, tMakeSL, tDNotIn, tDGet_eq, tDSetd, tDIn_eq, sDPut_eq, tNever, tMakeR_eq, tCKw_eq, tDNewK, tDNewT, tWhile, gSub_eq, tBM_eq, sFld, tPart, tNoPart, tSl, cx_K, cx_w, tCall, cx_K, tCall,
  Bool.false_eq_true, if_true, if_false, ite_true, ite_false, Bool.not_true, Bool.not_false, reduceIte, decide_eq_true_eq, eq_self_iff_true, reduceCtorEq, false_and, and_false, exists_false])
local macro_rules | `(tactic| walk_at "go") => `(tactic| (repeat (first | refine ixT_of (by assumption) (by rfl) ?_ | refine eqI_of ?_ | refine eqS_of ?_ | refine neI_of ?_); try walk_at "rd"))
/-- a book without some of its orders -/
def dropI (os : List Ord) (ks : List Nat) : List Ord := (List.range os.length).filterMap fun i => if i ∈ ks then Option.none else os[i]?
theorem dropI_mem {os : List Ord} {ks : List Nat} {o : Ord} : o ∈ dropI os ks ↔ ∃ i, i ∉ ks ∧ os[i]? = some o := by
  unfold dropI
  rw [List.mem_filterMap]
  constructor
  · rintro ⟨i, _, e⟩
    by_cases c : i ∈ ks
    · rw [if_pos c] at e
      cases e
    · rw [if_neg c] at e
      exact ⟨i, c, e⟩
  · rintro ⟨i, c, e⟩
    exact ⟨i, List.mem_range.mpr (List.getElem?_eq_some_iff.mp e).1, by rw [if_neg c]; exact e⟩
theorem dropI_ok {os : List Ord} {ks : List Nat} (h : OkB os) : OkB (dropI os ks) := by
  refine ⟨?_, fun i o e => ?_, fun i o e => ?_⟩
  · have := List.length_filterMap_le (fun i => if i ∈ ks then Option.none else os[i]?) (List.range os.length)
    rw [List.length_range] at this
    have := h.len
    unfold dropI
    omega
  · obtain ⟨j, _, hj⟩ := dropI_mem.mp (List.mem_of_getElem? e)
    exact h.each j o hj
  · -- the orders ahead of it stand ahead of it in the whole book
    have main : ∀ (n i : Nat) (o : Ord), ((List.range n).filterMap fun i => if i ∈ ks then Option.none else os[i]?)[i]? = some o → n ≤ os.length → (((List.range n).filterMap fun i => if i ∈ ks then Option.none else os[i]?).take i).any (share o) = false := by
      intro n
      induction n with
      | zero => intro i o e; simp at e
      | succ n ih =>
        intro i o e hn
        rw [List.range_succ, List.filterMap_append] at e ⊢
        generalize eL : (List.range n).filterMap (fun i => if i ∈ ks then Option.none else os[i]?) = L at e ih ⊢
        by_cases c : i < L.length
        · rw [List.getElem?_append_left c] at e
          rw [List.take_append_of_le_length (Nat.le_of_lt c)]
          exact ih i o e (by omega)
        · rw [List.getElem?_append_right (by omega)] at e
          by_cases m : n ∈ ks
          · simp [m] at e
          · obtain ⟨u, hu⟩ : ∃ u, os[n]? = some u := ⟨_, List.getElem?_eq_getElem (by omega)⟩
            have eM : List.filterMap (fun i => if i ∈ ks then Option.none else os[i]?) [n] = [u] := by simp [m, hu]
            rw [eM] at e ⊢
            have z : i - L.length = 0 := by
              have := (List.getElem?_eq_some_iff.mp e).1
              simp at this
              omega
            rw [z] at e
            cases e
            have ei : i = L.length := by omega
            rw [ei, List.take_append_of_le_length (Nat.le_refl _), List.take_length, List.any_eq_false]
            intro x hx
            rw [← eL] at hx
            obtain ⟨j, hj, ej⟩ := List.mem_filterMap.mp hx
            have hj := List.mem_range.mp hj
            by_cases mj : j ∈ ks
            · rw [if_pos mj] at ej
              cases ej
            · rw [if_neg mj] at ej
              have ap := List.any_eq_false.mp (h.apart n o hu) x (List.mem_of_getElem? (i := j) (by rw [List.getElem?_take, if_pos hj]; exact ej))
              exact ap
    exact main os.length i o e (Nat.le_refl _)
def sp_without (C : Addr) : Sp := fun vs H Q _ => ∃ (b t : Addr) (os : List Ord) (ks : List Nat), vs = [.ref b, .ref t] ∧ BookAt C H b os ∧ OkB os ∧ H t = some (.tup (ks.map fun k : Nat => V.int (k : Nat))) ∧ (∀ k ∈ ks, k < os.length) ∧ ks.length ≤ 1000 ∧ ∀ c H', Same H H' → BookAt C H' c (dropI os ks) → Q (.ref c) H'
def sp_withoutR (C : Addr) : Sp := fun vs H Q E => ∃ ws rest, vs = ws ++ rest ∧ ws.length = 1 ∧ rest.length ≤ sizeLine ∧ ∀ p, H p = Option.none → sp_without C (ws ++ [V.ref p]) (upd H p (.tup rest)) Q E
section
variable {P : Program} {w : World} {K : PySem.W.Frag} {mg : Str → Option Value} {base : Heap}
end
end K47
namespace K47
open PySem PySem.Spec PyProof.Rows L2 StX ClX My
local macro_rules | `(tactic| walk_at "rd") => `(tactic| try simp only [L2.start, List.map_cons, List.map_nil, List.length_cons, List.length_nil, List.cons_append, List.nil_append, List.reduceReplicate, List.replicate_zero, Nat.reduceAdd, Nat.reduceSub,
  List.getElem?_cons_zero, List.getElem?_cons_succ, List.set_cons_zero, List.set_cons_succ, Option.some.injEq, exists_eq_left', exists_eq_left, exists_eq_right, exists_eq_right', V.int.injEq, V.bl.injEq, V.str.injEq, V.ref.injEq, V.ty.injEq, List.cons.injEq, and_true, true_and, and_assoc,
  exists_and_left, exists_const, tVar, tC, tB, tAnd, tOr, tNot, tAndV, tOrV, tNotV, tIf, tSeq, tNext, iStr, iEnumT, iZip, RZ.iZipA, iRev, iList, iTup, iRng1, iRng2, tLc_eq, tDc_eq, tFor_eq, tYes, wipe, tBreak, tCont, tDrop, tRet, tRetN, tIfS, gName, gNil, gCons, gTup, tAsg, tPar, tOp, tUn, rI, rI0, rU, tTest, tChain, tNil, tCons, tTup, tLst, tCB, tFld_eq, tCVal_eq, tProp_eq, tMeth_eq, tMethR_eq, tCMeth, tMakeSL, tDNotIn, tDGet_eq, tDSetd, tDIn_eq, sDPut_eq, tNever, tMakeR_eq, tCKw_eq, tDNewK, tDNewT, tWhile, gSub_eq, tBM_eq, sFld, tPart, tNoPart, tSl, cx_K, cx_w, tCall, cx_K, tCall,
  Bool.false_eq_true, if_true, if_false, ite_true, ite_false, Bool.not_true, Bool.not_false, reduceIte, decide_eq_true_eq, eq_self_iff_true, reduceCtorEq, false_and, and_false, exists_false])
local macro_rules | `(tactic| walk_at "go") => `(tactic| (repeat (first | refine ixT_of (by assumption) (by rfl) ?_ | refine eqI_of ?_ | refine eqS_of ?_ | refine neI_of ?_); try walk_at "rd"))
local macro_rules | `(tactic| walk_at "r2") => `(tactic| ((walk_at "rd"); (try simp only [tPar3, tDGet2]); (walk_at "rd")))

local macro_rules | `(tactic| walk_at "rl") => `(tactic| ((walk_at "r2"); (try simp only [tLstRg, tRg1, tRg2]); (walk_at "r2")))
/-- all addresses of orders, ascending -/
def AdrsOf (os : List Ord) (ys : List Str) : Prop := sortedS ys = true ∧ ys.Nodup ∧ ∀ a, a ∈ ys ↔ ∃ o ∈ os, a = o.src ∨ a = o.tgt
def sp_addresses (C : Addr) : Sp := fun vs H Q _ => ∃ b os, vs = [.ref b] ∧ BookAt C H b os ∧ OkB os ∧ ∀ t ys H', Same H H' → H' t = some (.tup (ys.map V.str)) → AdrsOf os ys → Q (.ref t) H'
section
variable {P : Program} {w : World} {K : PySem.W.Frag} {mg : Str → Option Value} {base : Heap}
theorem ok_addresses (T : Txt K mg) : FnOk P w K mg base (L2.CX P w) 2 T.p_addresses.f T.p_addresses.fd ["self"] (sp_addresses T.Book.C) := by
  refine T.p_addresses.F.okX sc_Book_addresses (fun vs H Q E h => ?_) (fun cdv A outer s H vs Q E hr h => ?_)
  · obtain ⟨b, os, rfl, _⟩ := h
    rfl
  · obtain ⟨b, os, rfl, hb, ok, kk⟩ := h
    refine ⟨_, (pss_one (ps_ret (pe_callTy call_tuple_of (by rfl) T.n_tuple (by decide +kernel) (pa_cons (pe_callB (cr_sortSS rfl) (by rfl) T.n_sorted (by decide +kernel) (pa_cons (pe_dbl (own := [("order", 1), ("address", 2)]) (us := [2]) rfl sc_Book_addresses.nd (pi_tup (pe_fld (pv 0) rfl)) (blkOk_by (sc := defScope s_Book_addresses) (N := ["self", "order", "address"]) (own := [("order", 1), ("address", 2)]) (by decide +kernel)) (by decide) (fun _ _ _ _ _ => pg_name (i := 1) sc_Book_addresses.nd rfl (Or.inl rfl)) (fun _ _ _ _ _ => (pi_tupK (K := K) (pe_slice (sl_tupAK (K := K)) (pv 1) po_none (po_some pe_int)))) (fun _ _ _ _ _ => pg_name (i := 2) sc_Book_addresses.nd rfl (Or.inl rfl)) (fun _ _ _ _ _ => (pv 2))) pa_nil)) pa_nil)))), ?_⟩
    walk_at "rl"
    obtain ⟨db, tb, hbb, ps, htb, hos⟩ := id hb
    have len : ps.length = os.length := Paired.length hos
    have l30 := ok.len
    unfold tDbl
    walk_at "rl"
    refine fld_of hbb T.Book.cl T.a_orders rfl ?_
    refine ⟨tb, rfl, ⟨_, SqT.of htb⟩, fun D hD => ?_⟩
    have wk := walk_tup (K := K) (a := tb) (xs := ps.map V.ref)
    have ln : (ps.map V.ref).length = os.length := by rw [List.length_map, len]
    rw [ln] at wk
    have sb : 100 < scanBound := by decide
    refine ⟨fun i m H' => m = os.length - i ∧ i ≤ os.length ∧ ∃ l : List Str, Same H H' ∧ H' D = some (SetSO P w D l) ∧ l.Nodup ∧ l.length ≤ 2 * i ∧ ∀ a, a ∈ l ↔ ∃ o ∈ os.take i, a = o.src ∨ a = o.tgt, ⟨os.length, by simp, Nat.zero_le _, [], same_new hD, upd_same, List.nodup_nil, by simp, fun a => by simp⟩, ?_⟩
    rintro i m H1 ⟨rfl, hi, l, s1, atD, nd, lenl, mem⟩
    have ht1 := s1 _ _ htb
    by_cases lt : i < os.length
    · refine .inr ⟨wk.goes i H1 lt (SqT.of ht1), fun H' => ∃ l : List Str, Same H H' ∧ H' D = some (SetSO P w D l) ∧ l.Nodup ∧ l.length ≤ 2 * (i + 1) ∧ ∀ a, a ∈ l ↔ ∃ o ∈ os.take (i + 1), a = o.src ∨ a = o.tgt, fun H' q => ⟨os.length - (i + 1), by omega, rfl, lt, q⟩, fun x H2 y => ?_⟩
      obtain ⟨rfl, ex⟩ := wk.yields i H1 x H2 lt (SqT.of ht1) y
      obtain ⟨q, hq, rfl⟩ := nth_ref ex
      obtain ⟨o, ho, hqo⟩ := Paired.at hos hq
      have hq2 := s1 _ _ hqo
      refine sl_take (i := 2) hq2 (show 2 < 5 by decide) fun p hp => ⟨p, rfl, ⟨_, SqT.of upd_same⟩, ?_⟩
      have sp := same_new (o := .tup (o.vals.take 2)) hp
      have atp : (upd H2 p (.tup (o.vals.take 2))) p = some (.tup [V.str o.src, V.str o.tgt]) := upd_same
      generalize upd H2 p (.tup (o.vals.take 2)) = H3 at sp atp
      have nDp : p ≠ D := fun z => by
        rw [z, atD] at hp
        cases hp
      have wj := walk_tup (K := K) (a := p) (xs := [V.str o.src, V.str o.tgt])
      refine ⟨fun j m H' => m = 2 - j ∧ j ≤ 2 ∧ ∃ l : List Str, Same H H' ∧ H' p = some (.tup [V.str o.src, V.str o.tgt]) ∧ H' D = some (SetSO P w D l) ∧ l.Nodup ∧ l.length ≤ 2 * i + j ∧ ∀ a, a ∈ l ↔ (∃ o ∈ os.take i, a = o.src ∨ a = o.tgt) ∨ a ∈ [o.src, o.tgt].take j, ⟨2, rfl, by omega, l, s1.trans sp, atp, sp _ _ atD, nd, lenl, fun a => by rw [mem]; simp⟩, ?_⟩
      rintro j m H4 ⟨rfl, hj, l2, s4, atp4, atD4, nd4, len4, mem4⟩
      by_cases lj : j < 2
      · refine .inr ⟨wj.goes j H4 lj (SqT.of atp4), fun H' => ∃ l : List Str, Same H H' ∧ H' p = some (.tup [V.str o.src, V.str o.tgt]) ∧ H' D = some (SetSO P w D l) ∧ l.Nodup ∧ l.length ≤ 2 * i + (j + 1) ∧ ∀ a, a ∈ l ↔ (∃ o ∈ os.take i, a = o.src ∨ a = o.tgt) ∨ a ∈ [o.src, o.tgt].take (j + 1), fun H' q => ⟨2 - (j + 1), by omega, rfl, lj, q⟩, fun x H5 y => ?_⟩
        obtain ⟨rfl, ex⟩ := wj.yields j H4 x H5 lj (SqT.of atp4) y
        obtain ⟨z, hz, ez⟩ : ∃ z, [o.src, o.tgt][j]? = some z ∧ x = V.str z := by
          have : j = 0 ∨ j = 1 := by omega
          rcases this with rfl | rfl
          · exact ⟨o.src, rfl, (Option.some.inj ex).symm⟩
          · exact ⟨o.tgt, rfl, (Option.some.inj ex).symm⟩
        refine ⟨z, ez, l2, atD4, by omega, _, fun c u h => ?_, ?_, upd_same, ?_, ?_, fun a => ?_⟩
        · rw [upd_ne (ne_of_none h hD)]
          exact s4 _ _ h
        · rw [upd_ne nDp]
          exact atp4
        · split
          · exact nd4
          · exact List.nodup_cons.mpr ⟨by assumption, nd4⟩
        · split
          · omega
          · rw [List.length_cons]
            omega
        · rw [take_one hz]
          have e : a ∈ (if z ∈ l2 then l2 else z :: l2) ↔ a ∈ l2 ∨ a = z := by
            split
            · exact ⟨.inl, fun h => h.elim id fun e => e ▸ ‹z ∈ l2›⟩
            · rw [List.mem_cons]
              exact Or.comm
          rw [e, mem4, List.mem_append, List.mem_singleton, or_assoc]
      · have e : j = 2 := by omega
        subst e
        refine .inl ⟨wj.stops H4 (SqT.of atp4), l2, s4, atD4, nd4, by omega, fun a => ?_⟩
        rw [mem4, take_one ho]
        constructor
        · rintro (⟨u, hu, h⟩ | h)
          · exact ⟨u, List.mem_append_left _ hu, h⟩
          · exact ⟨o, List.mem_append_right _ (List.mem_singleton.mpr rfl), by simpa using h⟩
        · rintro ⟨u, hu, h⟩
          rcases List.mem_append.mp hu with hu | hu
          · exact .inl ⟨u, hu, h⟩
          · rw [List.mem_singleton] at hu
            subst hu
            exact .inr (by simpa using h)
    · have e : i = os.length := by omega
      subst e
      refine .inl ⟨wk.stops H1 (SqT.of ht1), D, l, rfl, atD, by omega, fun ys p pe srt hp => ⟨p, rfl, _, .inl ⟨SqL.of upd_same, fun t ht => ?_⟩⟩⟩
      refine kk t ys _ ((s1.trans (same_new hp)).trans (same_new ht)) upd_same ⟨srt, pe.nodup_iff.mpr nd, fun a => ?_⟩
      rw [pe.mem_iff, mem, List.take_of_length_le (Nat.le_refl _)]
end
end K47
namespace K47
open PySem PySem.Spec PyProof.Rows L2 StX ClX My
local macro_rules | `(tactic| walk_at "rd") => `(tactic| try simp only [L2.start, List.map_cons, List.map_nil, List.length_cons, List.length_nil, List.cons_append, List.nil_append, List.reduceReplicate, List.replicate_zero, Nat.reduceAdd, Nat.reduceSub,
  List.getElem?_cons_zero, List.getElem?_cons_succ, List.set_cons_zero, List.set_cons_succ, Option.some.injEq, exists_eq_left', exists_eq_left, exists_eq_right, exists_eq_right', V.int.injEq, V.bl.injEq, V.str.injEq, V.ref.injEq, V.ty.injEq, List.cons.injEq, and_true, true_and, and_assoc,
  exists_and_left, exists_const, tVar, tC, tB, tAnd, tOr, tNot, tAndV, tOrV, tNotV, tIf, tSeq, tNext, iStr, iEnumT, iZip, RZ.iZipA, iRev, iList, iTup, iRng1, iRng2, tLc_eq, tDc_eq, tFor_eq, tYes, wipe, tBreak, tCont, tDrop, tRet, tRetN, tIfS, gName, gNil, gCons, gTup, tAsg, tPar, tOp, tUn, rI, rI0, rU, tTest, tChain, tNil, tCons, tTup, tLst, tCB, tFld_eq, tCVal_eq, tProp_eq, tMeth_eq, tMethR_eq, tCMeth, tMakeSL, tDNotIn, tDGet_eq, tDSetd, tDIn_eq, sDPut_eq, tNever, tMakeR_eq, tCKw_eq, tDNewK, tDNewT, tWhile, gSub_eq, tBM_eq, sFld, tPart, tNoPart, tSl, cx_K, cx_w, tCall, cx_K, tCall,
  Bool.false_eq_true, if_true, if_false, ite_true, ite_false, Bool.not_true, Bool.not_false, reduceIte, decide_eq_true_eq, eq_self_iff_true, reduceCtorEq, false_and, and_false, exists_false])
local macro_rules | `(tactic| walk_at "go") => `(tactic| (repeat (first | refine ixT_of (by assumption) (by rfl) ?_ | refine eqI_of ?_ | refine eqS_of ?_ | refine neI_of ?_); try walk_at "rd"))
/-- the last day of an order is another -/
def setLst (os : List Ord) (i : Nat) (d : Int) : List Ord := match os[i]? with
  | some o => os.set i { o with lst := d }
  | none => os
def sp_with_order (C : Addr) : Sp := fun vs H Q _ => ∃ (b q : Addr) (os : List Ord) (i : Nat) (o : Ord), vs = [.ref b, .int i, .ref q] ∧ BookAt C H b os ∧ i < os.length ∧ OrdAt H q o ∧ OkB (os.set i o) ∧ ∀ c H', Same H H' → BookAt C H' c (os.set i o) → Q (.ref c) H'
def sp_with_last (C : Addr) : Sp := fun vs H Q _ => ∃ (b : Addr) (os : List Ord) (i : Nat) (d : Int), vs = [.ref b, .int i, .int d] ∧ BookAt C H b os ∧ i < os.length ∧ OkB (setLst os i d) ∧ ∀ c H', Same H H' → BookAt C H' c (setLst os i d) → Q (.ref c) H'
def sp_prolonged (C : Addr) : Sp := fun vs H Q _ => ∃ (b : Addr) (os : List Ord) (i : Nat) (o : Ord) (d : Int), vs = [.ref b, .int i, .int d] ∧ BookAt C H b os ∧ os[i]? = some o ∧ o.lst ≤ d ∧ d ≤ dayM ∧ OkB (setLst os i d) ∧ ∀ c H', Same H H' → BookAt C H' c (setLst os i d) → Q (.ref c) H'
theorem Paired.set {α β : Type} {F : α → β → Prop} {a : α} {b : β} (h : F a b) : ∀ {l : List α} {m : List β} (i : Nat), Paired F l m → Paired F (l.set i a) (m.set i b)
  | _, _, _, .nil => .nil
  | _, _, 0, .cons _ t => .cons h t
  | _, _, i + 1, .cons r t => .cons r (Paired.set h i t)
theorem ixN_at {n j : Nat} (h : j < n) : ixN n (j : Int) = some j := by
  unfold ixN
  rw [if_pos (by omega), if_pos (by omega)]
  rfl
section
variable {P : Program} {w : World} {K : PySem.W.Frag} {mg : Str → Option Value} {base : Heap}
end
end K47
namespace K47
open PySem PySem.Spec PyProof.Rows L2 StX ClX My
local macro_rules | `(tactic| walk_at "rd") => `(tactic| try simp only [L2.start, List.map_cons, List.map_nil, List.length_cons, List.length_nil, List.cons_append, List.nil_append, List.reduceReplicate, List.replicate_zero, Nat.reduceAdd, Nat.reduceSub,
  List.getElem?_cons_zero, List.getElem?_cons_succ, List.set_cons_zero, List.set_cons_succ, Option.some.injEq, exists_eq_left', exists_eq_left, exists_eq_right, exists_eq_right', V.int.injEq, V.bl.injEq, V.str.injEq, V.ref.injEq, V.ty.injEq, List.cons.injEq, and_true, true_and, and_assoc,
  exists_and_left, exists_const, tVar, tC, tB, tAnd, tOr, tNot, tAndV, tOrV, tNotV, tIf, tSeq, tNext, iStr, iEnumT, iZip, RZ.iZipA, iRev, iList, iTup, iRng1, iRng2, tLc_eq, tDc_eq, tFor_eq, tYes, wipe, tBreak, tCont, tDrop, tRet, tRetN, tIfS, gName, gNil, gCons, gTup, tAsg, tPar, tOp, tUn, rI, rI0, rU, tTest, tChain, tNil, tCons, tTup, tLst, tCB, tFld_eq, tCVal_eq, tProp_eq, tMeth_eq, tMethR_eq, tCMeth, tMakeSL, tDNotIn, tDGet_eq, tDSetd, tDIn_eq, sDPut_eq, tNever, tMakeR_eq, tCKw_eq, tDNewK, tDNewT, tWhile, gSub_eq, tBM_eq, sFld, tPart, tNoPart, tSl, cx_K, cx_w, tCall, cx_K, tCall,
  Bool.false_eq_true, if_true, if_false, ite_true, ite_false, Bool.not_true, Bool.not_false, reduceIte, decide_eq_true_eq, eq_self_iff_true, reduceCtorEq, false_and, and_false, exists_false])
local macro_rules | `(tactic| walk_at "go") => `(tactic| (repeat (first | refine ixT_of (by assumption) (by rfl) ?_ | refine eqI_of ?_ | refine eqS_of ?_ | refine neI_of ?_); try walk_at "rd"))
local macro_rules | `(tactic| walk_at "gn") => `(tactic| ((try simp only [tGThen, tPlain, tGFor_eq, tGYield, GEnds.at, tG0, gcx_K, tDNotIn, tListG, tCallG]); (walk_at "rd"); (try simp only [tGThen, tPlain, tGFor_eq, tGYield, GEnds.at, tG0, gcx_K, tDNotIn, tListG, tCallG]); (walk_at "rd")))
/-- the first arrivals of a letter, at most n -/
structure RouteOf (os : List Ord) (p : Pt) (n : Nat) (as : List Pt) : Prop where
  le : as.length ≤ n
  at_ : ∀ (i : Nat) (q : Pt), as[i]? = some q → Goes os i p q
  whole : as.length < n → ∃ q, as[as.length - 1]? = some q ∧ step os q = none
def sp_route (C : Addr) : SpG := fun vs H Q _ => ∃ (b : Addr) (os : List Ord) (a : Str) (d : Int) (n : Nat), vs = [.ref b, .str a, .int d, .int (n : Nat)] ∧ BookAt C H b os ∧ OkB os ∧ adrB (.str a) = true ∧ okD d ∧ n ≤ 1000 ∧
  ∀ ps as H', Same H H' → LetsAt H' ps as → RouteOf os (a, d) n as → Q (ps.map V.ref) H'
section
variable {P : Program} {w : World} {K : PySem.W.Frag} {mg : Str → Option Value} {base : Heap}
theorem ok_route (T : Txt K mg) : GFn P w K mg base 8 T.route.f T.route.fd ["book", "address", "day", "count"] (sp_route T.Book.C) := by
  have G_check_letter := ok_check_letter (P := P) (w := w) (base := base) T
  have G_check_number := ok_check_number (P := P) (w := w) (base := base) T
  have G_holding := ok_holding (P := P) (w := w) (base := base) T
  obtain ⟨oc, od, kV, doc, pm, an, cdv, ct, osl, efd, lk, hcd⟩ := T.route.F.ex
  rw [efd] at lk ⊢
  refine gfn_of lk hcd sc_route (fun vs H Q E h => ?_) (fun A outer s H vs Q E pn hr h => ?_)
  · obtain ⟨b, os, a, d, n, rfl, _⟩ := h
    rfl
  · obtain ⟨b, os, a, d, n, rfl, hb, ok, ha, hd, n1, k⟩ := h
    refine ⟨_, (gss_cons (gs_ps ((ps_expr (pe_call G_check_letter (hr.mono (by first | decide | omega)) rfl T.check_letter.mg T.check_letter.F.kp T.check_letter.b .nil passF (pa_cons (pv 1) (pa_cons (pv 2) pa_nil))))))
  (gss_cons (gs_ps ((ps_expr (pe_call G_check_number (hr.mono (by first | decide | omega)) rfl T.check_number.mg T.check_number.F.kp T.check_number.b .nil passF (pa_cons (pv 3) (pa_cons pe_int (pa_cons (pe_gI T.i_MAX_ARRIVALS) pa_nil)))))))
  (gss_cons (gs_for (passes_of rfl) rfl (pi_range1 (by rfl) T.n_range (pa_cons (pv 3) pa_nil)) (pg_name (i := 4) sc_route.nd rfl (Or.inl rfl))
    (gss_cons (gs_yield (pe_tup (pa_cons (pv 1) (pa_cons (pv 2) pa_nil))))
  (gss_cons (gs_ps ((ps_asg (pe_call G_holding (hr.mono (by first | decide | omega)) rfl T.holding.mg T.holding.F.kp T.holding.b .nil passF (pa_cons (pv 0) (pa_cons (pv 2) pa_nil))) (pg_tupK (K := K) (n := 2) rfl rfl (pgs_cons (pg_name (i := 5) sc_route.nd rfl (Or.inl rfl)) (pgs_cons (pg_name (i := 4) sc_route.nd rfl (Or.inl rfl)) pgs_nil))))))
  (gss_cons (gs_ps ((ps_if (pt_cmp (pc_dnotin (hu_of hr) (pv 1) (pv 5)))
    (pss_one (ps_retN))
    pss_nil)))
  (gss_cons (gs_ps ((ps_asg (pe_dget (hu_of hr) (pv 5) (pv 1) (fun _ _ => rfl)) (pg_tupK (K := K) (n := 3) rfl rfl (pgs_cons (pg_name (i := 1) sc_route.nd rfl (Or.inl rfl)) (pgs_cons (pg_name (i := 6) sc_route.nd rfl (Or.inl rfl)) (pgs_cons (pg_name (i := 4) sc_route.nd rfl (Or.inl rfl)) pgs_nil)))))))
  (gss_cons (gs_ps ((ps_set (i := 2) sc_route.nd rfl (Or.inl rfl) (pe_op op_add (pv 2) (pv 6)))))
  gss_nil))))))
  gss_nil))), ?_⟩
    walk_at "gn"
    have p62 : (2 : Int) ^ 62 = 4611686018427387904 := by decide
    refine ⟨_, _, rfl, ha, hd, fun H1 s1 => ⟨_, _, _, rfl, by omega, by omega, fun H2 s2 => ⟨by omega, by omega, ?_⟩⟩⟩
    have en : ((n : Nat) : Int).toNat = n := rfl
    rw [en]
    have s12 := s1.trans s2
    obtain ⟨W, hW⟩ : ∃ W : Nat → List V → L2.St → Hp → Prop, W = fun i ys σ H' => ∃ (a' : Str) (d' : Int) (v4 v5 v6 : Option V) (ps : List Addr) (as : List Pt),
      σ = [some (.ref b), some (.str a'), some (.int d'), some (.int (n : Nat)), v4, v5, v6] ∧ ys = ps.map V.ref ∧ Same H H' ∧ LetsAt H' ps as ∧ as.length = i ∧ (∀ (j : Nat) (q : Pt), as[j]? = some q → Goes os j (a, d) q) ∧ Goes os i (a, d) (a', d') := ⟨_, rfl⟩
    refine gfor_rel walk_range W ?_ (fun _ _ _ _ _ _ => trivial) ?_ ?_
    · rw [hW]
      exact ⟨a, d, _, _, _, [], [], rfl, rfl, s12, .nil, rfl, fun j q h => by simp at h, .zero _⟩
    · rintro i v ys σ H3 H4 hi hw ⟨rfl, rfl⟩
      rw [hW] at hw
      obtain ⟨a', d', v4, v5, v6, ps, as, rfl, rfl, s3, hl, al, ag, g⟩ := hw
      walk_at "gn"
      have lps : ps.length = i := by rw [Paired.length hl, al]
      refine ⟨by rw [List.length_map, lps]; exact Nat.lt_of_lt_of_le (show i < 100000 by omega) (by decide), by decide, fun p hp => ?_⟩
      have s5 := same_new (o := .tup [.str a', .int d']) hp
      have at5 : (upd H4 p (.tup [.str a', .int d'])) p = some (.tup [.str a', .int d']) := upd_same
      generalize upd H4 p (.tup [.str a', .int d']) = H5 at s5 at5
      refine ⟨b, os, d', rfl, hb.up (SameN.of (s3.trans s5)), ok, fun q D L H6 s6 hq hD dL _ => ?_⟩
      have s36 := (s3.trans s5).trans s6
      have hl6 : LetsAt H6 (ps ++ [p]) (as ++ [(a', d')]) := Paired.app (Paired.mp (fun c u h => s6 _ _ (s5 _ _ h)) hl) (.cons (s6 _ _ at5) .nil)
      have ag2 : ∀ (j : Nat) (u : Pt), (as ++ [(a', d')])[j]? = some u → Goes os j (a, d) u := fun j u h => by
        by_cases c : j < as.length
        · rw [List.getElem?_append_left c] at h
          exact ag j u h
        · rw [List.getElem?_append_right (by omega)] at h
          have e0 : j - as.length = 0 := by
            have h2 := (List.getElem?_eq_some_iff.mp h).1
            simp at h2
            omega
          rw [e0] at h
          have e1 : j = i := by omega
          rw [e1]
          cases h
          exact g
      obtain ⟨kvs, hk, _, hS⟩ := hD
      refine ⟨q, rfl, _, SqT.of hq, rfl, _, _, rfl, _, _, rfl, rfl, ?_⟩
      walk_at "gn"
      refine ⟨_, DGet.k (k := Sum.inr a') hk, ?_⟩
      have hSa := hS a'
      cases es : sendI os d' a' with
      | none =>
        rw [es] at hSa
        have hSa : valV kvs (Sum.inr a') = none := hSa
        rw [hSa]
        rw [if_pos (by rfl)]
        have e : ps.map V.ref ++ [V.ref p] = (ps ++ [p]).map V.ref := by simp
        rw [e]
        refine k _ _ H6 s36 hl6 ⟨by simp; omega, ag2, fun _ => ⟨(a', d'), ?_, (step_none ok).mpr es⟩⟩
        simp
      | some tw =>
        obtain ⟨t, w', i'⟩ := tw
        rw [es] at hSa
        obtain ⟨tp, hv, htp⟩ := hSa
        rw [hv]
        rw [if_neg (by simp)]
        refine dget_of hk hv ⟨tp, rfl, _, SqT.of htp, rfl, _, _, rfl, _, _, rfl, _, _, rfl, rfl, w', rfl, ?_⟩
        have st := sendI_step ok (L := d') (fun o _ _ z => z) es (Int.le_refl _) (Int.le_refl _)
        rw [hW]
        exact ⟨t, d' + w', _, _, _, ps ++ [p], as ++ [(a', d')], rfl, by simp, s36, hl6, by simp [al], ag2, g.snoc st⟩
    · rintro ys σ H3 hw
      rw [hW] at hw
      obtain ⟨a', d', v4, v5, v6, ps, as, rfl, rfl, s3, hl, al, ag, g⟩ := hw
      exact k ps as H3 s3 hl ⟨by omega, ag, fun z => by omega⟩
end
end K47
namespace K47
open PySem PySem.Spec PyProof.Rows L2 StX ClX My
/-! ### k20: where two routes first share an arrival -/
/-- all arrivals of a letter: one for each step, and the first one -/
def AllOf (os : List Ord) (p : Pt) (n : Nat) (as : List Pt) : Prop := as.length = n + 1 ∧ ∀ (i : Nat) (q : Pt), as[i]? = some q → Goes os i p q
theorem RouteOf.all {os : List Ord} {p q : Pt} {n m : Nat} {as : List Pt} (r : RouteOf os p m as) (g : Goes os n p q) (st : step os q = none) (lt : n < m) (ne : as ≠ []) : AllOf os p n as := by
  have pos := List.length_pos_iff.mpr ne
  have lastGoes : ∀ (i : Nat) (x : Pt), as[i]? = some x → i ≤ n := fun i x h => by
    have gx := r.at_ i x h
    have z := (EndsBy.det (n := max i n) (k := n) (k' := n) ⟨g, by omega, .inr st⟩ ⟨g, by omega, .inr st⟩).2
    rcases Nat.lt_or_ge n i with lt | ge
    · obtain ⟨d, rfl⟩ : ∃ d, i = n + (d + 1) := ⟨i - n - 1, by omega⟩
      obtain ⟨y, h1, h2⟩ := gx.split
      have e := g.det h1
      subst e
      cases h2 with
      | succ s _ => rw [st] at s; cases s
    · exact ge
  have hl : as[as.length - 1]? = some as[as.length - 1] := List.getElem?_eq_getElem (by omega)
  have b1 := lastGoes _ _ hl
  by_cases c : as.length = n + 1
  · exact ⟨c, r.at_⟩
  obtain ⟨x, hx, sx⟩ := r.whole (by omega)
  have gx := r.at_ _ x hx
  have e := (EndsBy.det (n := max (as.length - 1) n) ⟨gx, by omega, .inr sx⟩ ⟨g, by omega, .inr st⟩).2
  exact ⟨by omega, r.at_⟩
/-- a shared arrival: as many orders are left to both -/
theorem shared_left {os : List Ord} {p1 p2 q1 q2 x : Pt} {n1 n2 i j : Nat} (g1 : Goes os n1 p1 q1) (s1 : step os q1 = none) (g2 : Goes os n2 p2 q2) (s2 : step os q2 = none) (h1 : Goes os i p1 x) (h2 : Goes os j p2 x) (i1 : i ≤ n1) (j2 : j ≤ n2) : q1 = q2 ∧ n1 - i = n2 - j := by
  obtain ⟨a, ra⟩ : ∃ a, n1 = i + a := ⟨n1 - i, by omega⟩
  obtain ⟨b, rb⟩ : ∃ b, n2 = j + b := ⟨n2 - j, by omega⟩
  subst ra rb
  obtain ⟨y, k1, k2⟩ := g1.split
  have e := h1.det k1
  subst e
  obtain ⟨z, m1, m2⟩ := g2.split
  have e := h2.det m1
  subst e
  obtain ⟨e1, e2⟩ := EndsBy.det (n := max a b) ⟨k2, by omega, .inr s1⟩ ⟨m2, by omega, .inr s2⟩
  exact ⟨e1, by omega⟩
/-- the first shared arrival is where they stand together first -/
theorem First.index {os : List Ord} {p1 p2 q r x : Pt} {n1 n2 l i : Nat} {as bs : List Pt} (A : AllOf os p1 n1 as) (B : AllOf os p2 n2 bs) (g1 : Goes os n1 p1 q) (g2 : Goes os n2 p2 q) (st : step os q = Option.none) (f : First os p1 p2 n1 n2 l r) (hx : as[i]? = some x) (hb : x ∈ bs) : n1 - l ≤ i := by
  obtain ⟨j, hj⟩ := List.getElem?_of_mem hb
  have i1 := (List.getElem?_eq_some_iff.mp hx).1
  have j1 := (List.getElem?_eq_some_iff.mp hj).1
  rw [A.1] at i1
  rw [B.1] at j1
  have h1 := A.2 i x hx
  have h2 := B.2 j x hj
  obtain ⟨_, e⟩ := shared_left g1 st g2 st h1 h2 (by omega) (by omega)
  rcases Nat.lt_or_ge i (n1 - l) with lt | ge
  · have l1 := f.le1
    have l2 := f.le2
    -- so many orders later they stand together with l + 1 orders left
    have y1 : ∃ y, Goes os (n1 - (l + 1)) p1 y := by
      have g1' : Goes os (n1 - (l + 1) + (l + 1)) p1 q := by
        rw [show n1 - (l + 1) + (l + 1) = n1 by omega]
        exact g1
      obtain ⟨y, k1, _⟩ := g1'.split
      exact ⟨y, k1⟩
    obtain ⟨y, hy⟩ := y1
    obtain ⟨d, e0⟩ : ∃ d, n1 - (l + 1) = i + d := ⟨n1 - (l + 1) - i, by omega⟩
    have hy' := hy
    rw [e0] at hy'
    obtain ⟨x', k1, k2⟩ := hy'.split
    have ex := h1.det k1
    subst ex
    have hy2 : Goes os (n2 - (l + 1)) p2 y := by
      have e2 : n2 - (l + 1) = j + d := by omega
      rw [e2]
      exact h2.trans k2
    exact absurd ⟨hy, hy2⟩ (f.none (by omega) (by omega) y)
  · exact ge
theorem First.at_ {os : List Ord} {p1 p2 r : Pt} {n1 n2 l : Nat} {as bs : List Pt} (A : AllOf os p1 n1 as) (B : AllOf os p2 n2 bs) (f : First os p1 p2 n1 n2 l r) : as[n1 - l]? = some r ∧ r ∈ bs := by
  have i1 : n1 - l < as.length := by rw [A.1]; omega
  have j1 : n2 - l < bs.length := by rw [B.1]; omega
  have ha : as[n1 - l]? = some as[n1 - l] := List.getElem?_eq_getElem i1
  have hb : bs[n2 - l]? = some bs[n2 - l] := List.getElem?_eq_getElem j1
  have e1 := (A.2 _ _ ha).det f.tog.1
  have e2 := (B.2 _ _ hb).det f.tog.2
  rw [e1] at ha
  rw [e2] at hb
  exact ⟨ha, List.mem_of_getElem? hb⟩
/-- the steps of a letter by order and day: one order's days are two apart at least -/
theorem steps_of {os : List Ord} (ok : OkB os) {n : Nat} {p q : Pt} (g : Goes os n p q) : ∃ L : List (Nat × Int), L.length = n ∧ (∀ x ∈ L, ∃ o, os[x.1]? = some o ∧ o.fst ≤ x.2 ∧ x.2 ≤ o.lst ∧ p.2 ≤ x.2 ∧ (x.2 = p.2 → o.src = p.1)) ∧ L.Pairwise (fun x y => x.1 = y.1 → x.2 + 2 ≤ y.2) := by
  induction g with
  | zero p => exact ⟨[], rfl, fun x h => by simp at h, .nil⟩
  | @succ n p r q st _ ih =>
    obtain ⟨L, h1, h2, h3⟩ := ih
    unfold step at st
    cases f : os.find? fun o => o.holds p.1 p.2 with
    | none => rw [f] at st; cases st
    | some o =>
      rw [f] at st
      have er := Option.some.inj st
      obtain ⟨k, hk⟩ := List.getElem?_of_mem (List.mem_of_find?_eq_some f)
      have hh := List.find?_some f
      simp only [Ord.holds, Bool.and_eq_true, decide_eq_true_eq] at hh
      have mo := List.mem_of_getElem? hk
      have d := okO_day (ok.mem mo)
      have oo := ok.mem mo
      simp only [okO, Bool.and_eq_true, Bool.not_eq_true', decide_eq_false_iff_not] at oo
      have ne : ¬ o.src = o.tgt := oo.1.1.2
      have r1 : r.1 = o.tgt := by rw [← er]
      have r2 : r.2 = p.2 + o.way := by rw [← er]
      refine ⟨(k, p.2) :: L, by rw [List.length_cons, h1], fun x hx => ?_, List.pairwise_cons.mpr ⟨fun y hy e => ?_, h3⟩⟩
      · rcases List.mem_cons.mp hx with rfl | z
        · exact ⟨o, hk, hh.2.1, hh.2.2, Int.le_refl _, fun _ => hh.1⟩
        · obtain ⟨u, hu, u1, u2, u3, u4⟩ := h2 x z
          exact ⟨u, hu, u1, u2, by omega, fun w => by omega⟩
      · obtain ⟨u, hu, u1, u2, u3, u4⟩ := h2 y hy
        dsimp only at e ⊢
        rw [← e, hk] at hu
        cases hu
        rcases Int.lt_or_le r.2 y.2 with lt | le
        · omega
        · have := u4 (by omega)
          exact absurd (this.trans r1) ne
theorem steps_few {os : List Ord} (ok : OkB os) {S : Nat} (span : ∀ o ∈ os, o.lst - o.fst < 2 * S) {n : Nat} {p q : Pt} (g : Goes os n p q) : n ≤ os.length * S := by
  obtain ⟨L, h1, h2, h3⟩ := steps_of ok g
  let key : Nat × Int → Nat × Nat := fun x => (x.1, match os[x.1]? with
    | some o => ((x.2 - o.fst) / 2).toNat
    | none => 0)
  have h := nodup_le (l := L.map key) (m := (List.range os.length).flatMap fun i => (List.range S).map fun j => (i, j)) ?_ fun z hz => ?_
  · rw [List.length_map, h1, List.length_flatMap] at h
    have e : ((List.range os.length).map fun a => ((List.range S).map fun j => (a, j)).length) = List.replicate os.length S := by
      refine List.eq_replicate_iff.mpr ⟨by simp, fun b hb => ?_⟩
      obtain ⟨i, _, rfl⟩ := List.mem_map.mp hb
      simp
    rw [e, List.sum_replicate_nat] at h
    exact h
  · refine List.pairwise_map.mpr (List.Pairwise.imp_of_mem (fun {x y} hx hy w z => ?_) h3)
    obtain ⟨o, ho, o1, o2, _⟩ := h2 x hx
    obtain ⟨u, hu, u1, u2, _⟩ := h2 y hy
    have e1 : x.1 = y.1 := congrArg (fun t : Nat × Nat => t.1) z
    have e2 := congrArg (fun t : Nat × Nat => t.2) z
    have far := w e1
    rw [e1] at ho
    rw [ho] at hu
    cases hu
    have kx : key x = (x.1, ((x.2 - o.fst) / 2).toNat) := by show (x.1, _) = _; rw [e1, ho]
    have ky : key y = (y.1, ((y.2 - o.fst) / 2).toNat) := by show (y.1, _) = _; rw [ho]
    rw [kx, ky] at e2
    dsimp only at e2
    omega
  · obtain ⟨x, hx, rfl⟩ := List.mem_map.mp hz
    obtain ⟨o, ho, o1, o2, _⟩ := h2 x hx
    have sp := span o (List.mem_of_getElem? ho)
    have kx : key x = (x.1, ((x.2 - o.fst) / 2).toNat) := by show (x.1, _) = _; rw [ho]
    rw [kx]
    refine List.mem_flatMap.mpr ⟨x.1, List.mem_range.mpr (List.getElem?_eq_some_iff.mp ho).1, List.mem_map.mpr ⟨_, List.mem_range.mpr ?_, rfl⟩⟩
    omega
theorem First.symm {os : List Ord} {p1 p2 r : Pt} {n1 n2 l : Nat} (f : First os p1 p2 n1 n2 l r) : First os p2 p1 n2 n1 l r := ⟨f.le2, f.le1, ⟨f.tog.2, f.tog.1⟩, fun h1 h2 r' t => f.none h2 h1 r' ⟨t.2, t.1⟩⟩
theorem First.le {os : List Ord} {p1 p2 q r r' : Pt} {n1 n2 l l' : Nat} (g1 : Goes os n1 p1 q) (f : First os p1 p2 n1 n2 l r) (f' : First os p1 p2 n1 n2 l' r') : l' ≤ l := by
  rcases Nat.lt_or_ge l l' with lt | ge
  · exfalso
    have l1 := f'.le1
    have l2 := f'.le2
    have g1' : Goes os (n1 - l' + l') p1 q := by
      rw [show n1 - l' + l' = n1 by omega]
      exact g1
    obtain ⟨x, h1, h2⟩ := g1'.split
    have e := f'.tog.1.det h1
    subst e
    obtain ⟨d, e0⟩ : ∃ d, l' = d + (l + 1) := ⟨l' - (l + 1), by omega⟩
    have h2' := h2
    rw [e0] at h2'
    obtain ⟨y, k1, _⟩ := h2'.split
    refine f.none (by omega) (by omega) y ⟨?_, ?_⟩
    · rw [show n1 - (l + 1) = n1 - l' + d by omega]
      exact f'.tog.1.trans k1
    · rw [show n2 - (l + 1) = n2 - l' + d by omega]
      exact f'.tog.2.trans k1
  · exact ge
theorem First.det {os : List Ord} {p1 p2 q r r' : Pt} {n1 n2 l l' : Nat} (g1 : Goes os n1 p1 q) (f : First os p1 p2 n1 n2 l r) (f' : First os p1 p2 n1 n2 l' r') : l = l' ∧ r = r' := by
  have e : l = l' := by
    have := First.le g1 f f'
    have := First.le g1 f' f
    omega
  subst e
  exact ⟨rfl, f.tog.1.det f'.tog.1⟩
/-- the shared arrivals of two routes -/
theorem shared_first {os : List Ord} {p1 p2 q r : Pt} {n1 n2 l : Nat} {as bs : List Pt} (A : AllOf os p1 n1 as) (B : AllOf os p2 n2 bs) (g1 : Goes os n1 p1 q) (g2 : Goes os n2 p2 q) (st : step os q = Option.none) (f : First os p1 p2 n1 n2 l r) : (as.filter fun x => decide (x ∈ bs))[0]? = some r := by
  obtain ⟨ha, hb⟩ := First.at_ A B f
  have e : (as.filter fun x => decide (x ∈ bs))[0]? = as.find? fun x => decide (x ∈ bs) := by
    rw [← List.head?_eq_getElem?, List.head?_filter]
  rw [e]
  have sp : as = as.take (n1 - l) ++ r :: as.drop (n1 - l + 1) := by
    have h := (List.getElem?_eq_some_iff.mp ha)
    obtain ⟨h1, h2⟩ := h
    rw [← h2, List.getElem_cons_drop, List.take_append_drop]
  rw [sp, List.find?_append, List.find?_eq_none.mpr, Option.none_or, List.find?_cons_of_pos (by simpa using hb)]
  intro x hx
  obtain ⟨i, hi⟩ := List.getElem?_of_mem hx
  rw [List.getElem?_take] at hi
  split at hi
  · rename_i lt
    intro hm
    have := First.index A B g1 g2 st f hi (by simpa using hm)
    omega
  · cases hi
theorem shared_none {os : List Ord} {p1 p2 q1 q2 : Pt} {n1 n2 : Nat} {as bs : List Pt} (A : AllOf os p1 n1 as) (B : AllOf os p2 n2 bs) (g1 : Goes os n1 p1 q1) (g2 : Goes os n2 p2 q2) (s1 : step os q1 = Option.none) (s2 : step os q2 = Option.none) (ne : q1 ≠ q2) : (as.filter fun x => decide (x ∈ bs)) = [] := by
  rw [List.filter_eq_nil_iff]
  intro x hx hm
  obtain ⟨i, hi⟩ := List.getElem?_of_mem hx
  obtain ⟨j, hj⟩ := List.getElem?_of_mem (show x ∈ bs by simpa using hm)
  have i1 := (List.getElem?_eq_some_iff.mp hi).1
  have j1 := (List.getElem?_eq_some_iff.mp hj).1
  rw [A.1] at i1
  rw [B.1] at j1
  exact ne (shared_left g1 s1 g2 s2 (A.2 _ _ hi) (B.2 _ _ hj) (by omega) (by omega)).1
theorem Goes.far {os : List Ord} (ok : OkB os) {n : Nat} {p q : Pt} (g : Goes os n p q) : p.2 + n ≤ q.2 ∧ q.2 ≤ p.2 + 30 * n := by
  induction g with
  | zero p => simp
  | succ h _ ih =>
    have := ok.way h
    omega
end K47
namespace K47
open PySem PySem.Spec PyProof.Rows L2 StX ClX My
/-! ### data: a value of a flat kind, and lists and tuples of such -/
/-- plain data: fit to be compared, at most n deep, and equal only if it is the same -/
structure Flat {α : Type} [DecidableEq α] (f : α → PyData) (P : α → Prop) (n : Nat) : Prop where
  lay : ∀ a, P a → PyData.canLay0 (f a) = true
  deep : ∀ a, P a → PyData.depth (f a) ≤ n
  eqv : ∀ a b, PyData.eqv (f a) (f b) = decide (a = b)
theorem layAll_of {ds : List PyData} (h : ∀ d ∈ ds, PyData.canLay0 d = true) : PyData.canLayAll0 ds = true := by
  induction ds with
  | nil => rfl
  | cons d ds ih =>
    show (PyData.canLay0 d && PyData.canLayAll0 ds) = true
    rw [h d List.mem_cons_self, ih fun x hx => h x (List.mem_cons_of_mem _ hx)]
    rfl
theorem depthAll_of {ds : List PyData} {n : Nat} (h : ∀ d ∈ ds, PyData.depth d ≤ n) : PyData.depthAll ds ≤ n := by
  induction ds with
  | nil => exact Nat.zero_le _
  | cons d ds ih =>
    show max (PyData.depth d) (PyData.depthAll ds) ≤ n
    exact Nat.max_le.mpr ⟨h d List.mem_cons_self, ih fun x hx => h x (List.mem_cons_of_mem _ hx)⟩
theorem eqvAll_of {α : Type} [DecidableEq α] {f : α → PyData} (h : ∀ a b, PyData.eqv (f a) (f b) = decide (a = b)) : ∀ xs ys : List α, PyData.eqvAll (xs.map f) (ys.map f) = decide (xs = ys)
  | [], [] => rfl
  | [], y :: ys => by simp [PyData.eqvAll]
  | x :: xs, [] => by simp [PyData.eqvAll]
  | x :: xs, y :: ys => by
    show (PyData.eqv (f x) (f y) && PyData.eqvAll (xs.map f) (ys.map f)) = _
    rw [h, eqvAll_of h xs ys, ← Bool.decide_and]
    simp
theorem Flat.shaped {α : Type} [DecidableEq α] {f : α → PyData} {P : α → Prop} {n : Nat} (F : Flat f P n) (n64 : n ≤ 64) {a : α} (h : P a) : SeqAt.shaped (f a) = true := by
  unfold SeqAt.shaped
  rw [F.lay a h, Bool.true_and]
  exact decide_eq_true (Nat.le_trans (F.deep a h) n64)
theorem Flat.list {α : Type} [DecidableEq α] {f : α → PyData} {P : α → Prop} {n : Nat} (F : Flat f P n) : Flat (fun xs : List α => PyData.list (xs.map f)) (fun xs => ∀ x ∈ xs, P x) (n + 1) where
  lay xs h := layAll_of fun d hd => by
    obtain ⟨x, hx, rfl⟩ := List.mem_map.mp hd
    exact F.lay x (h x hx)
  deep xs h := by
    have : PyData.depthAll (xs.map f) ≤ n := depthAll_of fun d hd => by
      obtain ⟨x, hx, rfl⟩ := List.mem_map.mp hd
      exact F.deep x (h x hx)
    simp only [PyData.depth]
    omega
  eqv xs ys := eqvAll_of F.eqv xs ys
theorem Flat.tuple {α : Type} [DecidableEq α] {f : α → PyData} {P : α → Prop} {n : Nat} (F : Flat f P n) : Flat (fun xs : List α => PyData.tuple (xs.map f)) (fun xs => ∀ x ∈ xs, P x) (n + 1) where
  lay xs h := layAll_of fun d hd => by
    obtain ⟨x, hx, rfl⟩ := List.mem_map.mp hd
    exact F.lay x (h x hx)
  deep xs h := by
    have : PyData.depthAll (xs.map f) ≤ n := depthAll_of fun d hd => by
      obtain ⟨x, hx, rfl⟩ := List.mem_map.mp hd
      exact F.deep x (h x hx)
    simp only [PyData.depth]
    omega
  eqv xs ys := eqvAll_of F.eqv xs ys
theorem flatInt : Flat PyData.int (fun _ => True) 0 := ⟨fun _ _ => rfl, fun _ _ => Nat.le_refl _, fun a b => rfl⟩
theorem flatStr : Flat PyData.str (fun a => PyData.strOk a = true) 0 := ⟨fun _ h => h, fun _ _ => Nat.le_refl _, fun a b => rfl⟩
theorem flatPt : Flat dPt (fun u => adrB (.str u.1) = true) 1 := by
  refine ⟨fun u h => ?_, fun u h => ?_, dPt_eq⟩
  · simp [dPt, PyData.canLay0, PyData.canLayAll0, str_ok h]
  · simp [dPt, PyData.depth, PyData.depthAll]
def dOrd (o : Ord) : PyData := .tuple [.str o.src, .str o.tgt, .int o.fst, .int o.lst, .int o.way]
theorem flatOrd : Flat dOrd (fun o => okO o = true) 1 := by
  refine ⟨fun o h => ?_, fun o h => ?_, fun a b => ?_⟩
  · simp only [okO, Bool.and_eq_true] at h
    simp [dOrd, PyData.canLay0, PyData.canLayAll0, str_ok h.1.1.1.1, str_ok h.1.1.1.2]
  · simp [dOrd, PyData.depth, PyData.depthAll]
  · obtain ⟨a1, a2, a3, a4, a5⟩ := a
    obtain ⟨b1, b2, b3, b4, b5⟩ := b
    simp only [dOrd, PyData.eqv, PyData.eqvAll, Bool.and_true, Ord.mk.injEq, Bool.decide_and]
    rfl
theorem dpPaired {α : Type} {K : PySem.W.Frag} {H : Hp} {f : α → PyData} {R : Addr → α → Prop} (h : ∀ p a, R p a → Dp K H (.ref p) (f a)) : ∀ {ps : List Addr} {as : List α}, Paired R ps as → DpAll K H (ps.map V.ref) (as.map f)
  | _, _, .nil => .nil
  | _, _, .cons r t => .cons (h _ _ r) (dpPaired h t)
theorem dPts_at {K : PySem.W.Frag} {H : Hp} {ps : List Addr} {as : List Pt} (h : LetsAt H ps as) : DpAll K H (ps.map V.ref) (as.map dPt) := dpPaired (fun _ _ r => dPt_at r) h
theorem dOrd_at {K : PySem.W.Frag} {H : Hp} {p : Addr} {o : Ord} (h : OrdAt H p o) : Dp K H (.ref p) (dOrd o) := .tup (SqT.of h) (.cons (.str _) (.cons (.str _) (.cons (.int _) (.cons (.int _) (.cons (.int _) .nil)))))
theorem dOrds_at {K : PySem.W.Frag} {H : Hp} {ps : List Addr} {os : List Ord} (h : Paired (OrdAt H) ps os) : DpAll K H (ps.map V.ref) (os.map dOrd) := dpPaired (fun _ _ r => dOrd_at r) h
theorem any_flat {α : Type} [DecidableEq α] {f : α → PyData} {P : α → Prop} {n : Nat} (F : Flat f P n) (xs : List α) (a : α) : ((xs.map f).any fun z => PyData.eqv z (f a)) = decide (a ∈ xs) := by
  rw [List.any_map]
  induction xs with
  | nil => simp
  | cons x xs ih =>
    rw [List.any_cons, ih]
    show (PyData.eqv (f x) (f a) || _) = _
    rw [F.eqv, ← Bool.decide_or]
    refine decide_eq_decide.mpr ?_
    rw [List.mem_cons, eq_comm]
theorem any_flat_t {α : Type} [DecidableEq α] {f : α → PyData} {P : α → Prop} {n : Nat} (F : Flat f P n) {xs : List α} {a : α} (h : a ∈ xs) : ((xs.map f).any fun z => PyData.eqv z (f a)) = true := by
  rw [any_flat F]
  exact decide_eq_true h
theorem any_flat_f {α : Type} [DecidableEq α] {f : α → PyData} {P : α → Prop} {n : Nat} (F : Flat f P n) {xs : List α} {a : α} (h : a ∉ xs) : ((xs.map f).any fun z => PyData.eqv z (f a)) = false := by
  rw [any_flat F]
  exact decide_eq_false h
/-- == and != by data -/
theorem eqF_of {α : Type} [DecidableEq α] {f : α → PyData} {P : α → Prop} {n : Nat} (F : Flat f P n) (n64 : n ≤ 64) {K : PySem.W.Frag} {H : Hp} {x y : V} {a b : α} {Q : VK} (hx : Dp K H x (f a)) (hy : Dp K H y (f b)) (pa : P a) (pb : P b) (q : Q (.bl (decide (a = b))) H) : rEqD K x y H Q :=
  ⟨f a, f b, hx, hy, F.shaped n64 pa, F.shaped n64 pb, by rw [F.eqv]; exact q⟩
theorem neF_of {α : Type} [DecidableEq α] {f : α → PyData} {P : α → Prop} {n : Nat} (F : Flat f P n) (n64 : n ≤ 64) {K : PySem.W.Frag} {H : Hp} {x y : V} {a b : α} {Q : VK} (hx : Dp K H x (f a)) (hy : Dp K H y (f b)) (pa : P a) (pb : P b) (q : Q (.bl (!decide (a = b))) H) : rNeD K x y H Q :=
  ⟨f a, f b, hx, hy, F.shaped n64 pa, F.shaped n64 pb, by rw [F.eqv]; exact q⟩
/-- an option told by None -/
def optD {α : Type} (f : α → PyData) : Option α → PyData
  | none => .none
  | some a => f a
theorem Flat.opt {α : Type} [DecidableEq α] {f : α → PyData} {P : α → Prop} {n : Nat} (F : Flat f P n) (no : ∀ a, PyData.eqv .none (f a) = false ∧ PyData.eqv (f a) .none = false) : Flat (optD f) (fun o => ∀ a, o = some a → P a) n where
  lay o h := match o with
    | none => rfl
    | some a => F.lay a (h a rfl)
  deep o h := match o with
    | none => Nat.zero_le _
    | some a => F.deep a (h a rfl)
  eqv o u := match o, u with
    | none, none => rfl
    | none, some b => by
      show PyData.eqv .none (f b) = _
      rw [(no b).1]
      simp
    | some a, none => by
      show PyData.eqv (f a) .none = _
      rw [(no a).2]
      simp
    | some a, some b => by
      show PyData.eqv (f a) (f b) = _
      rw [F.eqv]
      simp
theorem flatPtO : Flat (optD dPt) (fun o => ∀ a, o = some a → adrB (.str a.1) = true) 1 := flatPt.opt fun a => ⟨rfl, rfl⟩
/-- a point, or None -/
def OptAt (H : Hp) (v : V) : Option Pt → Prop
  | none => v = .non
  | some u => ∃ p, v = .ref p ∧ LetAt H p u
theorem OptAt.up {H H' : Hp} {v : V} {o : Option Pt} (s : Same H H') (h : OptAt H v o) : OptAt H' v o := match o with
  | none => h
  | some _ => by
    obtain ⟨p, e, z⟩ := h
    exact ⟨p, e, z.up s⟩
theorem OptAt.dp {K : PySem.W.Frag} {H : Hp} {v : V} {o : Option Pt} (h : OptAt H v o) : Dp K H v (optD dPt o) := match o with
  | none => by
    have h : v = .non := h
    rw [h]
    exact .non
  | some u => by
    obtain ⟨p, rfl, z⟩ := h
    exact dPt_at z
/-! dicts of pairs -/
theorem valV_out {kvs : List (Key × V)} {k : Key} (h : k ∉ kvs.map Prod.fst) : valV kvs k = none := by
  unfold valV
  rw [List.find?_eq_none.mpr fun kv hkv => ?_]
  · rfl
  · intro e
    exact h (List.mem_map.mpr ⟨kv, hkv, by simpa using e⟩)
theorem valV_in {kvs : List (Key × V)} (nd : (kvs.map Prod.fst).Nodup) {kv : Key × V} (h : kv ∈ kvs) : valV kvs kv.1 = some kv.2 := by
  induction kvs with
  | nil => simp at h
  | cons x r ih =>
    rw [List.map_cons, List.nodup_cons] at nd
    rcases List.mem_cons.mp h with rfl | z
    · exact valV_pos rfl
    · rw [valV_neg fun e => nd.1 (e ▸ List.mem_map_of_mem z)]
      exact ih nd.2 z
theorem mergeK_new : ∀ (more acc : List (Key × V)), ((acc ++ more).map Prod.fst).Nodup → mergeK acc more = acc ++ more
  | [], acc, _ => by simp [mergeK]
  | kv :: more, acc, nd => by
    have n : kv.1 ∉ acc.map Prod.fst := by
      rw [List.map_append, List.map_cons, List.nodup_append] at nd
      exact fun h => nd.2.2 kv.1 h kv.1 List.mem_cons_self rfl
    have e : mergeK acc (kv :: more) = mergeK (putK acc kv.1 kv.2) more := rfl
    rw [e, putK_new kv.2 (valV_out n), mergeK_new more]
    · simp
    · simpa using nd
theorem same_len {α : Type} {l m : List α} (hl : l.Nodup) (hm : m.Nodup) (h : ∀ x, x ∈ l ↔ x ∈ m) : l.length = m.length := ((List.perm_ext_iff_of_nodup hl hm).mpr h).length_eq
/-- two dicts of the same keys and values -/
theorem eqDA_of {H : Hp} {a b : Addr} {ks ls : List (Key × V)} {Q : VK} (ha : H a = some (.dK ks)) (hb : H b = some (.dK ls)) (nk : (ks.map Prod.fst).Nodup) (nl : (ls.map Prod.fst).Nodup) (h1 : ∀ kv ∈ ks, kv ∈ ls ∧ flatB kv.2 = true) (h2 : ∀ kv ∈ ls, kv.1 ∈ ks.map Prod.fst) (q : Q (.bl true) H) : rEqDA (.ref a) (.ref b) H Q := by
  refine ⟨a, b, ks, ls, rfl, rfl, ha, hb, ?_, fun p hp => ⟨valV_in nl (h1 p hp).1, (h1 p hp).2⟩, q⟩
  have e := same_len nk nl fun x => ⟨fun hx => ?_, fun hx => ?_⟩
  · simpa using e
  · obtain ⟨kv, hkv, rfl⟩ := List.mem_map.mp hx
    exact List.mem_map_of_mem (h1 kv hkv).1
  · obtain ⟨kv, hkv, rfl⟩ := List.mem_map.mp hx
    exact h2 kv hkv
theorem SameX.NL {r : Addr} {H H' : Hp} {l : List V} (h : H r = some (.lst l)) (s : SameX r H H') : SameN H H' := fun b o hb f => s b o (fun z => by
  rw [z, h] at hb
  cases hb
  exact f) hb
theorem Num.some {P : Int → Prop} {n : Nat} (h : Num P n) (p : 0 < n) : ∃ d, P d := by
  obtain ⟨l, h1, h2, rfl⟩ := h
  obtain ⟨d, hd⟩ := List.exists_mem_of_length_pos p
  exact ⟨d, (h2 d).mp hd⟩
def dNats (ns : List Nat) : PyData := .list (ns.map fun k : Nat => .int (k : Nat))
theorem flatNat : Flat (fun k : Nat => PyData.int (k : Nat)) (fun _ => True) 0 := ⟨fun _ _ => rfl, fun _ _ => Nat.le_refl _, fun a b => by
  show ((a : Int) == (b : Int)) = _
  rw [Bool.eq_iff_iff, beq_iff_eq, decide_eq_true_iff]
  omega⟩
theorem flatNats : Flat dNats (fun _ => True) 1 := ⟨fun a _ => flatNat.list.lay a (fun _ _ => trivial), fun a _ => flatNat.list.deep a (fun _ _ => trivial), fun a b => flatNat.list.eqv a b⟩
theorem dNats_at {K : PySem.W.Frag} {H : Hp} {p : Addr} {ns : List Nat} (h : H p = some (.lst (ns.map fun k : Nat => V.int (k : Nat)))) : Dp K H (.ref p) (dNats ns) := by
  refine .lst (SqL.of h) ?_
  clear h
  induction ns with
  | nil => exact .nil
  | cons n ns ih => exact .cons (.int _) ih
theorem flatNatsO : Flat (optD dNats) (fun _ => True) 1 := by
  have F := flatNats.opt fun a => ⟨rfl, rfl⟩
  exact ⟨fun a _ => F.lay a (fun _ _ => trivial), fun a _ => F.deep a (fun _ _ => trivial), F.eqv⟩
def NsOpt (H : Hp) (v : V) : Option (List Nat) → Prop
  | none => v = .non
  | some ns => ∃ p, v = .ref p ∧ H p = some (.lst (ns.map fun k : Nat => V.int (k : Nat)))
theorem NsOpt.dp {K : PySem.W.Frag} {H : Hp} {v : V} {o : Option (List Nat)} (h : NsOpt H v o) : Dp K H v (optD dNats o) := match o with
  | none => by
    have h : v = .non := h
    rw [h]
    exact .non
  | some u => by
    obtain ⟨p, rfl, z⟩ := h
    exact dNats_at z
theorem NsOpt.up {H H' : Hp} {v : V} {o : Option (List Nat)} (s : Same H H') (h : NsOpt H v o) : NsOpt H' v o := match o with
  | none => h
  | some _ => by
    obtain ⟨p, e, z⟩ := h
    exact ⟨p, e, s _ _ z⟩
def optI : Option Int → V
  | none => .non
  | some d => .int d
theorem neDA_of {H : Hp} {a b : Addr} {ks ls : List (Key × V)} {Q : VK} (ha : H a = some (.dK ks)) (hb : H b = some (.dK ls)) (nk : (ks.map Prod.fst).Nodup) (nl : (ls.map Prod.fst).Nodup) (h1 : ∀ kv ∈ ks, kv ∈ ls ∧ flatB kv.2 = true) (h2 : ∀ kv ∈ ls, kv.1 ∈ ks.map Prod.fst) (q : Q (.bl false) H) : rNeDA (.ref a) (.ref b) H Q := by
  obtain ⟨a', b', ks', ls', e1, e2, h3, h4, h5, h6, _⟩ := eqDA_of (Q := fun _ _ => True) ha hb nk nl h1 h2 trivial
  exact ⟨a', b', ks', ls', e1, e2, h3, h4, h5, h6, q⟩
theorem ints_nat : ∀ {ns : List Int}, (∀ x ∈ ns, 0 ≤ x) → ∃ ms : List Nat, ns = ms.map fun k : Nat => (k : Int)
  | [], _ => ⟨[], rfl⟩
  | n :: ns, h => by
    obtain ⟨ms, e⟩ := ints_nat (ns := ns) fun x hx => h x (List.mem_cons_of_mem _ hx)
    refine ⟨n.toNat :: ms, ?_⟩
    have := h n List.mem_cons_self
    rw [List.map_cons, ← e, show ((n.toNat : Nat) : Int) = n by omega]
theorem asc_nat {ms : List Nat} (h : (ms.map fun k : Nat => (k : Int)).Pairwise (· < ·)) : ms.Pairwise (· < ·) := (List.pairwise_map.mp h).imp fun {a b} z => by omega
theorem neBl_of {H : Hp} {a b : Bool} {Q : VK} (e : a = b) (q : Q (.bl false) H) : rNe (.bl a) (.bl b) H Q := by
  subst e
  refine ⟨rfl, ?_⟩
  rw [decide_eq_true rfl]
  exact q
theorem bool_eq {a b : Bool} {A B : Prop} (ha : a = true ↔ A) (hb : b = true ↔ B) (h : A ↔ B) : a = b := by
  rw [Bool.eq_iff_iff, ha, hb]
  exact h
/-! texts in ascending order -/
theorem rising_all : ∀ (l : List Str) (x : Str), risingS x l = true → (x :: l).Pairwise fun a b => ¬ b.cps.toList < a.cps.toList
  | [], x, _ => List.pairwise_singleton _ _
  | y :: l, x, h => by
    have h2 : (decide (y.cps.toList < x.cps.toList) = false) ∧ risingS y l = true := by
      simp only [risingS, Bool.and_eq_true, Bool.not_eq_true', ltCps_eq] at h
      exact h
    have ih := rising_all l y h2.2
    have n : ¬ y.cps.toList < x.cps.toList := of_decide_eq_false h2.1
    refine List.pairwise_cons.mpr ⟨fun z hz => ?_, ih⟩
    rcases List.mem_cons.mp hz with rfl | hz
    · exact n
    · have n2 := (List.pairwise_cons.mp ih).1 z hz
      exact List.not_lt.mpr (List.le_trans (List.not_lt.mp n) (List.not_lt.mp n2))
theorem sortedS_pw {l : List Str} (h : sortedS l = true) : l.Pairwise fun a b => ¬ b.cps.toList < a.cps.toList := by
  cases l with
  | nil => exact .nil
  | cons x l => exact rising_all l x h
theorem sortedS_eq {l m : List Str} (hl : sortedS l = true) (hm : sortedS m = true) (p : l.Perm m) : l = m := by
  refine p.eq_of_pairwise (fun a b _ _ h1 h2 => ?_) (sortedS_pw hl) (sortedS_pw hm)
  have e := List.le_antisymm (List.not_lt.mp h1) (List.not_lt.mp h2)
  cases a with
  | mk a =>
  cases b with
  | mk b =>
  congr 1
  exact Array.toList_inj.mp e
end K47
namespace K47
open PySem PySem.Spec PyProof.Rows L2 StX ClX My
local macro_rules | `(tactic| walk_at "rd") => `(tactic| try simp only [L2.start, List.map_cons, List.map_nil, List.length_cons, List.length_nil, List.cons_append, List.nil_append, List.reduceReplicate, List.replicate_zero, Nat.reduceAdd, Nat.reduceSub,
  List.getElem?_cons_zero, List.getElem?_cons_succ, List.set_cons_zero, List.set_cons_succ, Option.some.injEq, exists_eq_left', exists_eq_left, exists_eq_right, exists_eq_right', V.int.injEq, V.bl.injEq, V.str.injEq, V.ref.injEq, V.ty.injEq, List.cons.injEq, and_true, true_and, and_assoc,
  exists_and_left, exists_const, tVar, tC, tB, tAnd, tOr, tNot, tAndV, tOrV, tNotV, tIf, tSeq, tNext, iStr, iEnumT, iZip, RZ.iZipA, iRev, iList, iTup, iRng1, iRng2, tLc_eq, tDc_eq, tFor_eq, tYes, wipe, tBreak, tCont, tDrop, tRet, tRetN, tIfS, gName, gNil, gCons, gTup, tAsg, tPar, tOp, tUn, rI, rI0, rU, tTest, tChain, tNil, tCons, tTup, tLst, tCB, tFld_eq, tCVal_eq, tProp_eq, tMeth_eq, tMethR_eq, tCMeth, tMakeSL, tDNotIn, tDGet_eq, tDSetd, tDIn_eq, sDPut_eq, tNever, tMakeR_eq, tCKw_eq, tDNewK, tDNewT, tWhile, gSub_eq, tBM_eq, sFld, tPart, tNoPart, tSl, cx_K, cx_w, tCall, cx_K, tCall,
  Bool.false_eq_true, if_true, if_false, ite_true, ite_false, Bool.not_true, Bool.not_false, reduceIte, decide_eq_true_eq, eq_self_iff_true, reduceCtorEq, false_and, and_false, exists_false])
local macro_rules | `(tactic| walk_at "go") => `(tactic| (repeat (first | refine ixT_of (by assumption) (by rfl) ?_ | refine eqI_of ?_ | refine eqS_of ?_ | refine neI_of ?_); try walk_at "rd"))
/-! ### the law's draws -/
def RowS (H : Hp) (r sc : Addr) : Prop := ∃ i s g : Int, H r = some (.lst [.ref sc, .int i, .int s, .int g]) ∧ 0 ≤ i
theorem SameX.seq {K : PySem.W.Frag} {r a : Addr} {H H' : Hp} {xs : List V} (e : SameX r H H') (n : a ≠ r) (h : SqL K H a xs) : SqL K H' a xs := by
  rcases h with h | h
  · rcases h with h | ⟨o, h⟩
    · exact .inl (.inl (e _ _ n h))
    · exact .inl (.inr ⟨o, e _ _ n h⟩)
  · exact .inr h
theorem RowS.same {r sc : Addr} {H H' : Hp} (e : Same H H') (h : RowS H r sc) : RowS H' r sc := by
  obtain ⟨i, s, g, h1, h3⟩ := h
  exact ⟨i, s, g, e _ _ h1, h3⟩
theorem RowS.at_ {r sc : Addr} {H H' : Hp} (e : H' r = H r) (h : RowS H r sc) : RowS H' r sc := by
  obtain ⟨i, s, g, h1, h3⟩ := h
  exact ⟨i, s, g, by rw [e]; exact h1, h3⟩
/-- the row at r over the script at sc -/
structure Rw (K : PySem.W.Frag) (H : Hp) (r sc : Addr) : Prop where
  row : RowS H r sc
  scr : ∃ ns : List Int, ∀ H', SameX r H H' → SqL K H' sc (ns.map V.int)
theorem Rw.same {K : PySem.W.Frag} {r sc : Addr} {H H' : Hp} (e : Same H H') (h : Rw K H r sc) : Rw K H' r sc := by
  obtain ⟨ns, hs⟩ := h.scr
  exact ⟨h.row.same e, ⟨ns, fun H2 e2 => hs H2 ((SameX.of e).trans e2)⟩⟩
theorem Rw.next {K : PySem.W.Frag} {r sc : Addr} {H H' : Hp} (h : Rw K H r sc) (e : SameX r H H') (row : RowS H' r sc) : Rw K H' r sc := by
  obtain ⟨ns, hs⟩ := h.scr
  exact ⟨row, ⟨ns, fun H2 e2 => hs H2 (e.trans e2)⟩⟩
/-- a fresh row -/
theorem Rw.new {K : PySem.W.Frag} {r sc : Addr} {H : Hp} {ns : List Int} (h : SqL K H sc (ns.map V.int)) (n : H r = Option.none) : Rw K (upd H r (.lst [.ref sc, .int 0, .int 0, .int 0])) r sc := by
  refine ⟨⟨0, 0, 0, upd_same, by decide⟩, ns, fun H2 e2 => ?_⟩
  have go : ∀ o, H sc = some o → H2 sc = some o := fun o h => by
    have ne : sc ≠ r := ne_of_none h n
    exact e2 _ _ ne (by rw [upd_ne ne]; exact h)
  rcases h with h | h
  · rcases h with h | ⟨o, h⟩
    · exact .inl (.inl (go _ h))
    · exact .inl (.inr ⟨o, go _ h⟩)
  · exact .inr h
def sp_taken (K : PySem.W.Frag) : Sp := fun vs H Q _ => ∃ (r sc : Addr) (m : Int), vs = [.ref r, .int m] ∧ Rw K H r sc ∧ 0 < m ∧ m < 18446744073709551616 ∧
  ∀ v H', 0 ≤ v → v < m → SameX r H H' → RowS H' r sc → Q (.int v) H'
theorem ixSL_of {K : PySem.W.Frag} {H : Hp} {p : Addr} {xs : List V} {i : Int} {v : V} {Q : VK} (h : SqL K H p xs) (e : atI xs i = some v) (q : Q v H) : rIxL K (.ref p) (.int i) H Q := ⟨p, xs, i, v, rfl, rfl, h, e, q⟩
/-! ### the dice of the laws with dice -/
theorem Rw.newS {K : PySem.W.Frag} {r sc : Addr} {H : Hp} {ns : List Int} {s : Int} (h : SqL K H sc (ns.map V.int)) (n : H r = Option.none) : Rw K (upd H r (.lst [.ref sc, .int 0, .int s, .int 0])) r sc := by
  refine ⟨⟨0, s, 0, upd_same, by decide⟩, ns, fun H2 e2 => ?_⟩
  have go : ∀ o, H sc = some o → H2 sc = some o := fun o h => by
    have ne : sc ≠ r := ne_of_none h n
    exact e2 _ _ ne (by rw [upd_ne ne]; exact h)
  rcases h with h | h
  · rcases h with h | ⟨o, h⟩
    · exact .inl (.inl (go _ h))
    · exact .inl (.inr ⟨o, go _ h⟩)
  · exact .inr h
theorem SqL.up {K : PySem.W.Frag} {H H' : Hp} {a : Addr} {xs : List V} (e : Same H H') (h : SqL K H a xs) : SqL K H' a xs := by
  rcases h with h | h
  · rcases h with h | ⟨o, h⟩
    · exact .inl (.inl (e _ _ h))
    · exact .inl (.inr ⟨o, e _ _ h⟩)
  · exact .inr h
def sp_dice (K : PySem.W.Frag) : Sp := fun vs H Q _ => ∃ (sc : Addr) (ns : List Int), vs = [.ref sc] ∧ SqL K H sc (ns.map V.int) ∧ ns.length ≤ 63 ∧ ∀ d H', Same H H' → H d = Option.none → Rw K H' d sc → Q (.ref d) H'
def sp_pick (K : PySem.W.Frag) : Sp := fun vs H Q _ => ∃ (r sc l : Addr) (xs : List V), vs = [.ref r, .ref l] ∧ Rw K H r sc ∧ (H l = some (.lst xs)) ∧ l ≠ r ∧ 0 < xs.length ∧ xs.length ≤ 100000 ∧
  ∀ (i : Nat) v H', xs[i]? = some v → SameX r H H' → RowS H' r sc → Q v H'
theorem new_obj {H : Hp} {p : Addr} (o : HO) (h : H p = Option.none) : ∃ H', upd H p o = H' ∧ Same H H' ∧ H' p = some o := ⟨_, rfl, same_new h, upd_same⟩
theorem er_map {α β : Type} (f : α → β) : ∀ (l : List α) (i : Nat), (l.map f).eraseIdx i = (l.eraseIdx i).map f
  | [], _ => rfl
  | _ :: _, 0 => rfl
  | a :: l, i + 1 => by
    rw [List.map_cons, List.eraseIdx_cons_succ, List.eraseIdx_cons_succ, List.map_cons, er_map f l i]
section
variable {P : Program} {w : World} {K : PySem.W.Frag} {mg : Str → Option Value} {base : Heap}
theorem ok_dice (T : Txt K mg) : FnOk P w K mg base (L2.CX P w) 1 T.law_dice.f T.law_dice.fd ["_law_script"] (sp_dice K) := by
  refine T.law_dice.F.okX sc_law_dice (fun vs H Q E h => ?_) (fun cdv A outer s H vs Q E hr h => ?_)
  · obtain ⟨sc, ns, rfl, _⟩ := h
    rfl
  · obtain ⟨sc, ns, rfl, hsc, l63, k⟩ := h
    refine ⟨_, (pss_cons (ps_set (i := 1) sc_law_dice.nd rfl (Or.inl rfl) pe_int)
  (pss_cons (ps_for (passes_of rfl) rfl (pi_list (pv 0)) (pg_name (i := 2) sc_law_dice.nd rfl (Or.inl rfl))
    (pss_one (ps_set (i := 1) sc_law_dice.nd rfl (Or.inl rfl) (pe_op op_mod (pe_callTy call_intI (by rfl) T.n_int (by decide +kernel) (pa_cons (pe_op op_add (pe_op op_add (pe_op op_mul (pv 1) pe_int) (pe_op op_mul (pe_op op_mod (pe_callTy call_intI (by rfl) T.n_int (by decide +kernel) (pa_cons (pv 2) pa_nil)) pe_int) pe_int)) pe_int) pa_nil)) pe_int))))
  (pss_one (ps_ret (pe_lst (pa_cons (pv 0) (pa_cons pe_int (pa_cons (pe_op op_mul (pv 1) (pe_callTy call_intB (by rfl) T.n_int (by decide +kernel) (pa_cons (pe_cmpR op_gt (pe_callB call_len_seq (by rfl) T.n_len (by decide +kernel) (pa_cons (pv 0) pa_nil)) pe_int (nomark _)) pa_nil))) (pa_cons pe_int pa_nil))))))))), ?_⟩
    walk_at "rd"
    refine ⟨⟨_, hsc⟩, ?_⟩
    obtain ⟨W, hW⟩ : ∃ W : Nat → L2.St → Hp → Prop, W = fun _ σ H' => H' = H ∧ ∃ (m : Int) (v2 : Option V), σ = [some (.ref sc), some (.int m), v2] ∧ 0 ≤ m ∧ m < 2147483647 := ⟨_, rfl⟩
    refine for_rel (walk_list (K := K) (a := sc) (xs := ns.map V.int)) W ?_ (fun i σ H' _ hy => ?_) ?_ ?_
    · rw [hW]
      exact ⟨rfl, 0, _, rfl, by decide, by decide⟩
    · rw [hW] at hy
      rw [hy.1]
      exact hsc
    · rintro i x σ H1 H2 hi hy ⟨rfl, ex⟩
      rw [hW] at hy
      obtain ⟨rfl, m, v2, rfl, m0, m1⟩ := hy
      rw [List.length_map] at hi
      obtain ⟨c, rfl⟩ : ∃ c, x = .int c := by
        rw [List.getElem?_map, List.getElem?_eq_getElem hi] at ex
        exact ⟨_, (Option.some.inj ex).symm⟩
      walk_at "rd"
      refine ⟨.inr ⟨by decide, by decide⟩, by decide, .inr ⟨by decide, by decide⟩, by decide, ?_⟩
      rw [hW]
      exact ⟨rfl, _, _, rfl, Int.emod_nonneg _ (by decide), Int.emod_lt_of_pos _ (by decide)⟩
    · rintro σ H1 hy
      rw [hW] at hy
      obtain ⟨rfl, m, v2, rfl, m0, m1⟩ := hy
      walk_at "rd"
      refine ⟨_, .inl hsc, ?_⟩
      rw [List.length_map]
      refine ⟨.inl ⟨by omega, by omega⟩, by decide, fun d hd => ?_⟩
      exact k d _ (same_new hd) hd (Rw.newS hsc hd)
theorem ok_next (T : Txt K mg) : FnOk P w K mg base (L2.CX P w) 1 T.law_next.f T.law_next.fd ["_law_dice_here", "_law_many"] (sp_taken K) := by
  refine T.law_next.F.okX sc_law_next (fun vs H Q E h => ?_) (fun cdv A outer s H vs Q E hr h => ?_)
  · obtain ⟨r, sc, m, rfl, _⟩ := h
    rfl
  · obtain ⟨r, sc, m, rfl, ⟨⟨i, sd, g, hrow, hi⟩, ⟨ns, hsc⟩⟩, m0, m1, k⟩ := h
    refine ⟨_, (pss_cons (ps_if (pt_cmpR op_gt (pe_ix ix_list (pv 0) pe_int (fun _ _ => rfl)) pe_int (nomark _))
    (pss_cons (ps_set (i := 2) sc_law_next.nd rfl (Or.inl rfl) (pe_op op_mod (pe_callTy call_intI (by rfl) T.n_int (by decide +kernel) (pa_cons (pe_ix ix_list (pv 0) pe_int (fun _ _ => rfl)) pa_nil)) (pv 1)))
  (pss_cons (ps_asg (pe_op op_fdivW (pe_ix ix_list (pv 0) pe_int (fun _ _ => rfl)) (pv 1)) (pg_sub (pv 0) pe_int set_list))
  (pss_one (ps_ret (pv 2)))))
    pss_nil)
  (pss_cons (ps_asg (pe_op op_add (pe_ix ix_list (pv 0) pe_int (fun _ _ => rfl)) pe_int) (pg_sub (pv 0) pe_int set_list))
  (pss_cons (ps_if (pt_cmpR op_le (pe_ix ix_list (pv 0) pe_int (fun _ _ => rfl)) (pe_callB call_len_seq (by rfl) T.n_len (by decide +kernel) (pa_cons (pe_ix ix_list (pv 0) pe_int (fun _ _ => rfl)) pa_nil)) (nomark _))
    (pss_cons (ps_set (i := 3) sc_law_next.nd rfl (Or.inl rfl) (pe_ix ix_list (pe_ix ix_list (pv 0) pe_int (fun _ _ => rfl)) (pe_op op_sub (pe_ix ix_list (pv 0) pe_int (fun _ _ => rfl)) pe_int) (fun _ _ => rfl)))
  (pss_cons (ps_asg (pe_ifExp (pt_cmpR op_ge (pv 3) (pe_op op_pow pe_int pe_int) (nomark _)) (pe_op op_fdivW (pv 3) (pv 1)) pe_int) (pg_sub (pv 0) pe_int set_list))
  (pss_one (ps_ret (pe_op op_mod (pe_callTy call_intI (by rfl) T.n_int (by decide +kernel) (pa_cons (pv 3) pa_nil)) (pv 1))))))
    pss_nil)
  (pss_cons (ps_asg (pe_op op_mod (pe_callTy call_intI (by rfl) T.n_int (by decide +kernel) (pa_cons (pe_op op_mul (pe_ix ix_list (pv 0) pe_int (fun _ _ => rfl)) pe_int) pa_nil)) pe_int) (pg_sub (pv 0) pe_int set_list))
  (pss_one (ps_ret (pe_op op_mod (pe_callTy call_intI (by rfl) T.n_int (by decide +kernel) (pa_cons (pe_op op_fdiv (pe_ix ix_list (pv 0) pe_int (fun _ _ => rfl)) pe_int) pa_nil)) (pv 1)))))))), ?_⟩
    have ml : m.natAbs.log2 < 9000 := by
      have h1 : m.natAbs ≠ 0 := by omega
      have h2 : m.natAbs < 2 ^ 64 := by
        have e : (2 : Nat) ^ 64 = 18446744073709551616 := by decide
        omega
      have := (Nat.log2_lt h1).mpr h2
      omega
    walk_at "rd"
    refine ixL_of hrow (by rfl) ?_
    walk_at "rd"
    have md : ∀ x : Int, 0 ≤ x % m ∧ x % m < m := fun x => ⟨Int.emod_nonneg _ (by omega), Int.emod_lt_of_pos _ m0⟩
    have fin : ∀ x H2 i' s' g', H2 = upd H r (.lst [.ref sc, .int i', .int s', .int g']) → 0 ≤ i' → Q (.int (x % m)) H2 := by
      intro x H2 i' s' g' e hi'
      subst e
      exact k _ _ (md x).1 (md x).2 SameX.upd ⟨i', s', g', upd_same, hi'⟩
    by_cases c0 : 0 < g
    · rw [if_pos c0]
      refine ixL_of hrow (by rfl) ?_
      walk_at "rd"
      refine ⟨m0, ixL_of hrow (by rfl) ?_⟩
      walk_at "rd"
      exact ⟨⟨m0, ml⟩, setL_of (j := 3) hrow (by rfl) (fin g _ _ _ _ rfl hi)⟩
    · rw [if_neg c0]
      refine ixL_of hrow (by rfl) ?_
      walk_at "rd"
      refine setL_of (j := 1) hrow (by rfl) ?_
      generalize e1 : upd H r (.lst ([.ref sc, .int i, .int sd, .int g].set 1 (V.int (i + 1)))) = H1
      have at1 : H1 r = some (.lst [.ref sc, .int (i + 1), .int sd, .int g]) := by rw [← e1]; exact upd_same
      have sc1 : SqL K H1 sc (ns.map V.int) := by rw [← e1]; exact hsc _ SameX.upd
      have up1 : ∀ l, upd H1 r (.lst l) = upd H r (.lst l) := fun l => by rw [← e1]; exact upd_upd
      refine ixL_of at1 (by rfl) (ixL_of at1 (by rfl) ?_)
      walk_at "rd"
      refine ⟨_, .inl sc1, ?_⟩
      rw [List.length_map]
      by_cases c1 : i + 1 ≤ (ns.length : Int)
      · rw [if_pos c1]
        refine ixL_of at1 (by rfl) (ixL_of at1 (by rfl) ?_)
        walk_at "rd"
        obtain ⟨j, ej⟩ : ∃ j : Nat, i = (j : Int) := ⟨i.toNat, by omega⟩
        have lt : j < ns.length := by omega
        refine ixSL_of (v := V.int ns[j]) sc1 (at_of (j := j) (by omega) (by rw [List.getElem?_map, List.getElem?_eq_getElem lt]; rfl)) ?_
        refine ⟨⟨by decide, by decide, by decide⟩, _, rfl, ?_⟩
        split
        · refine ⟨_, rfl, ⟨m0, ml⟩, setL_of (j := 3) at1 (by rfl) ⟨_, rfl, m0, ?_⟩⟩
          rw [up1]
          exact fin _ _ _ _ _ rfl (by omega)
        · refine setL_of (j := 3) at1 (by rfl) ⟨_, rfl, m0, ?_⟩
          rw [up1]
          exact fin _ _ _ _ _ rfl (by omega)
      · rw [if_neg c1]
        refine ixL_of at1 (by rfl) ?_
        walk_at "rd"
        refine ⟨.inr ⟨by decide, by decide⟩, by decide, setL_of (j := 2) at1 (by rfl) ?_⟩
        refine ixL_of upd_same (by rfl) ?_
        walk_at "rd"
        refine ⟨⟨by decide, by decide⟩, m0, ?_⟩
        rw [up1]
        exact fin _ _ _ _ _ rfl (by omega)
theorem ok_pick (T : Txt K mg) : FnOk P w K mg base (L2.CX P w) 2 T.law_pick.f T.law_pick.fd ["_law_d", "_law_some"] (sp_pick K) := by
  have G_law_next := ok_next (P := P) (w := w) (base := base) T
  refine T.law_pick.F.okX sc_law_pick (fun vs H Q E h => ?_) (fun cdv A outer s H vs Q E hr h => ?_)
  · obtain ⟨r, sc, l, xs, rfl, _⟩ := h
    rfl
  · obtain ⟨r, sc, l, xs, rfl, rw0, hl, ne, x0, xm, k⟩ := h
    refine ⟨_, (pss_one (ps_ret (pe_ix ix_list (pv 1) (pe_call G_law_next (hr.mono (by first | decide | omega)) rfl T.law_next.mg T.law_next.F.kp T.law_next.b .nil passF (pa_cons (pv 0) (pa_cons (pe_callB call_len_seq (by rfl) T.n_len (by decide +kernel) (pa_cons (pv 1) pa_nil)) pa_nil))) (fun _ _ => rfl)))), ?_⟩
    walk_at "rd"
    refine ⟨_, .inl (SqL.of hl), ?_⟩
    refine ⟨r, sc, _, rfl, rw0, by omega, by omega, fun v H' v0 v1 x1 row1 => ?_⟩
    obtain ⟨i, rfl⟩ : ∃ i : Nat, v = (i : Nat) := ⟨v.toNat, by omega⟩
    obtain ⟨y, hy⟩ : ∃ y, xs[i]? = some y := ⟨_, List.getElem?_eq_getElem (by omega)⟩
    exact ixL_of (x1 _ _ ne hl) (at_of (j := i) rfl hy) (k i y H' hy x1 row1)
end
end K47
namespace K47
open PySem PySem.Spec PyProof.Rows L2 StX ClX My
local macro_rules | `(tactic| walk_at "rd") => `(tactic| try simp only [L2.start, List.map_cons, List.map_nil, List.length_cons, List.length_nil, List.cons_append, List.nil_append, List.reduceReplicate, List.replicate_zero, Nat.reduceAdd, Nat.reduceSub,
  List.getElem?_cons_zero, List.getElem?_cons_succ, List.set_cons_zero, List.set_cons_succ, Option.some.injEq, exists_eq_left', exists_eq_left, exists_eq_right, exists_eq_right', V.int.injEq, V.bl.injEq, V.str.injEq, V.ref.injEq, V.ty.injEq, List.cons.injEq, and_true, true_and, and_assoc,
  exists_and_left, exists_const, tVar, tC, tB, tAnd, tOr, tNot, tAndV, tOrV, tNotV, tIf, tSeq, tNext, iStr, iEnumT, iZip, RZ.iZipA, iRev, iList, iTup, iRng1, iRng2, tLc_eq, tDc_eq, tFor_eq, tYes, wipe, tBreak, tCont, tDrop, tRet, tRetN, tIfS, gName, gNil, gCons, gTup, tAsg, tPar, tOp, tUn, rI, rI0, rU, tTest, tChain, tNil, tCons, tTup, tLst, tCB, tFld_eq, tCVal_eq, tProp_eq, tMeth_eq, tMethR_eq, tCMeth, tMakeSL, tDNotIn, tDGet_eq, tDSetd, tDIn_eq, sDPut_eq, tNever, tMakeR_eq, tCKw_eq, tDNewK, tDNewT, tWhile, gSub_eq, tBM_eq, sFld, tPart, tNoPart, tSl, cx_K, cx_w, tCall, cx_K, tCall,
  Bool.false_eq_true, if_true, if_false, ite_true, ite_false, Bool.not_true, Bool.not_false, reduceIte, decide_eq_true_eq, eq_self_iff_true, reduceCtorEq, false_and, and_false, exists_false])
local macro_rules | `(tactic| walk_at "go") => `(tactic| (repeat (first | refine ixT_of (by assumption) (by rfl) ?_ | refine eqI_of ?_ | refine eqS_of ?_ | refine neI_of ?_); try walk_at "rd"))
/-! ### the law's drawn orders -/
theorem share_symm {a b : Ord} (h : share a b = false) : share b a = false := by
  rw [← h]
  unfold share
  rw [Bool.and_comm (decide (b.fst ≤ a.lst)), show decide (b.src = a.src) = decide (a.src = b.src) from by simp [eq_comm]]
theorem OkB.pair {os : List Ord} (h : OkB os) : os.Pairwise fun a b => share a b = false := by
  rw [List.pairwise_iff_getElem]
  intro i j hi hj lt
  have z := List.any_eq_false.mp (h.apart j os[j] (List.getElem?_eq_getElem hj)) os[i] (by
    refine List.mem_of_getElem? (i := i) ?_
    rw [List.getElem?_take, if_pos lt]
    exact List.getElem?_eq_getElem hi)
  exact share_symm (by simpa using z)
theorem OkB.mk' {os : List Ord} (l : os.length ≤ 30) (e : ∀ o ∈ os, okO o = true) (p : os.Pairwise fun a b => share a b = false) : OkB os := by
  refine ⟨l, fun i o h => e o (List.mem_of_getElem? h), fun i o h => ?_⟩
  rw [List.any_eq_false]
  intro x hx
  obtain ⟨j, hj⟩ := List.getElem?_of_mem hx
  rw [List.getElem?_take] at hj
  split at hj
  · rename_i lt
    obtain ⟨hi, rfl⟩ := List.getElem?_eq_some_iff.mp h
    obtain ⟨hj2, rfl⟩ := List.getElem?_eq_some_iff.mp hj
    have z := List.pairwise_iff_getElem.mp p j i hj2 hi lt
    simp [share_symm z]
  · cases hj
theorem OkB.perm {os us : List Ord} (h : OkB os) (p : os.Perm us) : OkB us :=
  .mk' (by rw [← p.length_eq]; exact h.len) (fun o ho => h.mem (p.mem_iff.mpr ho)) ((p.pairwise_iff (fun z => share_symm z)).mp h.pair)
theorem OkB.snoc {os : List Ord} {o : Ord} (h : OkB os) (l : os.length < 30) (e : okO o = true) (a : ∀ u ∈ os, share u o = false) : OkB (os ++ [o]) := by
  refine .mk' (by simp; omega) (fun u hu => ?_) ?_
  · rcases List.mem_append.mp hu with z | z
    · exact h.mem z
    · rw [List.mem_singleton.mp z]
      exact e
  · rw [List.pairwise_append]
    exact ⟨h.pair, List.pairwise_singleton _ _, fun u hu v hv => by rw [List.mem_singleton.mp hv]; exact a u hu⟩
def nm (k : Nat) : Str := ⟨#[97 + k]⟩
theorem nm_inj {i j : Nat} (h : nm i = nm j) : i = j := by
  unfold nm at h
  injection h with h
  have h2 := congrArg Array.toList h
  simp at h2
  exact h2
theorem putK_le {κ : Type} [DecidableEq κ] (kvs : List (κ × V)) (k : κ) (v : V) : (putK kvs k v).length ≤ kvs.length + 1 := by
  unfold putK
  split <;> simp
theorem nm_adr {k : Nat} (h : k < 26) : adrB (.str (nm k)) = true := by
  have e : (nm k).length = 1 := rfl
  have e2 : (nm k).cps.toList = [97 + k] := rfl
  simp only [adrB, Bool.and_eq_true, decide_eq_true_eq, List.all_eq_true, e, e2, List.mem_singleton]
  refine ⟨by decide, fun c hc => ?_⟩
  subst hc
  simp only [low, Bool.and_eq_true, decide_eq_true_eq]
  omega
/-- the orders drawn so far, and the days from which a source is free -/
structure Drawn (os : List Ord) (kvs : List (Key × V)) (i : Nat) (B : Int) (P : Ord → Prop) : Prop where
  ok : OkB os
  len : os.length ≤ i
  kl : kvs.length ≤ i
  free : ∀ z : Str, ∃ b : Int, ((valV kvs (Sum.inr z)).getD (.int 0)) = .int b ∧ 0 ≤ b ∧ b ≤ i * B ∧ ∀ o ∈ os, o.src = z → o.lst < b
  nms : ∀ o ∈ os, ∃ j k, j < 6 ∧ k < 6 ∧ o.src = nm j ∧ o.tgt = nm k
  days : ∀ o ∈ os, o.lst < i * B
  each : ∀ o ∈ os, P o
theorem Drawn.more {os : List Ord} {kvs : List (Key × V)} {i : Nat} {B : Int} {P : Ord → Prop} {j k : Nat} {b f l w : Int} (d : Drawn os kvs i B P) (hi : i < 30) (hB : 0 ≤ B) (hd : ((i + 1 : Nat) : Int) * B ≤ dayM) (hj : j < 6) (hk : k < 6) (ne : j ≠ k) (hb : ((valV kvs (Sum.inr (nm j))).getD (.int 0)) = .int b) (hf : b ≤ f)
    (hl : f ≤ l) (hlb : l + 1 ≤ b + B) (hw : 1 ≤ w ∧ w ≤ 30) (hp : P ⟨nm j, nm k, f, l, w⟩) : Drawn (os ++ [⟨nm j, nm k, f, l, w⟩]) (putK kvs (Sum.inr (nm j)) (.int (l + 1))) (i + 1) B P := by
  have e1 : ((i + 1 : Nat) : Int) * B = i * B + B := by rw [Int.natCast_succ, Int.add_mul, Int.one_mul]
  obtain ⟨b', hb', b0, bB, bo⟩ := d.free (nm j)
  rw [hb] at hb'
  cases hb'
  have dm : dayM = 1000000000000000000 := by decide
  have okn : okO ⟨nm j, nm k, f, l, w⟩ = true := by
    have a1 := nm_adr (k := j) (by omega)
    have a2 := nm_adr (k := k) (by omega)
    have n2 : ¬ nm j = nm k := fun z => ne (nm_inj z)
    simp only [okO, numB, Bool.and_eq_true, Bool.not_eq_true', decide_eq_true_eq, decide_eq_false_iff_not]
    exact ⟨⟨⟨⟨a1, a2⟩, n2⟩, ⟨⟨by omega, by omega⟩, by omega, by omega⟩, by omega⟩, by omega, by omega⟩
  refine ⟨d.ok.snoc (by have := d.len; omega) okn fun u hu => ?_, ?_, ?_, fun z => ?_, fun o ho => ?_, fun o ho => ?_, fun o ho => ?_⟩
  · unfold share
    dsimp only
    by_cases c : u.src = nm j
    · have := bo u hu c
      rw [show decide (f ≤ u.lst) = false from decide_eq_false (by omega)]
      simp
    · simp [c]
  · rw [List.length_append]
    have := d.len
    simp
    omega
  · have := putK_le kvs (Sum.inr (nm j)) (.int (l + 1))
    have := d.kl
    omega
  · rw [valV_put]
    by_cases c : z = nm j
    · subst c
      rw [if_pos rfl]
      refine ⟨l + 1, rfl, by omega, by omega, fun o ho e => ?_⟩
      rcases List.mem_append.mp ho with q | q
      · have := bo o q e
        omega
      · rw [List.mem_singleton.mp q]
        show l < l + 1
        omega
    · rw [if_neg (fun q => c (Sum.inr.inj q))]
      obtain ⟨b2, h1, h2, h3, h4⟩ := d.free z
      refine ⟨b2, h1, h2, by omega, fun o ho e => ?_⟩
      rcases List.mem_append.mp ho with q | q
      · exact h4 o q e
      · rw [List.mem_singleton.mp q] at e
        exact absurd e.symm c
  · rcases List.mem_append.mp ho with q | q
    · exact d.nms o q
    · rw [List.mem_singleton.mp q]
      exact ⟨j, k, hj, hk, rfl, rfl⟩
  · rcases List.mem_append.mp ho with q | q
    · have := d.days o q
      omega
    · rw [List.mem_singleton.mp q]
      show l < _
      omega
  · rcases List.mem_append.mp ho with q | q
    · exact d.each o q
    · rw [List.mem_singleton.mp q]
      exact hp
theorem Drawn.skip {os : List Ord} {kvs : List (Key × V)} {i : Nat} {B : Int} {P : Ord → Prop} (d : Drawn os kvs i B P) {j : Nat} (hB : 0 ≤ B) (le : i ≤ j) : Drawn os kvs j B P := by
  have t : (i : Int) * B ≤ j * B := Int.mul_le_mul_of_nonneg_right (by omega) hB
  refine ⟨d.ok, Nat.le_trans d.len le, Nat.le_trans d.kl le, fun z => ?_, d.nms, fun o ho => ?_, d.each⟩
  · obtain ⟨b, h1, h2, h3, h4⟩ := d.free z
    exact ⟨b, h1, h2, by omega, h4⟩
  · have := d.days o ho
    omega
theorem SameX.N {r a : Addr} {H H' : Hp} (row : RowS H r a) (s : SameX r H H') : SameN H H' := fun b o h f => s b o (fun z => by
  obtain ⟨i, t, g, h2, _⟩ := row
  rw [z, h2] at h
  cases h
  exact f) h
theorem names_cut {n : Nat} (hn : n < 5) : cutS (Str.ofString "abcdef") Option.none (some (2 + (n : Int))) = ⟨((List.range (n + 2)).map fun i => 97 + i).toArray⟩ := by
  have : n = 0 ∨ n = 1 ∨ n = 2 ∨ n = 3 ∨ n = 4 := by omega
  rcases this with rfl | rfl | rfl | rfl | rfl <;> rfl
theorem names_of {n : Nat} (hn : n < 5) {k : Nat} (hk : k < n + 2) {H : Hp} {Q : VK} (q : Q (.str (nm k)) H) : rIxS (.str (cutS (Str.ofString "abcdef") Option.none (some (2 + (n : Int))))) (.int (k : Nat)) H Q := by
  rw [names_cut hn]
  refine ⟨_, _, 97 + k, rfl, rfl, ?_, atI_nat ?_, q⟩
  · show ((List.range (n + 2)).map fun i => 97 + i).toArray.size ≤ sizeLine
    rw [List.size_toArray, List.length_map, List.length_range]
    exact Nat.le_trans (show n + 2 ≤ 100 by omega) (by decide)
  · show (((List.range (n + 2)).map fun i => 97 + i).toArray).toList[k]? = _
    rw [List.toList_toArray, List.getElem?_map, List.getElem?_range hk]
    rfl
theorem names_len {n : Nat} (hn : n < 5) : (cutS (Str.ofString "abcdef") Option.none (some (2 + (n : Int)))).length = n + 2 := by
  rw [names_cut hn]
  show ((List.range (n + 2)).map fun i => 97 + i).toArray.size = _
  rw [List.size_toArray, List.length_map, List.length_range]
def sp_drawn (K : PySem.W.Frag) : Sp := fun vs H Q _ => ∃ (r sc : Addr) (most long : Int), vs = [.ref r, .int most, .int long] ∧ Rw K H r sc ∧ 0 ≤ most ∧ most ≤ 29 ∧ 0 < long ∧ long ≤ 1000000 ∧
  ∀ p os H', SameX r H H' → RowS H' r sc → LstAt H' p os → OkB os → (os.length : Int) ≤ most → (∀ o ∈ os, ∃ j k, j < 6 ∧ k < 6 ∧ o.src = nm j ∧ o.tgt = nm k) → (∀ o ∈ os, o.lst < most * (14 + max 12 long)) → (∀ o ∈ os, o.lst - o.fst < max 12 long ∧ o.way ≤ 14) → Q (.ref p) H'
theorem ne_of_none' {H : Hp} {p a D : Addr} (r : RowS H p a) (h : H D = Option.none) : D ≠ p := fun z => by
  obtain ⟨i, t, g, h2, _⟩ := r
  rw [z, h2] at h
  cases h
theorem pick_of {K : PySem.W.Frag} {H : Hp} {r sc p : Addr} {a b c : Int} {Q : VK} (rw0 : Rw K H r sc) (hp : H p = Option.none) (ha : 0 < a ∧ a < 18446744073709551616) (hb : 0 < b ∧ b < 18446744073709551616) (hc : 0 < c ∧ c < 18446744073709551616)
    (k : ∀ v m H', (m = a ∨ m = b ∨ m = c) → 0 ≤ v → v < m → SameX r H H' → RowS H' r sc → Q (.int v) H') :
    sp_taken K [V.ref r, V.int 3] (upd H p (.lst [.int a, .int b, .int c])) (fun y H2 => rIxL K (.ref p) y H2 fun x H1 => sp_taken K [V.ref r, x] H1 Q eF) eF := by
  have s := same_new (o := .lst [.int a, .int b, .int c]) hp
  have atp : (upd H p (.lst [.int a, .int b, .int c])) p = some (.lst [.int a, .int b, .int c]) := upd_same
  have np := ne_of_none' rw0.row hp
  generalize upd H p (.lst [.int a, .int b, .int c]) = H1 at s atp
  refine ⟨r, sc, 3, rfl, rw0.same s, by decide, by decide, fun t H2 t0 t3 x row => ?_⟩
  have at2 := x _ _ np atp
  have x2 : SameX r H H2 := (SameX.of s).trans x
  have rw2 := (rw0.same s).next x row
  have : t = 0 ∨ t = 1 ∨ t = 2 := by omega
  rcases this with rfl | rfl | rfl
  · exact ixL_of at2 (by rfl) ⟨r, sc, a, rfl, rw2, ha.1, ha.2, fun v H3 v0 v1 x3 row3 => k v a H3 (.inl rfl) v0 v1 (x2.trans x3) row3⟩
  · exact ixL_of at2 (by rfl) ⟨r, sc, b, rfl, rw2, hb.1, hb.2, fun v H3 v0 v1 x3 row3 => k v b H3 (.inr (.inl rfl)) v0 v1 (x2.trans x3) row3⟩
  · exact ixL_of at2 (by rfl) ⟨r, sc, c, rfl, rw2, hc.1, hc.2, fun v H3 v0 v1 x3 row3 => k v c H3 (.inr (.inr rfl)) v0 v1 (x2.trans x3) row3⟩
theorem Paired.dp {α β : Type} {F : α → β → Prop} : ∀ {l : List α} {m : List β} (n : Nat), Paired F l m → Paired F (l.drop n) (m.drop n)
  | _, _, 0, h => h
  | _, _, _ + 1, .nil => .nil
  | _, _, n + 1, .cons _ t => Paired.dp n t
theorem names6 {k : Nat} (hk : k < 6) {H : Hp} {Q : VK} (q : Q (.str (nm k)) H) : rIxS (.str (Str.ofString "abcdef")) (.int (k : Nat)) H Q := by
  refine ⟨_, _, 97 + k, rfl, rfl, by decide, atI_nat ?_, q⟩
  have : k = 0 ∨ k = 1 ∨ k = 2 ∨ k = 3 ∨ k = 4 ∨ k = 5 := by omega
  rcases this with rfl | rfl | rfl | rfl | rfl | rfl <;> rfl
theorem drawn_ne {H : Hp} {r sc l : Addr} {ps : List Addr} (row : RowS H r sc) (h : H l = some (.lst (ps.map V.ref))) : l ≠ r := fun z => by
  obtain ⟨i, t, g, h2, _⟩ := row
  rw [z, h2] at h
  injection h with h
  injection h with h
  cases ps with
  | nil => simp at h
  | cons a ps =>
    cases ps with
    | nil => simp at h
    | cons b ps => simp at h
theorem LstAt.upX {H H' : Hp} {r sc l : Addr} {os : List Ord} (row : RowS H r sc) (x : SameX r H H') (h : LstAt H l os) : LstAt H' l os := by
  obtain ⟨ps, h1, h2⟩ := h
  exact ⟨ps, x _ _ (drawn_ne row h1) h1, ordsUp (SameX.N row x) h2⟩
end K47
namespace K47
open PySem PySem.Spec PyProof.Rows L2 StX ClX My
local macro_rules | `(tactic| walk_at "rd") => `(tactic| try simp only [L2.start, List.map_cons, List.map_nil, List.length_cons, List.length_nil, List.cons_append, List.nil_append, List.reduceReplicate, List.replicate_zero, Nat.reduceAdd, Nat.reduceSub,
  List.getElem?_cons_zero, List.getElem?_cons_succ, List.set_cons_zero, List.set_cons_succ, Option.some.injEq, exists_eq_left', exists_eq_left, exists_eq_right, exists_eq_right', V.int.injEq, V.bl.injEq, V.str.injEq, V.ref.injEq, V.ty.injEq, List.cons.injEq, and_true, true_and, and_assoc,
  exists_and_left, exists_const, tVar, tC, tB, tAnd, tOr, tNot, tAndV, tOrV, tNotV, tIf, tSeq, tNext, iStr, iEnumT, iZip, RZ.iZipA, iRev, iList, iTup, iRng1, iRng2, tLc_eq, tDc_eq, tFor_eq, tYes, wipe, tBreak, tCont, tDrop, tRet, tRetN, tIfS, gName, gNil, gCons, gTup, tAsg, tPar, tOp, tUn, rI, rI0, rU, tTest, tChain, tNil, tCons, tTup, tLst, tCB, tFld_eq, tCVal_eq, tProp_eq, tMeth_eq, tMethR_eq, tCMeth, tMakeSL, tDNotIn, tDGet_eq, tDSetd, tDIn_eq, sDPut_eq, tNever, tMakeR_eq, tCKw_eq, tDNewK, tDNewT, tWhile, gSub_eq, tBM_eq, sFld, tPart, tNoPart, tSl, cx_K, cx_w, tCall, cx_K, tCall,
  Bool.false_eq_true, if_true, if_false, ite_true, ite_false, Bool.not_true, Bool.not_false, reduceIte, decide_eq_true_eq, eq_self_iff_true, reduceCtorEq, false_and, and_false, exists_false])
local macro_rules | `(tactic| walk_at "go") => `(tactic| (repeat (first | refine ixT_of (by assumption) (by rfl) ?_ | refine eqI_of ?_ | refine eqS_of ?_ | refine neI_of ?_); try walk_at "rd"))
local macro_rules | `(tactic| walk_at "r2") => `(tactic| ((walk_at "rd"); (try simp only [tPar3, tDGet2]); (walk_at "rd")))

local macro_rules | `(tactic| walk_at "rl") => `(tactic| ((walk_at "r2"); (try simp only [tLstRg, tRg1, tRg2]); (walk_at "r2")))
/-! ### drawn orders of the laws with dice -/
def nmD4 : List Str := [Str.ofString "a", Str.ofString "b", Str.ofString "c", Str.ofString "dd"]
structure DOrd (m : Int) (o : Ord) : Prop where
  src : o.src ∈ nmD4
  tgt : o.tgt ∈ nmD4
  ne : o.src ≠ o.tgt
  f0 : 0 ≤ o.fst
  fm : o.fst < m
  le : o.fst ≤ o.lst
  lm : o.lst < o.fst + m
  w1 : 1 ≤ o.way
  w5 : o.way ≤ 5
def sp_fits : Sp := fun vs H Q _ => ∃ (l p : Addr) (os : List Ord) (o : Ord), vs = [.ref l, .ref p] ∧ LstAt H l os ∧ os.length ≤ 1000 ∧ OrdAt H p o ∧ ∀ H', Same H H' → Q (.bl (!os.any (share o))) H'
def sp_rorder (K : PySem.W.Frag) : Sp := fun vs H Q _ => ∃ (r sc : Addr) (m : Int), vs = [.ref r, .int m] ∧ Rw K H r sc ∧ 0 < m ∧ m < 18446744073709551616 ∧ ∀ p o H', SameX r H H' → RowS H' r sc → OrdAt H' p o → DOrd m o → Q (.ref p) H'
theorem pick_names : ∀ (i : Fin 4) (j : Fin 3), ((nmD4.eraseIdx i.val)[j.val]?.elim false fun y => decide (y ∈ nmD4) && decide (nmD4[i.val]? ≠ some y)) = true := by decide +kernel
theorem pop_of {H : Hp} {l : Addr} {xs : List V} {k : Nat} {y : V} {Q : VK} (h : H l = some (.lst xs)) (e : xs[k]? = some y) (b : k < 1000) (q : Q y (upd H l (.lst (xs.eraseIdx k)))) : rPopAt (.ref l) [.int (k : Nat)] H Q := by
  have hk := (List.getElem?_eq_some_iff.mp e).1
  exact ⟨l, xs, k, k, y, rfl, rfl, h, by omega, by omega, (ixN_seq (by unfold ixN; rw [if_pos (by omega), if_pos (by omega)]; rfl)).1, e, q⟩
section
variable {P : Program} {w : World} {K : PySem.W.Frag} {mg : Str → Option Value} {base : Heap}
theorem ok_fits (T : Txt K mg) : FnOk P w K mg base (L2.CX P w) 1 T.law_fits.f T.law_fits.fd ["_law_orders_here", "_law_order_here"] sp_fits := by
  refine T.law_fits.F.okX sc_law_fits (fun vs H Q E h => ?_) (fun cdv A outer s H vs Q E hr h => ?_)
  · obtain ⟨l, p, os, o, rfl, _⟩ := h
    rfl
  · obtain ⟨l, p, os, o, rfl, hl, l1000, ho, k⟩ := h
    refine ⟨_, (pss_one (ps_ret (pe_cmpR (op_eqD hr.units) (pe_lc (own := [("_law_one", 2)]) rfl sc_law_fits.nd (pi_list (pv 0)) (blkOk_by (sc := defScope s_law_fits) (N := ["_law_orders_here", "_law_order_here", "_law_one"]) (own := [("_law_one", 2)]) (by decide +kernel)) (fun _ _ _ _ _ => pg_name (i := 2) sc_law_fits.nd rfl (Or.inl rfl)) (fun _ _ _ _ _ => pts_one (PW.pt (pw_and (pt_cmpR op_eq (pe_ix (ix_tupK (K := K)) (pv 2) pe_int (fun _ _ => rfl)) (pe_ix (ix_tupK (K := K)) (pv 1) pe_int (fun _ _ => rfl)) (nomark _)) (pw_and (pt_cmpR op_le (pe_ix (ix_tupK (K := K)) (pv 2) pe_int (fun _ _ => rfl)) (pe_ix (ix_tupK (K := K)) (pv 1) pe_int (fun _ _ => rfl)) (nomark _)) (pw_and1 (pt_cmpR op_le (pe_ix (ix_tupK (K := K)) (pv 1) pe_int (fun _ _ => rfl)) (pe_ix (ix_tupK (K := K)) (pv 2) pe_int (fun _ _ => rfl)) (nomark _))))))) (fun _ _ _ _ _ => pe_int)) (pe_lst pa_nil) (nomark _)))), ?_⟩
    walk_at "rd"
    obtain ⟨ps, hps, hos⟩ := id hl
    have len : ps.length = os.length := Paired.length hos
    refine ⟨⟨_, SqL.of hps⟩, fun D hD => ?_⟩
    refine comp_val (walk_list (K := K) (a := l) (xs := ps.map V.ref)) (fun i => os[i]?.bind fun u => if share o u = true then some (V.int 1) else none) (by rw [List.length_map, len]; omega) hD (fun H' s' => SqL.of (s' _ _ hps)) ?_ ?_
    · rintro i x H2 H3 hi s2 ⟨rfl, ex⟩ no yes hn hy
      rw [List.length_map] at hi
      obtain ⟨q, hq⟩ : ∃ q, ps[i]? = some q := ⟨_, List.getElem?_eq_getElem hi⟩
      obtain ⟨u, hu, hqu⟩ := Paired.at hos hq
      rw [List.getElem?_map, hq] at ex
      cases ex
      have hqu := s2 _ _ hqu
      have ho := s2 _ _ ho
      walk_at "rd"
      have fy : share o u = true → yes (V.int 1) H3 := fun e => hy _ (by rw [hu]; show (if share o u = true then _ else _) = _; rw [if_pos e]) _ (Same.refl _)
      have fn : share o u = false → no H3 := fun e => hn (by rw [hu]; show (if share o u = true then _ else _) = _; rw [if_neg (by rw [e]; decide)]) _ (Same.refl _)
      refine ixT_of hqu (by rfl) (ixT_of ho (by rfl) (eqS_of ⟨_, rfl, ?_⟩))
      by_cases c1 : u.src = o.src
      · rw [if_pos (decide_eq_true c1)]
        refine ixT_of hqu (by rfl) (ixT_of ho (by rfl) ?_)
        walk_at "rd"
        by_cases c2 : u.fst ≤ o.lst
        · rw [if_pos c2]
          refine ixT_of ho (by rfl) (ixT_of hqu (by rfl) ⟨_, rfl, _, rfl, ?_⟩)
          by_cases c3 : o.fst ≤ u.lst
          · rw [if_pos c3]
            refine fy ?_
            unfold share
            rw [decide_eq_true c1.symm, decide_eq_true c3, decide_eq_true c2]
            rfl
          · rw [if_neg c3]
            refine fn ?_
            unfold share
            rw [decide_eq_false c3, Bool.false_and, Bool.and_false]
        · rw [if_neg c2]
          refine fn ?_
          unfold share
          rw [decide_eq_false c2, Bool.and_false, Bool.and_false]
      · rw [if_neg (by simp [c1])]
        refine fn ?_
        unfold share
        rw [decide_eq_false (fun z => c1 z.symm)]
        rfl
    intro H2 s2 at2
    rw [List.length_map, len, range_get] at at2
    refine ⟨by decide, fun z hz => ?_⟩
    have eL : (os.filterMap fun u => if share o u = true then some (V.int 1) else none) = (os.filter (share o)).map fun _ => V.int 1 := filterMap_ite (share o) (fun _ => V.int 1) os
    rw [eL] at at2
    obtain ⟨H3, eH3, s3, a3⟩ := new_obj (.lst []) hz
    rw [eH3]
    have dA : ∀ l : List Ord, DpAll K H3 (l.map fun _ => V.int 1) ((l.map fun _ => (1 : Int)).map PyData.int) := fun l => by
      induction l with
      | nil => exact .nil
      | cons a l ih => exact .cons (.int _) ih
    refine eqF_of flatInt.list (by decide) (a := (os.filter (share o)).map fun _ => (1 : Int)) (b := []) (.lst (SqL.of (s3 _ _ at2)) (dA _)) (.lst (SqL.of a3) .nil) (fun _ _ => trivial) (fun _ _ => trivial) ?_
    have e : decide ((os.filter (share o)).map (fun _ => (1 : Int)) = []) = !os.any (share o) := by
      cases c : os.any (share o) with
      | true =>
        obtain ⟨u, hu, su⟩ := List.any_eq_true.mp c
        refine decide_eq_false fun z => ?_
        have := List.map_eq_nil_iff.mp z
        have m : u ∈ os.filter (share o) := List.mem_filter.mpr ⟨hu, su⟩
        rw [this] at m
        cases m
      | false =>
        rw [List.any_eq_false] at c
        refine decide_eq_true (List.map_eq_nil_iff.mpr (List.filter_eq_nil_iff.mpr fun u hu su => c u hu su))
    rw [e]
    exact k H3 (s2.trans s3)
theorem ok_rorder (T : Txt K mg) : FnOk P w K mg base (L2.CX P w) 3 T.law_order.f T.law_order.fd ["_law_d", "_law_most"] (sp_rorder K) := by
  have G_law_next := ok_next (P := P) (w := w) (base := base) T
  have G_law_pick := ok_pick (P := P) (w := w) (base := base) T
  refine T.law_order.F.okX sc_law_order (fun vs H Q E h => ?_) (fun cdv A outer s H vs Q E hr h => ?_)
  · obtain ⟨r, sc, m, rfl, _⟩ := h
    rfl
  · obtain ⟨r, sc, m, rfl, rw0, m0, m1, k⟩ := h
    refine ⟨_, (pss_cons (ps_set (i := 2) sc_law_order.nd rfl (Or.inl rfl) (pe_lst (pa_cons pe_str (pa_cons pe_str (pa_cons pe_str (pa_cons pe_str pa_nil))))))
  (pss_cons (ps_set (i := 3) sc_law_order.nd rfl (Or.inl rfl) (pe_bm PySem.F.plainAttrs_list PySem.F.slot_list_pop PySem.F.type_list_pop mt_popAt (pv 2) (pa_cons (pe_call G_law_next (hr.mono (by first | decide | omega)) rfl T.law_next.mg T.law_next.F.kp T.law_next.b .nil passF (pa_cons (pv 0) (pa_cons pe_int pa_nil))) pa_nil)))
  (pss_cons (ps_set (i := 4) sc_law_order.nd rfl (Or.inl rfl) (pe_call G_law_next (hr.mono (by first | decide | omega)) rfl T.law_next.mg T.law_next.F.kp T.law_next.b .nil passF (pa_cons (pv 0) (pa_cons (pv 1) pa_nil))))
  (pss_one (ps_ret (pe_tup (pa_cons (pv 3) (pa_cons (pe_call G_law_pick (hr.mono (by first | decide | omega)) rfl T.law_pick.mg T.law_pick.F.kp T.law_pick.b .nil passF (pa_cons (pv 0) (pa_cons (pv 2) pa_nil))) (pa_cons (pv 4) (pa_cons (pe_op op_add (pv 4) (pe_call G_law_next (hr.mono (by first | decide | omega)) rfl T.law_next.mg T.law_next.F.kp T.law_next.b .nil passF (pa_cons (pv 0) (pa_cons (pv 1) pa_nil)))) (pa_cons (pe_op op_add pe_int (pe_call G_law_next (hr.mono (by first | decide | omega)) rfl T.law_next.mg T.law_next.F.kp T.law_next.b .nil passF (pa_cons (pv 0) (pa_cons (pe_ix ix_list (pe_lst (pa_cons pe_int (pa_cons pe_int pa_nil))) (pe_call G_law_next (hr.mono (by first | decide | omega)) rfl T.law_next.mg T.law_next.F.kp T.law_next.b .nil passF (pa_cons (pv 0) (pa_cons pe_int pa_nil))) (fun _ _ => rfl)) pa_nil)))) pa_nil))))))))))), ?_⟩
    walk_at "rd"
    refine ⟨by decide, fun nl hnl => ⟨tyL upd_same, ?_⟩⟩
    obtain ⟨H1, eH1, s1, a1⟩ := new_obj (.lst (nmD4.map V.str)) hnl
    show sp_taken K [V.ref r, V.int 4] (upd H nl (.lst (nmD4.map V.str))) _ eF
    rw [eH1]
    have ne : nl ≠ r := ne_of_none' rw0.row hnl
    refine ⟨r, sc, 4, rfl, rw0.same s1, by decide, by decide, fun v H2 v0 v1 x2 row2 => ?_⟩
    obtain ⟨i, rfl⟩ : ∃ i : Nat, v = (i : Nat) := ⟨v.toNat, by omega⟩
    have hi : i < 4 := by omega
    have a2 := x2 _ _ ne a1
    obtain ⟨y, hy⟩ : ∃ y, nmD4[i]? = some y := ⟨_, List.getElem?_eq_getElem (show i < nmD4.length from hi)⟩
    refine pop_of (k := i) a2 (by rw [List.getElem?_map, hy]; rfl) (by omega) ?_
    obtain ⟨H3, hH3⟩ : ∃ H3, H3 = upd H2 nl (.lst ((nmD4.map V.str).eraseIdx i)) := ⟨_, rfl⟩
    rw [← hH3]
    have e3 : SameX r H H3 := fun b o n e => by
      rw [hH3, upd_ne (ne_of_none e hnl)]
      exact x2 _ _ n (s1 _ _ e)
    have row3 : RowS H3 r sc := RowS.at_ (by rw [hH3]; exact upd_ne (Ne.symm ne)) row2
    have rw3 := rw0.next e3 row3
    have a3 : H3 nl = some (.lst ((nmD4.map V.str).eraseIdx i)) := by rw [hH3]; exact upd_same
    clear hH3 a2 x2 row2 a1 s1 eH1 row3
    refine ⟨r, sc, m, rfl, rw3, m0, m1, fun f H4 f0 f1 x4 row4 => ?_⟩
    have rw4 := rw3.next x4 row4
    have a4 := x4 _ _ ne a3
    have l3 : ((nmD4.map V.str).eraseIdx i).length = 3 := by
      rw [List.length_eraseIdx, List.length_map]
      simp [nmD4, hi]
    refine ⟨r, sc, nl, _, rfl, rw4, a4, ne, by omega, by omega, fun j z H5 hz x5 row5 => ?_⟩
    have hj : j < 3 := by
      have := (List.getElem?_eq_some_iff.mp hz).1
      omega
    obtain ⟨g, rfl, g1, g2⟩ : ∃ g, z = .str g ∧ g ∈ nmD4 ∧ y ≠ g := by
      have pn := pick_names ⟨i, hi⟩ ⟨j, hj⟩
      rw [er_map, List.getElem?_map] at hz
      cases e : (nmD4.eraseIdx i)[j]? with
      | none => rw [e] at hz; cases hz
      | some g =>
        rw [e] at hz pn
        simp only [Option.elim, Bool.and_eq_true, decide_eq_true_eq] at pn
        exact ⟨g, (Option.some.inj hz).symm, pn.1, fun c => pn.2 (by rw [hy, c])⟩
    have rw5 := rw4.next x5 row5
    refine ⟨r, sc, m, rfl, rw5, m0, m1, fun n H6 n0 n1 x6 row6 => ⟨f, rfl, n, rfl, by decide, fun t2 ht2 => ?_⟩⟩
    have rw6 := rw5.next x6 row6
    obtain ⟨H7, eH7, s7, a7⟩ := new_obj (.lst [V.int 2, .int 5]) ht2
    rw [eH7]
    have ne2 : t2 ≠ r := ne_of_none' rw6.row ht2
    have rw7 := rw6.same s7
    refine ⟨r, sc, 2, rfl, rw7, by decide, by decide, fun q H8 q0 q1 x8 row8 => ?_⟩
    have rw8 := rw7.next x8 row8
    have a8 := x8 _ _ ne2 a7
    obtain ⟨b, b0, b5, hb⟩ : ∃ b : Int, 0 < b ∧ b ≤ 5 ∧ atI [V.int 2, .int 5] q = some (.int b) := by
      have : q = 0 ∨ q = 1 := by omega
      rcases this with rfl | rfl
      · exact ⟨2, by decide, by decide, rfl⟩
      · exact ⟨5, by decide, by decide, rfl⟩
    refine ixL_of a8 hb ⟨r, sc, b, rfl, rw8, b0, by omega, fun wv H9 w0 w1 x9 row9 => ⟨wv, rfl, by decide, fun p hp => ?_⟩⟩
    have sp := same_new (o := .tup [V.str y, .str g, .int f, .int (f + n), .int (1 + wv)]) hp
    have xx : SameX r H (upd H9 p (.tup [V.str y, .str g, .int f, .int (f + n), .int (1 + wv)])) := ((((((e3.trans x4).trans x5).trans x6).trans (SameX.of s7)).trans x8).trans x9).trans (SameX.of sp)
    exact k p ⟨y, g, f, f + n, 1 + wv⟩ _ xx (row9.same sp) upd_same ⟨List.mem_of_getElem? hy, g1, g2, f0, f1, by show f ≤ f + n; omega, by show f + n < f + m; omega, by show 1 ≤ 1 + wv; omega, by show 1 + wv ≤ 5; omega⟩
end
end K47
namespace K47
open PySem PySem.Spec PyProof.Rows L2 StX ClX My
local macro_rules | `(tactic| walk_at "rd") => `(tactic| try simp only [L2.start, List.map_cons, List.map_nil, List.length_cons, List.length_nil, List.cons_append, List.nil_append, List.reduceReplicate, List.replicate_zero, Nat.reduceAdd, Nat.reduceSub,
  List.getElem?_cons_zero, List.getElem?_cons_succ, List.set_cons_zero, List.set_cons_succ, Option.some.injEq, exists_eq_left', exists_eq_left, exists_eq_right, exists_eq_right', V.int.injEq, V.bl.injEq, V.str.injEq, V.ref.injEq, V.ty.injEq, List.cons.injEq, and_true, true_and, and_assoc,
  exists_and_left, exists_const, tVar, tC, tB, tAnd, tOr, tNot, tAndV, tOrV, tNotV, tIf, tSeq, tNext, iStr, iEnumT, iZip, RZ.iZipA, iRev, iList, iTup, iRng1, iRng2, tLc_eq, tDc_eq, tFor_eq, tYes, wipe, tBreak, tCont, tDrop, tRet, tRetN, tIfS, gName, gNil, gCons, gTup, tAsg, tPar, tOp, tUn, rI, rI0, rU, tTest, tChain, tNil, tCons, tTup, tLst, tCB, tFld_eq, tCVal_eq, tProp_eq, tMeth_eq, tMethR_eq, tCMeth, tMakeSL, tDNotIn, tDGet_eq, tDSetd, tDIn_eq, sDPut_eq, tNever, tMakeR_eq, tCKw_eq, tDNewK, tDNewT, tWhile, gSub_eq, tBM_eq, sFld, tPart, tNoPart, tSl, cx_K, cx_w, tCall, cx_K, tCall,
  Bool.false_eq_true, if_true, if_false, ite_true, ite_false, Bool.not_true, Bool.not_false, reduceIte, decide_eq_true_eq, eq_self_iff_true, reduceCtorEq, false_and, and_false, exists_false])
local macro_rules | `(tactic| walk_at "go") => `(tactic| (repeat (first | refine ixT_of (by assumption) (by rfl) ?_ | refine eqI_of ?_ | refine eqS_of ?_ | refine neI_of ?_); try walk_at "rd"))
local macro_rules | `(tactic| walk_at "r2") => `(tactic| ((walk_at "rd"); (try simp only [tPar3, tDGet2]); (walk_at "rd")))

local macro_rules | `(tactic| walk_at "rl") => `(tactic| ((walk_at "r2"); (try simp only [tLstRg, tRg1, tRg2]); (walk_at "r2")))
theorem nmD4_ok : ∀ x ∈ nmD4, adrB (.str x) = true := by decide +kernel
theorem DOrd.ok {m : Int} {o : Ord} (h : DOrd m o) (l : m ≤ 1000000000) : okO o = true := by
  have e1 := nmD4_ok _ h.src
  have e2 := nmD4_ok _ h.tgt
  have := h.f0
  have := h.fm
  have := h.le
  have := h.lm
  have := h.w1
  have := h.w5
  have dm : dayM = 1000000000000000000 := by decide
  simp only [okO, numB, Bool.and_eq_true, Bool.not_eq_true', decide_eq_true_eq, decide_eq_false_iff_not]
  exact ⟨⟨⟨⟨e1, e2⟩, h.ne⟩, ⟨⟨by omega, by omega⟩, by omega, by omega⟩, by omega⟩, by omega, by omega⟩
theorem okB_snoc {os : List Ord} {n : Ord} (ok : OkB os) (on : okO n = true) (l : os.length < 30) (h : os.any (share n) = false) : OkB (os ++ [n]) := by
  refine .mk' (by rw [List.length_append]; show _ + 1 ≤ _; omega) (fun o ho => ?_) ?_
  · rcases List.mem_append.mp ho with ho | ho
    · exact ok.mem ho
    · rw [List.mem_singleton.mp ho]
      exact on
  · refine List.pairwise_append.mpr ⟨ok.pair, List.pairwise_singleton _ _, fun a ha b hb => ?_⟩
    rw [List.mem_singleton.mp hb]
    rw [List.any_eq_false] at h
    have := h a ha
    cases c : share a n with
    | false => rfl
    | true =>
      refine absurd ?_ this
      unfold share at c ⊢
      simp only [Bool.and_eq_true, decide_eq_true_eq] at c ⊢
      exact ⟨c.1.symm, c.2.2, c.2.1⟩
def sp_rorders (K : PySem.W.Frag) : Sp := fun vs H Q _ => ∃ (r sc : Addr) (many m : Int), vs = [.ref r, .int many, .int m] ∧ Rw K H r sc ∧ 0 ≤ many ∧ many ≤ 29 ∧ 0 < m ∧ m ≤ 1000000000 ∧
  ∀ l os H', SameX r H H' → RowS H' r sc → LstAt H' l os → OkB os → (os.length : Int) ≤ many → (∀ o ∈ os, DOrd m o) → Q (.ref l) H'
section
variable {P : Program} {w : World} {K : PySem.W.Frag} {mg : Str → Option Value} {base : Heap}
theorem ok_rorders (T : Txt K mg) : FnOk P w K mg base (L2.CX P w) 4 T.law_orders.f T.law_orders.fd ["_law_d", "_law_many", "_law_most"] (sp_rorders K) := by
  have G_law_next := ok_next (P := P) (w := w) (base := base) T
  have G_law_order := ok_rorder (P := P) (w := w) (base := base) T
  have G_law_fits := ok_fits (P := P) (w := w) (base := base) T
  refine T.law_orders.F.okX sc_law_orders (fun vs H Q E h => ?_) (fun cdv A outer s H vs Q E hr h => ?_)
  · obtain ⟨r, sc, many, m, rfl, _⟩ := h
    rfl
  · obtain ⟨r, sc, many, m, rfl, rw0, y0, y29, m0, m1, k⟩ := h
    refine ⟨_, (pss_cons (ps_set (i := 3) sc_law_orders.nd rfl (Or.inl rfl) (pe_lst pa_nil))
  (pss_cons (ps_for (passes_of rfl) rfl (pi_range1 (by rfl) T.n_range (pa_cons (pe_call G_law_next (hr.mono (by first | decide | omega)) rfl T.law_next.mg T.law_next.F.kp T.law_next.b .nil passF (pa_cons (pv 0) (pa_cons (pe_op op_add (pv 1) pe_int) pa_nil))) pa_nil)) (pg_name (i := 4) sc_law_orders.nd rfl (Or.inl rfl))
    (pss_cons (ps_set (i := 5) sc_law_orders.nd rfl (Or.inl rfl) (pe_call G_law_order (hr.mono (by first | decide | omega)) rfl T.law_order.mg T.law_order.F.kp T.law_order.b .nil passF (pa_cons (pv 0) (pa_cons (pv 2) pa_nil))))
  (pss_one (ps_set (i := 3) sc_law_orders.nd rfl (Or.inl rfl) (pe_op op_cat (pv 3) (pe_ifExp (pt_val (pe_call G_law_fits (hr.mono (by first | decide | omega)) rfl T.law_fits.mg T.law_fits.F.kp T.law_fits.b .nil passF (pa_cons (pv 3) (pa_cons (pv 5) pa_nil)))) (pe_lst (pa_cons (pv 5) pa_nil)) (pe_lst pa_nil)))))))
  (pss_one (ps_ret (pv 3))))), ?_⟩
    walk_at "rd"
    refine ⟨by decide, fun l0 hl0 => ?_⟩
    obtain ⟨H1, eH1, s1, a1⟩ := new_obj (.lst []) hl0
    rw [eH1]
    have rw1 := rw0.same s1
    refine ⟨r, sc, many + 1, rfl, rw1, by omega, by omega, fun n H2 n0 n1 x2 row2 => ⟨n, rfl, ?_⟩⟩
    have rw2 := rw1.next x2 row2
    have hl2 : LstAt H2 l0 [] := LstAt.upX (H := H1) rw1.row x2 ⟨[], a1, .nil⟩
    obtain ⟨j, rfl⟩ : ∃ j : Nat, n = (j : Nat) := ⟨n.toNat, by omega⟩
    refine ⟨by omega, by have p62 : (2 : Int) ^ 62 = 4611686018427387904 := by decide
                         omega, ?_⟩
    obtain ⟨W, hW⟩ : ∃ W : Nat → L2.St → Hp → Prop, W = fun i σ H' => ∃ (l : Addr) (os : List Ord) (v4 v5 : Option V), σ = [some (.ref r), some (.int many), some (.int m), some (.ref l), v4, v5] ∧ SameX r H2 H' ∧ RowS H' r sc ∧ LstAt H' l os ∧ OkB os ∧ os.length ≤ i ∧ (∀ o ∈ os, DOrd m o) := ⟨_, rfl⟩
    refine for_rel (walk_range (lo := 0) (n := j)) W ?_ (fun _ _ _ _ _ => trivial) ?_ ?_
    · rw [hW]
      exact ⟨l0, [], _, _, rfl, SameX.refl _ _, row2, hl2, OkB.nil, Nat.le_refl _, fun o ho => by cases ho⟩
    · rintro i x σ H3 H4 hi hw ⟨rfl, rfl⟩
      rw [hW] at hw
      obtain ⟨l, os, v4, v5, rfl, xx, row, hl, ok, li, ds⟩ := hw
      have rwH := rw2.next xx row
      walk_at "rd"
      refine ⟨r, sc, m, rfl, rwH, m0, by omega, fun p o H5 x5 row5 hp dO => ?_⟩
      have hl5 := hl.upX rwH.row x5
      walk_at "rd"
      refine ⟨l, p, os, o, rfl, hl5, by omega, hp, fun H6 s6 => ⟨_, rfl, ?_⟩⟩
      obtain ⟨ps, hps, hos⟩ := id (hl5.up s6)
      have x36 : SameX r H2 H6 := (xx.trans x5).trans (SameX.of s6)
      cases c : os.any (share o) with
      | true =>
        rw [if_neg (by decide)]
        refine ⟨by decide, fun q hq => ?_⟩
        obtain ⟨H7, eH7, s7, a7⟩ := new_obj (.lst []) hq
        rw [eH7]
        refine ⟨_, _, _, _, rfl, rfl, s7 _ _ hps, a7, by rw [List.length_map, Paired.length hos]; exact Nat.le_trans (show os.length + 0 ≤ 100 by omega) (by decide), fun q2 hq2 => ?_⟩
        rw [List.append_nil]
        have s8 := same_new (o := .lst (ps.map V.ref)) hq2
        rw [hW]
        have s68 := s7.trans s8
        exact ⟨q2, os, _, _, rfl, x36.trans (SameX.of s68), (row5.same s6).same s68, ⟨ps, upd_same, ordsUp (SameN.of s68) hos⟩, ok, by omega, ds⟩
      | false =>
        rw [if_pos (by decide)]
        refine ⟨by decide, fun q hq => ?_⟩
        obtain ⟨H7, eH7, s7, a7⟩ := new_obj (.lst [V.ref p]) hq
        rw [eH7]
        refine ⟨_, _, _, _, rfl, rfl, s7 _ _ hps, a7, by rw [List.length_map, Paired.length hos]; exact Nat.le_trans (show os.length + 1 ≤ 100 by omega) (by decide), fun q2 hq2 => ?_⟩
        have s8 := same_new (o := .lst (ps.map V.ref ++ [V.ref p])) hq2
        rw [hW]
        have s68 := s7.trans s8
        refine ⟨q2, os ++ [o], _, _, rfl, x36.trans (SameX.of s68), (row5.same s6).same s68, ⟨ps ++ [p], by rw [upd_same, List.map_append]; rfl, Paired.app (ordsUp (SameN.of s68) hos) (.cons ((s6.trans s68) _ _ hp) .nil)⟩, okB_snoc ok (dO.ok m1) (by omega) c, by rw [List.length_append]; show _ + 1 ≤ _; omega, fun u hu => ?_⟩
        rcases List.mem_append.mp hu with hu | hu
        · exact ds u hu
        · rw [List.mem_singleton.mp hu]
          exact dO
    · rintro σ H3 hw
      rw [hW] at hw
      obtain ⟨l, os, v4, v5, rfl, xx, row, hl, ok, li, ds⟩ := hw
      walk_at "rd"
      exact k l os H3 ((((SameX.of s1).trans x2).trans xx)) row hl ok (by omega) ds
theorem ok_made (T : Txt K mg) : FnOk P w K mg base (L2.CX P w) 8 T.law_made.f T.law_made.fd ["_law_orders_here"] (sp_law_book T.Book.C) := by
  have G_Book_init := ok_init (P := P) (w := w) (base := base) T
  have G_Book_add := ok_add (P := P) (w := w) (base := base) T
  refine T.law_made.F.okX sc_law_made (fun vs H Q E h => ?_) (fun cdv A outer s H vs Q E hr h => ?_)
  · obtain ⟨l, os, rfl, _⟩ := h
    rfl
  · obtain ⟨l, os, rfl, ⟨ps, hl, hos⟩, ok, k⟩ := h
    refine ⟨_, (pss_cons (ps_set (i := 1) sc_law_made.nd rfl (Or.inl rfl) (pe_makeR0 T.Book_init.new G_Book_init (hr.mono (by first | decide | omega)) rfl T.Book.mg passF))
  (pss_cons (ps_for (passes_of rfl) rfl (pi_list (pv 0)) (pg_name (i := 2) sc_law_made.nd rfl (Or.inl rfl))
    (pss_one (ps_set (i := 1) sc_law_made.nd rfl (Or.inl rfl) (pe_op (op_ownB T.first T.Book_add.m.at_ T.Book_add.m.fn (G_Book_add.raw T.Book_add.b .nil) (hr.mono (by first | decide | omega)) passF) (pv 1) (pe_makeR T.Book_init.new G_Book_init (hr.mono (by first | decide | omega)) rfl T.Book.mg passF (pa_cons (pv 2) pa_nil))))))
  (pss_one (ps_ret (pv 1))))), ?_⟩
    walk_at "rd"
    refine make_book (ps := []) (os := []) .nil OkB.nil fun b H1 s1 hb => ?_
    walk_at "rd"
    refine ⟨⟨_, SqL.of (s1 _ _ hl)⟩, for_rel (walk_list (K := K)) (fun i σ H' => ∃ b v, σ = [some (V.ref l), some (V.ref b), v] ∧ Same H H' ∧ BookAt T.Book.C H' b (os.take i)) ⟨b, _, rfl, s1, hb⟩
      (fun i σ H' _ ⟨_, _, _, s2, _⟩ => SqL.of (s2 _ _ hl)) ?_ ?_⟩
    · rintro i x σ H2 H3 hi ⟨b2, v, rfl, s2, hb2⟩ ⟨rfl, ex⟩
      obtain ⟨p, hp, rfl⟩ := nth_ref ex
      obtain ⟨o, ho, hpo⟩ := Paired.at hos hp
      walk_at "rd"
      refine make_book (ps := [p]) (os := [o]) (.cons (s2 _ _ hpo) .nil) (ok.one ho) fun c H4 s4 hc => ?_
      obtain ⟨d1, t1, g1, _⟩ := hb2.up (SameN.of s4)
      obtain ⟨d2, t2, g2, _⟩ := id hc
      refine ownB_of g1 g2 ⟨b2, c, os.take i, [o], rfl, hb2.up (SameN.of s4), hc, ?_, fun e H5 s5 he => ?_⟩
      · rw [← take_one ho]
        exact ok.take _
      · walk_at "rd"
        refine ⟨(s2.trans s4).trans s5, ?_⟩
        rw [take_one ho]
        exact he
    · rintro σ H2 ⟨b2, v, rfl, s2, hb2⟩
      walk_at "rd"
      have len : (ps.map V.ref).length = os.length := by rw [List.length_map]; exact Paired.length hos
      rw [len, List.take_length] at hb2
      exact k b2 H2 s2 hb2
end
end K47
namespace K47
open PySem PySem.Spec PyProof.Rows L2 StX ClX My
local macro_rules | `(tactic| walk_at "rd") => `(tactic| try simp only [L2.start, List.map_cons, List.map_nil, List.length_cons, List.length_nil, List.cons_append, List.nil_append, List.reduceReplicate, List.replicate_zero, Nat.reduceAdd, Nat.reduceSub,
  List.getElem?_cons_zero, List.getElem?_cons_succ, List.set_cons_zero, List.set_cons_succ, Option.some.injEq, exists_eq_left', exists_eq_left, exists_eq_right, exists_eq_right', V.int.injEq, V.bl.injEq, V.str.injEq, V.ref.injEq, V.ty.injEq, List.cons.injEq, and_true, true_and, and_assoc,
  exists_and_left, exists_const, tVar, tC, tB, tAnd, tOr, tNot, tAndV, tOrV, tNotV, tIf, tSeq, tNext, iStr, iEnumT, iZip, RZ.iZipA, iRev, iList, iTup, iRng1, iRng2, tLc_eq, tDc_eq, tFor_eq, tYes, wipe, tBreak, tCont, tDrop, tRet, tRetN, tIfS, gName, gNil, gCons, gTup, tAsg, tPar, tOp, tUn, rI, rI0, rU, tTest, tChain, tNil, tCons, tTup, tLst, tCB, tFld_eq, tCVal_eq, tProp_eq, tMeth_eq, tMethR_eq, tCMeth, tMakeSL, tDNotIn, tDGet_eq, tDSetd, tDIn_eq, sDPut_eq, tNever, tMakeR_eq, tCKw_eq, tDNewK, tDNewT, tWhile, gSub_eq, tBM_eq, sFld, tPart, tNoPart, tSl, cx_K, cx_w, tCall, cx_K, tCall,
  Bool.false_eq_true, if_true, if_false, ite_true, ite_false, Bool.not_true, Bool.not_false, reduceIte, decide_eq_true_eq, eq_self_iff_true, reduceCtorEq, false_and, and_false, exists_false])
local macro_rules | `(tactic| walk_at "go") => `(tactic| (repeat (first | refine ixT_of (by assumption) (by rfl) ?_ | refine eqI_of ?_ | refine eqS_of ?_ | refine neI_of ?_); try walk_at "rd"))
local macro_rules | `(tactic| walk_at "r2") => `(tactic| ((walk_at "rd"); (try simp only [tPar3, tDGet2]); (walk_at "rd")))

local macro_rules | `(tactic| walk_at "rl") => `(tactic| ((walk_at "r2"); (try simp only [tLstRg, tRg1, tRg2]); (walk_at "r2")))
theorem atI_last {α : Type} {xs : List α} (h : 0 < xs.length) : atI xs (-1) = xs[xs.length - 1]? := by
  unfold atI ixN
  rw [if_neg (by decide), if_pos (by omega)]
  show xs[(-1 + (xs.length : Int)).toNat]? = _
  rw [show (-1 + (xs.length : Int)).toNat = xs.length - 1 by omega]
def sp_now : Sp := fun vs H Q _ => ∃ (l : Addr) (os : List Ord) (a : Str) (d : Int), vs = [.ref l, .str a, .int d] ∧ LstAt H l os ∧ os.length ≤ 100 ∧
  (∀ p o, (os.find? fun u => u.holds a d) = some o → OrdAt H p o → Q (.ref p) H) ∧ ((os.find? fun u => u.holds a d) = none → Q .non H)
def sp_arrs : Sp := fun vs H Q _ => ∃ (l : Addr) (os : List Ord) (a : Str) (d : Int) (n : Nat), vs = [.ref l, .str a, .int d, .int (n : Nat)] ∧ LstAt H l os ∧ os.length ≤ 100 ∧ 0 < n ∧ n ≤ 1000 ∧
  ∀ t ps as H', Same H H' → H t = Option.none → H' t = some (.lst (ps.map V.ref)) → LetsAt H' ps as → RouteOf os (a, d) n as → Q (.ref t) H'
section
variable {P : Program} {w : World} {K : PySem.W.Frag} {mg : Str → Option Value} {base : Heap}
theorem ok_now (T : Txt K mg) : FnOk P w K mg base (L2.CX P w) 1 T.law_now.f T.law_now.fd ["_law_orders_here", "_law_address", "_law_day"] sp_now := by
  refine T.law_now.F.okX sc_law_now (fun vs H Q E h => ?_) (fun cdv A outer s H vs Q E hr h => ?_)
  · obtain ⟨l, os, a, d, rfl, _⟩ := h
    rfl
  · obtain ⟨l, os, a, d, rfl, hl, l100, k1, k2⟩ := h
    refine ⟨_, (pss_cons (ps_for (passes_of rfl) rfl (pi_list (pv 0)) (pg_name (i := 3) sc_law_now.nd rfl (Or.inl rfl))
    (pss_one (ps_if (PW.pt (pw_and (pt_cmpR op_eq (pe_ix ix_tup (pv 3) pe_int (fun _ _ => rfl)) (pv 1) (nomark _)) (pw_and1 (pt_chain op_le op_le (pe_ix ix_tup (pv 3) pe_int (fun _ _ => rfl)) (pv 2) (pe_ix ix_tup (pv 3) pe_int (fun _ _ => rfl))))))
    (pss_one (ps_ret (pv 3)))
    pss_nil)))
  (pss_one (ps_ret pe_non))), ?_⟩
    walk_at "rd"
    obtain ⟨ps, hps, hos⟩ := id hl
    have len : ps.length = os.length := Paired.length hos
    refine ⟨⟨_, SqL.of hps⟩, for_rel (walk_list (K := K) (a := l) (xs := ps.map V.ref)) (fun i σ H' => H' = H ∧ ((os.take i).find? fun u => u.holds a d) = none ∧ ∃ v, σ = [some (V.ref l), some (.str a), some (.int d), v]) ⟨rfl, rfl, _, rfl⟩ (fun i σ H' _ ⟨e, _⟩ => by rw [e]; exact SqL.of hps) ?_ ?_⟩
    · rintro i x σ H1 H2 hi ⟨rfl, no, v, rfl⟩ ⟨rfl, ex⟩
      rw [List.length_map] at hi
      obtain ⟨q, hq⟩ : ∃ q, ps[i]? = some q := ⟨_, List.getElem?_eq_getElem hi⟩
      obtain ⟨u, hu, hqu⟩ := Paired.at hos hq
      rw [List.getElem?_map, hq] at ex
      cases ex
      have il : i < os.length := by omega
      have up : (os.take (i + 1)).find? (fun u => u.holds a d) = if u.holds a d = true then some u else none := by
        rw [take_one hu, List.find?_append, no]
        show ([u].find? fun u => u.holds a d) = _
        rw [List.find?_cons]
        cases u.holds a d <;> rfl
      have all : u.holds a d = true → (os.find? fun u => u.holds a d) = some u := fun e => by
        rw [← List.take_append_drop (i + 1) os, List.find?_append, up, if_pos e]
        rfl
      walk_at "rd"
      have fn : u.holds a d = false → ((os.take (i + 1)).find? fun u => u.holds a d) = none := fun e => by rw [up, if_neg (by rw [e]; decide)]
      have hd : u.holds a d = (decide (u.src = a) && (decide (u.fst ≤ d) && decide (d ≤ u.lst))) := rfl
      refine ixT_of hqu (by rfl) (eqS_of ⟨_, rfl, ?_⟩)
      by_cases c1 : u.src = a
      · rw [if_pos (decide_eq_true c1)]
        refine ixT_of hqu (by rfl) ⟨_, rfl, ?_⟩
        by_cases c2 : u.fst ≤ d
        · rw [if_pos c2]
          refine ixT_of hqu (by rfl) ⟨_, rfl, ?_⟩
          by_cases c3 : d ≤ u.lst
          · rw [if_pos c3]
            exact k1 q u (all (by rw [hd, decide_eq_true c1, decide_eq_true c2, decide_eq_true c3]; rfl)) hqu
          · rw [if_neg c3]
            exact ⟨rfl, fn (by rw [hd, decide_eq_false c3, Bool.and_false, Bool.and_false]), _, rfl⟩
        · rw [if_neg c2]
          exact ⟨rfl, fn (by rw [hd, decide_eq_false c2, Bool.false_and, Bool.and_false]), _, rfl⟩
      · rw [if_neg (by simp [c1])]
        exact ⟨rfl, fn (by rw [hd, decide_eq_false c1, Bool.false_and]), _, rfl⟩
    · rintro σ H1 ⟨rfl, no, v, rfl⟩
      rw [List.length_map, len, List.take_length] at no
      walk_at "rd"
      exact k2 no
theorem ok_arrs (T : Txt K mg) : FnOk P w K mg base (L2.CX P w) 2 T.law_arrivals.f T.law_arrivals.fd ["_law_orders_here", "_law_address", "_law_day", "_law_most"] sp_arrs := by
  have G_law_now := ok_now (P := P) (w := w) (base := base) T
  refine T.law_arrivals.F.okX sc_law_arrivals (fun vs H Q E h => ?_) (fun cdv A outer s H vs Q E hr h => ?_)
  · obtain ⟨l, os, a, d, n, rfl, _⟩ := h
    rfl
  · obtain ⟨l, os, a, d, n, rfl, hl, l100, n0, n1, k⟩ := h
    refine ⟨_, (pss_cons (ps_set (i := 4) sc_law_arrivals.nd rfl (Or.inl rfl) (pe_lst (pa_cons (pe_tup (pa_cons (pv 1) (pa_cons (pv 2) pa_nil))) pa_nil)))
  (pss_cons (ps_while (passes_of rfl) (PW.pt (pw_and (pt_cmpR op_lt (pe_callB call_len_seq (by rfl) T.n_len (by decide +kernel) (pa_cons (pv 4) pa_nil)) (pv 3) (nomark _)) (pw_and1 (pt_cmpR op_notN (pe_call G_law_now (hr.mono (by first | decide | omega)) rfl T.law_now.mg T.law_now.F.kp T.law_now.b .nil passF (pa_cons (pv 0) (pa_cons (pe_ix ix_tup (pe_ix ix_list (pv 4) (pe_un un_neg pe_int) (fun _ _ => rfl)) pe_int (fun _ _ => rfl)) (pa_cons (pe_ix ix_tup (pe_ix ix_list (pv 4) (pe_un un_neg pe_int) (fun _ _ => rfl)) pe_int (fun _ _ => rfl)) pa_nil)))) pe_non (nomark _)))))
    (pss_cons (ps_set (i := 5) sc_law_arrivals.nd rfl (Or.inl rfl) (pe_call G_law_now (hr.mono (by first | decide | omega)) rfl T.law_now.mg T.law_now.F.kp T.law_now.b .nil passF (pa_cons (pv 0) (pa_cons (pe_ix ix_tup (pe_ix ix_list (pv 4) (pe_un un_neg pe_int) (fun _ _ => rfl)) pe_int (fun _ _ => rfl)) (pa_cons (pe_ix ix_tup (pe_ix ix_list (pv 4) (pe_un un_neg pe_int) (fun _ _ => rfl)) pe_int (fun _ _ => rfl)) pa_nil)))))
  (pss_one (ps_expr (pe_bm PySem.F.plainAttrs_list PySem.F.slot_list_append PySem.F.type_list_append mt_append (pv 4) (pa_cons (pe_tup (pa_cons (pe_ix ix_tup (pv 5) pe_int (fun _ _ => rfl)) (pa_cons (pe_op op_add (pe_ix ix_tup (pe_ix ix_list (pv 4) (pe_un un_neg pe_int) (fun _ _ => rfl)) pe_int (fun _ _ => rfl)) (pe_ix ix_tup (pv 5) pe_int (fun _ _ => rfl))) pa_nil))) pa_nil))))))
  (pss_one (ps_ret (pv 4))))), ?_⟩
    walk_at "rd"
    refine ⟨by decide, fun p0 hp0 => ?_⟩
    obtain ⟨H1, eH1, s1, a1⟩ := new_obj (.tup [V.str a, .int d]) hp0
    rw [eH1]
    refine ⟨by decide, fun t ht => ?_⟩
    obtain ⟨H2, eH2, s2, a2⟩ := new_obj (.lst [V.ref p0]) ht
    rw [eH2]
    have htn : H t = Option.none := by
      cases e : H t with
      | none => rfl
      | some o => rw [s1 _ _ e] at ht; cases ht
    refine ⟨fun m σ H' => ∃ (ps : List Addr) (as : List Pt) (v5 : Option V), σ = [some (V.ref l), some (.str a), some (.int d), some (.int (n : Nat)), some (.ref t), v5] ∧ m = n - as.length ∧ SameX t H2 H' ∧ H' t = some (.lst (ps.map V.ref)) ∧ LetsAt H' ps as ∧ 0 < as.length ∧ as.length ≤ n ∧ ∀ (i : Nat) (q : Pt), as[i]? = some q → Goes os i (a, d) q, ⟨_, [p0], [(a, d)], _, rfl, rfl, SameX.refl _ _, a2,   .cons (s2 _ _ a1) .nil, (show 0 < 1 by decide), n0, fun i q e => ?_⟩, ?_⟩
    · cases i with
      | zero => cases e; exact .zero _
      | succ i => simp at e
    · rintro m σ H3 ⟨ps, as, v5, rfl, rfl, xx, at_, L, as0, asn, go⟩
      have len : ps.length = as.length := Paired.length L
      have hl3 : LstAt H3 l os := by
        obtain ⟨qs, h1, h2⟩ := hl
        have lt : l ≠ t := fun z => by rw [← z, h1] at htn; cases htn
        exact ⟨qs, xx _ _ lt (s2 _ _ (s1 _ _ h1)), Paired.mp (fun c u h => xx _ _ (fun z => by rw [← z, h] at htn; cases htn) (s2 _ _ (s1 _ _ h))) h2⟩
      walk_at "rd"
      refine ⟨_, .inl (SqL.of at_), ?_⟩
      rw [List.length_map, len]
      obtain ⟨pq, hpq⟩ : ∃ pq, ps[as.length - 1]? = some pq := ⟨_, List.getElem?_eq_getElem (by omega)⟩
      obtain ⟨q, hq, hlq⟩ := Paired.at L hpq
      have lastI : atI (ps.map V.ref) (-1) = some (V.ref pq) := by
        rw [atI_last (by rw [List.length_map]; omega), List.length_map, List.getElem?_map, len, hpq]
        rfl
      by_cases c : ((as.length : Nat) : Int) < ((n : Nat) : Int)
      · rw [if_pos c]
        refine ixL_of at_ lastI (ixT_of hlq (by rfl) (ixL_of at_ lastI (ixT_of hlq (by rfl) ?_)))
        cases f : os.find? fun u => u.holds q.1 q.2 with
        | some o =>
          refine ⟨l, os, q.1, q.2, rfl, hl3, l100, fun po o' e ho' => ?_, fun e => absurd (f.symm.trans e) (by simp)⟩
          obtain rfl : o = o' := Option.some.inj (f.symm.trans e)
          rw [if_pos (by simp)]
          refine ⟨_, fun σ' H' h => h, ?_⟩
          refine ixL_of at_ lastI (ixT_of hlq (by rfl) (ixL_of at_ lastI (ixT_of hlq (by rfl) ?_)))
          refine ⟨l, os, q.1, q.2, rfl, hl3, l100, fun po o' e ho' => ?_, fun e => absurd (f.symm.trans e) (by simp)⟩
          obtain rfl : o = o' := Option.some.inj (f.symm.trans e)
          refine ⟨tyL at_, ixT_of ho' (by rfl) (ixL_of at_ lastI (ixT_of hlq (by rfl) (ixT_of ho' (by rfl) ⟨_, rfl, _, rfl, by decide, fun q1 hq1 => ?_⟩)))⟩
          obtain ⟨H4, eH4, s4, a4⟩ := new_obj (.tup [V.str o.tgt, .int (q.2 + o.way)]) hq1
          rw [eH4]
          have at4 := s4 _ _ at_
          refine app_of at4 (by rw [List.length_map]; omega) ?_
          have x4 : SameX t H2 (upd H4 t (.lst (ps.map V.ref ++ [V.ref q1]))) := (xx.trans (SameX.of s4)).trans SameX.upd
          have k4 : ∀ b xs, H4 b = some (.tup xs) → (upd H4 t (.lst (ps.map V.ref ++ [V.ref q1]))) b = some (.tup xs) := fun b xs h => by
            rw [upd_ne (fun z => by rw [z, at4] at h; cases h)]
            exact h
          refine ⟨n - (as.length + 1), by omega, ps ++ [q1], as ++ [(o.tgt, q.2 + o.way)], _, rfl, by rw [List.length_append]; rfl, x4, by rw [upd_same, List.map_append]; rfl, Paired.app (Paired.mp (fun c u h => k4 _ _ (s4 _ _ h)) L) (.cons (k4 _ _ a4) .nil), by rw [List.length_append]; exact Nat.succ_pos _, by rw [List.length_append]; show _ + 1 ≤ _; omega, fun i z hz => ?_⟩
          rcases Nat.lt_trichotomy i as.length with lt | e | gt
          · rw [List.getElem?_append_left lt] at hz
            exact go i z hz
          · subst e
            rw [List.getElem?_append_right (Nat.le_refl _), Nat.sub_self] at hz
            cases hz
            have st : step os q = some (o.tgt, q.2 + o.way) := by
              unfold step
              rw [f]
              rfl
            have g := (go _ _ hq).trans (.succ st (.zero _))
            rw [show as.length - 1 + (0 + 1) = as.length by omega] at g
            exact g
          · rw [List.getElem?_eq_none (by rw [List.length_append]; show _ + 1 ≤ _; omega)] at hz
            cases hz
        | none =>
          refine ⟨l, os, q.1, q.2, rfl, hl3, l100, fun po o' e _ => absurd (f.symm.trans e) (by simp), fun _ => ?_⟩
          dsimp only
          rw [if_neg (by simp)]
          refine (k t ps as H3 ?_ htn at_ L ⟨asn, go, fun _ => ⟨q, hq, by unfold step; rw [f]; rfl⟩⟩)
          exact fun b o e => xx _ _ (fun z => by rw [z, htn] at e; cases e) (s2 _ _ (s1 _ _ e))
      · rw [if_neg c]
        refine k t ps as H3 ?_ htn at_ L ⟨asn, go, fun lt => absurd (by omega) c⟩
        exact fun b o e => xx _ _ (fun z => by rw [z, htn] at e; cases e) (s2 _ _ (s1 _ _ e))
end
end K47
namespace K47
open PySem PySem.Spec PyProof.Rows L2 StX ClX My
local macro_rules | `(tactic| walk_at "rd") => `(tactic| try simp only [L2.start, List.map_cons, List.map_nil, List.length_cons, List.length_nil, List.cons_append, List.nil_append, List.reduceReplicate, List.replicate_zero, Nat.reduceAdd, Nat.reduceSub,
  List.getElem?_cons_zero, List.getElem?_cons_succ, List.set_cons_zero, List.set_cons_succ, Option.some.injEq, exists_eq_left', exists_eq_left, exists_eq_right, exists_eq_right', V.int.injEq, V.bl.injEq, V.str.injEq, V.ref.injEq, V.ty.injEq, List.cons.injEq, and_true, true_and, and_assoc,
  exists_and_left, exists_const, tVar, tC, tB, tAnd, tOr, tNot, tAndV, tOrV, tNotV, tIf, tSeq, tNext, iStr, iEnumT, iZip, RZ.iZipA, iRev, iList, iTup, iRng1, iRng2, tLc_eq, tDc_eq, tFor_eq, tYes, wipe, tBreak, tCont, tDrop, tRet, tRetN, tIfS, gName, gNil, gCons, gTup, tAsg, tPar, tOp, tUn, rI, rI0, rU, tTest, tChain, tNil, tCons, tTup, tLst, tCB, tFld_eq, tCVal_eq, tProp_eq, tMeth_eq, tMethR_eq, tCMeth, tMakeSL, tDNotIn, tDGet_eq, tDSetd, tDIn_eq, sDPut_eq, tNever, tMakeR_eq, tCKw_eq, tDNewK, tDNewT, tWhile, gSub_eq, tBM_eq, sFld, tPart, tNoPart, tSl, cx_K, cx_w, tCall, cx_K, tCall,
  Bool.false_eq_true, if_true, if_false, ite_true, ite_false, Bool.not_true, Bool.not_false, reduceIte, decide_eq_true_eq, eq_self_iff_true, reduceCtorEq, false_and, and_false, exists_false])
local macro_rules | `(tactic| walk_at "go") => `(tactic| (repeat (first | refine ixT_of (by assumption) (by rfl) ?_ | refine eqI_of ?_ | refine eqS_of ?_ | refine neI_of ?_); try walk_at "rd"))
local macro_rules | `(tactic| walk_at "r2") => `(tactic| ((walk_at "rd"); (try simp only [tPar3, tDGet2]); (walk_at "rd")))

local macro_rules | `(tactic| walk_at "rl") => `(tactic| ((walk_at "r2"); (try simp only [tLstRg, tRg1, tRg2]); (walk_at "r2")))
local macro_rules | `(tactic| walk_at "gn") => `(tactic| ((try simp only [tGThen, tPlain, tGFor_eq, tGYield, GEnds.at, tG0, gcx_K, tDNotIn, tListG, tCallG]); (walk_at "rd"); (try simp only [tGThen, tPlain, tGFor_eq, tGYield, GEnds.at, tG0, gcx_K, tDNotIn, tListG, tCallG]); (walk_at "rd")))
local macro_rules | `(tactic| walk_at "rm") => `(tactic| ((walk_at "rl"); (try simp only [tSumVals, tDisp, tPairs, tLock, iKeys]); (walk_at "rl")))
local macro_rules | `(tactic| walk_at "rt") => `(tactic| ((walk_at "rm"); (try simp only [tM1, tFmtC, tListG, tCallG]); (walk_at "rm")))
/-- a line for an arrival -/
def lineP (p : Pt) : Str := Txt.ljustF p.1 8 46 ++ Txt.rjustF (commaS p.2) 30 46
def sp_travel (C : Addr) : Sp := fun vs H Q _ => ∃ (b : Addr) (os : List Ord) (a : Str) (d : Int) (n : Nat), vs = [.ref b, .str a, .int d, .int (n : Nat)] ∧ BookAt C H b os ∧ OkB os ∧ adrB (.str a) = true ∧ 0 ≤ d ∧ d ≤ 100 ∧ n ≤ 11 ∧
  ∀ as H', Same H H' → RouteOf os (a, d) n as → Q (.str (Txt.join (Str.ofString "\n") (as.map lineP))) H'
theorem comma_short : ∀ n < 512, (commaS (n : Nat)).length ≤ 3 := by
  decide +kernel
theorem far512 {os : List Ord} (ok : OkB os) {i : Nat} {p u : Pt} (g : Goes os i p u) (hi : i ≤ 10) (d0 : 0 ≤ p.2) (d1 : p.2 ≤ 100) : ∃ m : Nat, u.2 = (m : Nat) ∧ m < 512 := by
  have := g.far ok
  exact ⟨u.2.toNat, by omega, by omega⟩
theorem str_app_len (a b : Str) : (a ++ b).length = a.length + b.length := by
  show (a.cps ++ b.cps).size = _
  rw [Array.size_append]
  rfl
theorem ljust_len {a : Str} (h : a.length ≤ 8) : (Txt.ljustF a 8 46).length = 8 := by
  rw [len_of_list (ljustF_list a 8 46), List.length_append, List.length_replicate]
  show a.cps.toList.length + _ = 8
  rw [Array.length_toList]
  show a.length + _ = 8
  omega
theorem rjust_len {a : Str} (h : a.length ≤ 30) : (Txt.rjustF a 30 46).length = 30 := by
  rw [len_of_list (rjustF_list a 30 46), List.length_append, List.length_replicate]
  show _ + a.cps.toList.length = 30
  rw [Array.length_toList]
  show _ + a.length = 30
  omega
theorem adr_len {a : Str} (h : adrB (.str a) = true) : a.length ≤ 8 := by
  simp [adrB] at h
  omega
theorem line_len {p : Pt} {m : Nat} (h : adrB (.str p.1) = true) (e : p.2 = (m : Nat)) (l : m < 512) : (lineP p).length = 38 := by
  unfold lineP
  have := comma_short m l
  rw [str_app_len, ljust_len (adr_len h), e, rjust_len (by omega)]
theorem sum_lines : ∀ as : List Pt, (∀ u ∈ as, (lineP u).length = 38) → ((as.map lineP).map fun x => x.length).sum = as.length * 38
  | [], _ => rfl
  | a :: as, h => by
    have e := sum_lines as fun u hu => h u (List.mem_cons_of_mem _ hu)
    have e1 := h a (List.mem_cons_self ..)
    rw [List.map_cons, List.map_cons, List.sum_cons, e, e1, List.length_cons]
    omega
/-! ### a number with commas -/
def digL (n : Nat) : List Nat := (Nat.toDigits 10 n).map Char.toNat
theorem str_nat (n : Nat) : Str.ofString (toString ((n : Nat) : Int)) = ⟨(digL n).toArray⟩ := by
  show Str.ofString (Nat.repr n) = _
  unfold digL
  first
    | (simp [Str.ofString_eq_toList, Nat.repr]; done)
    | (rw [Str.ofString_eq_toList]; unfold Nat.repr; simp; done)
theorem digL_pos (n : Nat) : 1 ≤ (digL n).length := by
  unfold digL
  rw [List.length_map]
  exact tDigits_len_ge 10 n
theorem digL_le {n k : Nat} (hk : 1 ≤ k) (h : n < 10 ^ k) : (digL n).length ≤ k := by
  unfold digL
  rw [List.length_map]
  exact toDigits_len_pow (by decide) hk h
theorem grp_step (t : Nat) (w : List Nat) (room : Int) (f : List Nat) (r0 : room ≤ 0) (h : 3 < w.length) : groupsFromRight' 3 44 (t + 1) w.reverse room f = groupsFromRight' 3 44 t (w.take (w.length - 3)).reverse (room - 3 - 1) (44 :: (w.drop (w.length - 3) ++ f)) := by
  have n3 : min 3 (max (max (w.reverse.length : Int) room) 1).toNat = 3 := by
    rw [List.length_reverse]
    omega
  have e1 : (w.reverse.take 3).reverse = w.drop (w.length - 3) := by rw [List.take_reverse, List.reverse_reverse]
  have e2 : w.reverse.drop 3 = (w.take (w.length - 3)).reverse := by rw [List.drop_reverse]
  have ne : (w.reverse.drop 3).isEmpty = false := by
    rw [e2, List.isEmpty_eq_false_iff]
    intro z
    have := congrArg List.length z
    rw [List.length_reverse, List.length_take] at this
    simp at this
    omega
  rw [groupsFromRight']
  rw [n3, ne, List.length_reverse, show 3 - w.length = 0 by omega, List.replicate_zero, List.nil_append, e1, e2]
  rfl
theorem grp_end (t : Nat) (w : List Nat) (room : Int) (f : List Nat) (r0 : room ≤ 0) (h : w.length ≤ 3) (h0 : 0 < w.length) : groupsFromRight' 3 44 (t + 1) w.reverse room f = w ++ f := by
  have nl : min 3 (max (max (w.reverse.length : Int) room) 1).toNat = w.length := by
    rw [List.length_reverse]
    omega
  have e1 : (w.reverse.take w.length).reverse = w := by rw [← List.length_reverse, List.take_length, List.reverse_reverse]
  have ne : (w.reverse.drop w.length).isEmpty = true := by rw [← List.length_reverse, List.drop_length]; rfl
  rw [groupsFromRight']
  rw [nl, ne, List.length_reverse, Nat.sub_self, List.replicate_zero, List.nil_append, e1, if_pos]
  rw [Bool.true_and, decide_eq_true_eq]
  omega
theorem commaS_eq (n : Nat) : commaS ((n : Nat) : Int) = ⟨(groupsFromRight' 3 44 ((digL n).length + 1) (digL n).reverse 0 []).toArray⟩ := by
  have en : (((n : Nat) : Int)).natAbs = n := Int.natAbs_natCast n
  have es : decide (((n : Nat) : Int) < 0) = false := decide_eq_false (by omega)
  have ed : ((Nat.toDigits 10 n).map fun c => (if (100 : Nat) == 88 then c.toUpper else c).toNat) = digL n := rfl
  unfold commaS
  rw [en, es, ed]
  have ne : (digL n).isEmpty = false := by
    rw [List.isEmpty_eq_false_iff]
    intro z
    have := digL_pos n
    rw [z] at this
    cases this
  unfold intField'
  simp [fC, ne]
def sp_grouped : Sp := fun vs H Q _ => ∃ n : Nat, vs = [.int (n : Nat)] ∧ n < 10 ^ 30 ∧ Q (.str (commaS (n : Nat))) H
theorem cut_back {z : Str} {w : List Nat} (e : z.cps.toList = w) (h : 3 < w.length) : cutS z (some (-3)) Option.none = ⟨(w.drop (w.length - 3)).toArray⟩ := by
  have l : z.length = w.length := by
    rw [← e, Array.length_toList]
    rfl
  unfold cutS
  rw [e, l]
  have h1 : HT.sIx w.length 0 (some (-3)) = w.length - 3 := by
    show (if (-3 : Int) < 0 then ((-3 : Int) + (w.length : Int)).toNat else min (-3 : Int).toNat w.length) = _
    rw [if_pos (by decide)]
    omega
  have h2 : HT.sIx w.length w.length Option.none = w.length := rfl
  rw [h1, h2, List.take_of_length_le (by rw [List.length_drop]; omega)]
theorem cut_front {z : Str} {w : List Nat} (e : z.cps.toList = w) (h : 3 < w.length) : cutS z Option.none (some (-3)) = ⟨(w.take (w.length - 3)).toArray⟩ := by
  have l : z.length = w.length := by
    rw [← e, Array.length_toList]
    rfl
  unfold cutS
  rw [e, l]
  have h1 : HT.sIx w.length w.length (some (-3)) = w.length - 3 := by
    show (if (-3 : Int) < 0 then ((-3 : Int) + (w.length : Int)).toNat else min (-3 : Int).toNat w.length) = _
    rw [if_pos (by decide)]
    omega
  have h2 : HT.sIx w.length 0 Option.none = 0 := rfl
  rw [h1, h2, List.drop_zero, Nat.sub_zero]
theorem log_small {n : Nat} (h : n < 10 ^ 30) : (((n : Nat) : Int)).natAbs.log2 < 1920 := by
  rw [Int.natAbs_natCast]
  by_cases z : n = 0
  · subst z
    decide
  · have : n < 2 ^ 100 := Nat.lt_trans h (by decide)
    have := (Nat.log2_lt z).mpr this
    omega
theorem str_ext {a b : Str} (h : a.cps.toList = b.cps.toList) : a = b := by
  cases a
  cases b
  congr
  exact Array.toList_inj.mp h
theorem len_arr (l : List Nat) : (⟨l.toArray⟩ : Str).length = l.length := by
  show l.toArray.size = _
  rw [List.size_toArray]
theorem app_list (a b : Str) : (a ++ b).cps.toList = a.cps.toList ++ b.cps.toList := by
  show (a.cps ++ b.cps).toList = _
  rw [Array.toList_append]
section
variable {P : Program} {w : World} {K : PySem.W.Frag} {mg : Str → Option Value} {base : Heap}
theorem ok_grouped (T : Txt K mg) : FnOk P w K mg base (L2.CX P w) 1 T.law_grouped.f T.law_grouped.fd ["_law_number"] sp_grouped := by
  refine T.law_grouped.F.okX sc_law_grouped (fun vs H Q E h => ?_) (fun cdv A outer s H vs Q E hr h => ?_)
  · obtain ⟨n, rfl, _⟩ := h
    rfl
  · obtain ⟨n, rfl, n30, k⟩ := h
    refine ⟨_, (pss_cons (ps_par (i := 1) (j := 2) rfl sc_law_grouped.nd rfl rfl (by decide) rfl rfl (pa_cons (pe_callTy call_str_int (by rfl) T.n_str (by decide +kernel) (pa_cons (pv 0) pa_nil)) (pa_cons pe_str pa_nil)) (by rfl))
  (pss_cons (ps_while (passes_of rfl) (pt_cmpR op_gt (pe_callB call_len_str (by rfl) T.n_len (by decide +kernel) (pa_cons (pv 1) pa_nil)) pe_int (nomark _))
    (pss_cons (ps_set (i := 2) sc_law_grouped.nd rfl (Or.inl rfl) (pe_op op_add_str (pe_op op_add_str pe_str (pe_slice sl_str (pv 1) (po_some (pe_un un_neg pe_int)) po_none)) (pv 2)))
  (pss_one (ps_set (i := 1) sc_law_grouped.nd rfl (Or.inl rfl) (pe_slice sl_str (pv 1) po_none (po_some (pe_un un_neg pe_int)))))))
  (pss_one (ps_ret (pe_op op_add_str (pv 1) (pv 2)))))), ?_⟩
    walk_at "rt"
    have d30 : (digL n).length ≤ 30 := digL_le (by decide) n30
    refine ⟨log_small n30, fun m σ H' => ∃ (z f : Str) (t : Nat) (room : Int), σ = [some (.int (n : Nat)), some (.str z), some (.str f)] ∧ H' = H ∧ m = z.length ∧ z.length < t ∧ room ≤ 0 ∧ 0 < z.length ∧ z.length ≤ 30 ∧ f.length + 2 * z.length ≤ 100 ∧ groupsFromRight' 3 44 t z.cps.toList.reverse room f.cps.toList = groupsFromRight' 3 44 ((digL n).length + 1) (digL n).reverse 0 [], ⟨_, Str.ofString (toString ((n : Nat) : Int)), Str.ofString "", (digL n).length + 1, 0, rfl, rfl, rfl, ?_, by decide, ?_, ?_, ?_, ?_⟩, ?_⟩
    · rw [str_nat]
      show (digL n).toArray.size < _
      rw [List.size_toArray]
      omega
    · rw [str_nat]
      show 0 < (digL n).toArray.size
      rw [List.size_toArray]
      exact digL_pos n
    · rw [str_nat]
      show (digL n).toArray.size ≤ _
      rw [List.size_toArray]
      exact d30
    · rw [str_nat]
      show 0 + 2 * (digL n).toArray.size ≤ 100
      rw [List.size_toArray]
      omega
    · rw [str_nat]
      rfl
    · rintro m σ H1 ⟨z, f, t, room, rfl, rfl, rfl, zt, r0, z0, z30, fz, eq⟩
      have zl : z.cps.toList.length = z.length := by rw [Array.length_toList]; rfl
      have fl : f.cps.toList.length = f.length := by rw [Array.length_toList]; rfl
      have sl : ∀ k : Nat, k ≤ 200 → k ≤ sizeLine := fun k h => Nat.le_trans h (by decide)
      walk_at "rt"
      refine ⟨sl _ (by omega), ?_⟩
      by_cases c : (3 : Int) < ((z.length : Nat) : Int)
      · rw [if_pos c]
        refine ⟨_, fun σ' H' h => h, ?_⟩
        obtain ⟨t, rfl⟩ : ∃ t', t = t' + 1 := ⟨t - 1, by omega⟩
        have w3 : 3 < z.cps.toList.length := by omega
        have l1 : (⟨(z.cps.toList.drop (z.cps.toList.length - 3)).toArray⟩ : Str).length = 3 := by
          rw [len_arr, List.length_drop]
          omega
        have l2 : (⟨(z.cps.toList.take (z.cps.toList.length - 3)).toArray⟩ : Str).length = z.length - 3 := by
          rw [len_arr, List.length_take]
          omega
        have l0 : (Str.ofString ",").length = 1 := by decide
        refine ⟨z, rfl, sl _ (by omega), ?_⟩
        rw [cut_back rfl w3]
        refine ⟨_, rfl, sl _ (by omega), sl _ (by rw [str_app_len]; omega), z, rfl, sl _ (by omega), ?_⟩
        rw [cut_front rfl w3]
        refine ⟨_, ?_, _, _, rfl, rfl, rfl, t, by omega, room - 3 - 1, by omega, by omega, by omega, ?_, ?_⟩
        · omega
        · rw [str_app_len, str_app_len]
          omega
        · rw [← eq, grp_step t _ room _ r0 w3, app_list, app_list]
          rfl
      · rw [if_neg c]
        refine ⟨sl _ (by omega), ?_⟩
        obtain ⟨t, rfl⟩ : ∃ t', t = t' + 1 := ⟨t - 1, by omega⟩
        rw [grp_end t _ room _ r0 (by omega) (by omega)] at eq
        have e : z ++ f = commaS ((n : Nat) : Int) := by
          rw [commaS_eq, ← eq]
          refine str_ext ?_
          rw [app_list]
        rw [e]
        exact k
end
end K47
namespace K47
open PySem PySem.Spec PyProof.Rows L2 StX ClX My
local macro_rules | `(tactic| walk_at "rd") => `(tactic| try simp only [L2.start, List.map_cons, List.map_nil, List.length_cons, List.length_nil, List.cons_append, List.nil_append, List.reduceReplicate, List.replicate_zero, Nat.reduceAdd, Nat.reduceSub,
  List.getElem?_cons_zero, List.getElem?_cons_succ, List.set_cons_zero, List.set_cons_succ, Option.some.injEq, exists_eq_left', exists_eq_left, exists_eq_right, exists_eq_right', V.int.injEq, V.bl.injEq, V.str.injEq, V.ref.injEq, V.ty.injEq, List.cons.injEq, and_true, true_and, and_assoc,
  exists_and_left, exists_const, tVar, tC, tB, tAnd, tOr, tNot, tAndV, tOrV, tNotV, tIf, tSeq, tNext, iStr, iEnumT, iZip, RZ.iZipA, iRev, iList, iTup, iRng1, iRng2, tLc_eq, tDc_eq, tFor_eq, tYes, wipe, tBreak, tCont, tDrop, tRet, tRetN, tIfS, gName, gNil, gCons, gTup, tAsg, tPar, tOp, tUn, rI, rI0, rU, tTest, tChain, tNil, tCons, tTup, tLst, tCB, tFld_eq, tCVal_eq, tProp_eq, tMeth_eq, tMethR_eq, tCMeth, tMakeSL, tDNotIn, tDGet_eq, tDSetd, tDIn_eq, sDPut_eq, tNever, tMakeR_eq, tCKw_eq, tDNewK, tDNewT, tWhile, gSub_eq, tBM_eq, sFld, tPart, tNoPart, tSl, cx_K, cx_w, tCall, cx_K, tCall,
  Bool.false_eq_true, if_true, if_false, ite_true, ite_false, Bool.not_true, Bool.not_false, reduceIte, decide_eq_true_eq, eq_self_iff_true, reduceCtorEq, false_and, and_false, exists_false])
local macro_rules | `(tactic| walk_at "go") => `(tactic| (repeat (first | refine ixT_of (by assumption) (by rfl) ?_ | refine eqI_of ?_ | refine eqS_of ?_ | refine neI_of ?_); try walk_at "rd"))
/-! ### the checks, told of right and wrong values: E, what they let out -/
def sp_check_address_x (CA : Addr) : Sp := fun vs H Q E => ∃ v t, vs = [v] ∧ Kd H v t ∧ (adrB v = true → ∀ H', Same H H' → Q .non H') ∧ (adrB v = false → ∀ H', Same H H' → E (.ref CA) none H')
def sp_check_day_x (CD : Addr) : Sp := fun vs H Q E => ∃ v t, vs = [v] ∧ Kd H v t ∧ (numB v 0 dayM = true → Q .non H) ∧ (numB v 0 dayM = false → E (.ref CD) none H)
def sp_check_letter_x (CA CD : Addr) : Sp := fun vs H Q E => ∃ v t d u, vs = [v, d] ∧ Kd H v t ∧ Kd H d u ∧ (adrB v = true → numB d 0 dayM = true → ∀ H', Same H H' → Q .non H') ∧ (adrB v = false → ∀ H', Same H H' → E (.ref CA) none H') ∧ (adrB v = true → numB d 0 dayM = false → ∀ H', Same H H' → E (.ref CD) none H')
theorem kd_same {H H' : Hp} {v : V} {t : String} (k : Kd H v t) (s : Same H H') : Kd H' v t := by
  cases k with
  | non => exact .non
  | bl b => exact .bl b
  | int i => exact .int i
  | str x h => exact .str x h
  | tup h => exact .tup (s _ _ h)
  | lst h => exact .lst (s _ _ h)
/-- a pair: its address and day, right or wrong -/
def PairAt (H : Hp) (l : Addr) (v d : V) : Prop := H l = some (.tup [v, d]) ∧ ∃ t u, Kd H v t ∧ Kd H d u
theorem PairAt.up {H H' : Hp} {l : Addr} {v d : V} (h : PairAt H l v d) (s : Same H H') : PairAt H' l v d := by
  obtain ⟨h1, t, u, h2, h3⟩ := h
  exact ⟨s _ _ h1, t, u, kd_same h2 s, kd_same h3 s⟩
def sp_check_pair_x (CA CD : Addr) : Sp := fun vs H Q E => ∃ l v d, vs = [.ref l] ∧ PairAt H l v d ∧ (adrB v = true → numB d 0 dayM = true → ∀ H', Same H H' → Q .non H') ∧ (adrB v = false → ∀ H', Same H H' → E (.ref CA) none H') ∧ (adrB v = true → numB d 0 dayM = false → ∀ H', Same H H' → E (.ref CD) none H')
/-- a wrong pair: its fault -/
def BadP (CA CD : Addr) (v d : V) (c : Addr) : Prop := (adrB v = false ∧ c = CA) ∨ (adrB v = true ∧ numB d 0 dayM = false ∧ c = CD)
def sp_meeting_x (CA CD : Addr) : Sp := fun vs H Q E => ∃ (b : V) (l1 l2 : V) (a1 a2 : Addr) (v1 d1 v2 d2 : V) (c : Addr), vs = [b, .ref a1, .ref a2] ∧ PairAt H a1 v1 d1 ∧ PairAt H a2 v2 d2 ∧ (BadP CA CD v1 d1 c ∨ (adrB v1 = true ∧ numB d1 0 dayM = true ∧ BadP CA CD v2 d2 c)) ∧ ∀ H', Same H H' → E (.ref c) none H'
section
variable {P : Program} {w : World} {K : PySem.W.Frag} {mg : Str → Option Value} {base : Heap}
theorem ok_check_address_x (T : Txt K mg) : FnOk P w K mg base (L2.CX P w) 2 T.check_address.f T.check_address.fd ["address"] (sp_check_address_x T.e_InvalidAddress.C) := by
  have G_is_address := ok_is_address (P := P) (w := w) (base := base) T
  refine T.check_address.F.okX sc_check_address (fun vs H Q E h => ?_) (fun cdv A outer s H vs Q E hr h => ?_)
  · obtain ⟨v, t, rfl, _⟩ := h
    rfl
  · obtain ⟨v, t, rfl, kd, q1, q2⟩ := h
    refine ⟨_, (pss_one (ps_if (pt_not (pt_val (pe_call G_is_address (hr.mono (by first | decide | omega)) rfl T.is_address.mg T.is_address.F.kp T.is_address.b .nil passF (pa_cons (pv 0) pa_nil))))
    (pss_one (ps_err T.e_InvalidAddress rfl (takes_of rfl rfl rfl rfl) (by rfl)))
    pss_nil)), ?_⟩
    walk_at "rd"
    refine ⟨v, t, rfl, kd, fun H' s' => ?_⟩
    refine ⟨_, rfl, ?_⟩
    cases c : adrB v with
    | true =>
      rw [if_neg (by decide)]
      exact q1 c H' s'
    | false =>
      rw [if_pos (by decide)]
      exact q2 c H' s'
theorem ok_check_day_x (T : Txt K mg) : FnOk P w K mg base (L2.CX P w) 3 T.check_day.f T.check_day.fd ["day"] (sp_check_day_x T.e_InvalidDay.C) := by
  have G_is_day := ok_is_day (P := P) (w := w) (base := base) T
  refine T.check_day.F.okX sc_check_day (fun vs H Q E h => ?_) (fun cdv A outer s H vs Q E hr h => ?_)
  · obtain ⟨v, t, rfl, _⟩ := h
    rfl
  · obtain ⟨v, t, rfl, kd, q1, q2⟩ := h
    refine ⟨_, (pss_one (ps_if (pt_not (pt_val (pe_call G_is_day (hr.mono (by first | decide | omega)) rfl T.is_day.mg T.is_day.F.kp T.is_day.b .nil passF (pa_cons (pv 0) pa_nil))))
    (pss_one (ps_err T.e_InvalidDay rfl (takes_of rfl rfl rfl rfl) (by rfl)))
    pss_nil)), ?_⟩
    walk_at "rd"
    refine ⟨v, t, rfl, kd, _, rfl, ?_⟩
    cases c : numB v 0 dayM with
    | true =>
      rw [if_neg (by decide)]
      exact q1 c
    | false =>
      rw [if_pos (by decide)]
      exact q2 c
theorem ok_check_letter_x (T : Txt K mg) : FnOk P w K mg base (L2.CX P w) 4 T.check_letter.f T.check_letter.fd ["address", "day"] (sp_check_letter_x T.e_InvalidAddress.C T.e_InvalidDay.C) := by
  have G_check_address_x := ok_check_address_x (P := P) (w := w) (base := base) T
  have G_check_day_x := ok_check_day_x (P := P) (w := w) (base := base) T
  refine T.check_letter.F.okX sc_check_letter (fun vs H Q E h => ?_) (fun cdv A outer s H vs Q E hr h => ?_)
  · obtain ⟨v, t, d, u, rfl, _⟩ := h
    rfl
  · obtain ⟨v, t, d, u, rfl, k1, k2, q1, q2, q3⟩ := h
    refine ⟨_, (pss_cons (ps_expr (pe_call G_check_address_x (hr.mono (by first | decide | omega)) rfl T.check_address.mg T.check_address.F.kp T.check_address.b .nil (passes_call (takes_of rfl rfl rfl rfl) (fun _ _ _ _ h => h)) (pa_cons (pv 0) pa_nil)))
  (pss_one (ps_expr (pe_call G_check_day_x (hr.mono (by first | decide | omega)) rfl T.check_day.mg T.check_day.F.kp T.check_day.b .nil (passes_call (takes_of rfl rfl rfl rfl) (fun _ _ _ _ h => h)) (pa_cons (pv 1) pa_nil))))), ?_⟩
    walk_at "rd"
    refine ⟨v, t, rfl, k1, fun c H' s' => ⟨d, u, rfl, kd_same k2 s', fun c2 => ?_, fun c2 => ?_⟩, fun c H' s' => ?_⟩
    · exact q1 c c2 H' s'
    · exact q3 c c2 H' s'
    · exact q2 c H' s'
end
end K47
namespace K47
open PySem PySem.Spec PyProof.Rows L2 StX ClX My
local macro_rules | `(tactic| walk_at "rd") => `(tactic| try simp only [L2.start, List.map_cons, List.map_nil, List.length_cons, List.length_nil, List.cons_append, List.nil_append, List.reduceReplicate, List.replicate_zero, Nat.reduceAdd, Nat.reduceSub,
  List.getElem?_cons_zero, List.getElem?_cons_succ, List.set_cons_zero, List.set_cons_succ, Option.some.injEq, exists_eq_left', exists_eq_left, exists_eq_right, exists_eq_right', V.int.injEq, V.bl.injEq, V.str.injEq, V.ref.injEq, V.ty.injEq, List.cons.injEq, and_true, true_and, and_assoc,
  exists_and_left, exists_const, tVar, tC, tB, tAnd, tOr, tNot, tAndV, tOrV, tNotV, tIf, tSeq, tNext, iStr, iEnumT, iZip, RZ.iZipA, iRev, iList, iTup, iRng1, iRng2, tLc_eq, tDc_eq, tFor_eq, tYes, wipe, tBreak, tCont, tDrop, tRet, tRetN, tIfS, gName, gNil, gCons, gTup, tAsg, tPar, tOp, tUn, rI, rI0, rU, tTest, tChain, tNil, tCons, tTup, tLst, tCB, tFld_eq, tCVal_eq, tProp_eq, tMeth_eq, tMethR_eq, tCMeth, tMakeSL, tDNotIn, tDGet_eq, tDSetd, tDIn_eq, sDPut_eq, tNever, tMakeR_eq, tCKw_eq, tDNewK, tDNewT, tWhile, gSub_eq, tBM_eq, sFld, tPart, tNoPart, tSl, cx_K, cx_w, tCall, cx_K, tCall,
  Bool.false_eq_true, if_true, if_false, ite_true, ite_false, Bool.not_true, Bool.not_false, reduceIte, decide_eq_true_eq, eq_self_iff_true, reduceCtorEq, false_and, and_false, exists_false])
local macro_rules | `(tactic| walk_at "go") => `(tactic| (repeat (first | refine ixT_of (by assumption) (by rfl) ?_ | refine eqI_of ?_ | refine eqS_of ?_ | refine neI_of ?_); try walk_at "rd"))
local macro_rules | `(tactic| walk_at "gn") => `(tactic| ((try simp only [tGThen, tPlain, tGFor_eq, tGYield, GEnds.at, tG0, gcx_K, tDNotIn, tListG, tCallG]); (walk_at "rd"); (try simp only [tGThen, tPlain, tGFor_eq, tGYield, GEnds.at, tG0, gcx_K, tDNotIn, tListG, tCallG]); (walk_at "rd")))
/-! ### letters, told of wrong arguments -/
/-- a wrong address or day -/
def BadL (CA CD : Addr) (v d : V) (c : Addr) : Prop := (adrB v = false ∧ c = CA) ∨ (adrB v = true ∧ numB d 0 dayM = false ∧ c = CD)
def sp_letter_x (CA CD : Addr) : Sp := fun vs H Q E => ∃ b v t d u c, vs = [b, v, d] ∧ Kd H v t ∧ Kd H d u ∧ BadL CA CD v d c ∧ ∀ H', Same H H' → E (.ref c) none H'
def sp_number_x (CN : Addr) : Sp := fun vs H Q E => ∃ (v : V) (t : String) (lo hi : Int), vs = [v, .int lo, .int hi] ∧ Kd H v t ∧ (numB v lo hi = true → Q .non H) ∧ (numB v lo hi = false → E (.ref CN) none H)
def sp_route_x (CA CD CN : Addr) : SpG := fun vs H Q E => ∃ b v t d u n r c, vs = [b, v, d, n] ∧ Kd H v t ∧ Kd H d u ∧ Kd H n r ∧ (BadL CA CD v d c ∨ (adrB v = true ∧ numB d 0 dayM = true ∧ numB n 0 1000 = false ∧ c = CN)) ∧ ∀ H', Same H H' → E (.ref c) none H'
section
variable {P : Program} {w : World} {K : PySem.W.Frag} {mg : Str → Option Value} {base : Heap}
theorem ok_check_number_x (T : Txt K mg) : FnOk P w K mg base (L2.CX P w) 2 T.check_number.f T.check_number.fd ["number", "low", "high"] (sp_number_x T.e_InvalidNumber.C) := by
  have G_is_number := ok_is_number (P := P) (w := w) (base := base) T
  refine T.check_number.F.okX sc_check_number (fun vs H Q E h => ?_) (fun cdv A outer s H vs Q E hr h => ?_)
  · obtain ⟨v, t, lo, hi, rfl, _⟩ := h
    rfl
  · obtain ⟨v, t, lo, hi, rfl, kd, q1, q2⟩ := h
    refine ⟨_, (pss_one (ps_if (pt_not (pt_val (pe_call G_is_number (hr.mono (by first | decide | omega)) rfl T.is_number.mg T.is_number.F.kp T.is_number.b .nil passF (pa_cons (pv 0) (pa_cons (pv 1) (pa_cons (pv 2) pa_nil))))))
    (pss_one (ps_err T.e_InvalidNumber rfl (takes_of rfl rfl rfl rfl) (by rfl)))
    pss_nil)), ?_⟩
    walk_at "rd"
    refine ⟨_, _, _, _, rfl, kd, _, rfl, ?_⟩
    cases c : numB v lo hi with
    | true =>
      rw [if_neg (by decide)]
      exact q1 c
    | false =>
      rw [if_pos (by decide)]
      exact q2 c
theorem ok_route_x (T : Txt K mg) : GFn P w K mg base 8 T.route.f T.route.fd ["book", "address", "day", "count"] (sp_route_x T.e_InvalidAddress.C T.e_InvalidDay.C T.e_InvalidNumber.C) := by
  have G_check_letter_x := ok_check_letter_x (P := P) (w := w) (base := base) T
  have G_check_number_x := ok_check_number_x (P := P) (w := w) (base := base) T
  have G_holding := ok_holding (P := P) (w := w) (base := base) T
  obtain ⟨oc, od, kV, doc, pm, an, cdv, ct, osl, efd, lk, hcd⟩ := T.route.F.ex
  rw [efd] at lk ⊢
  refine gfn_of lk hcd sc_route (fun vs H Q E h => ?_) (fun A outer s H vs Q E pn hr h => ?_)
  · obtain ⟨b, v, t, d, u, n, r, c, rfl, _⟩ := h
    rfl
  · obtain ⟨b, v, t, d, u, n, r, c, rfl, k1, k2, k3, bad, k⟩ := h
    refine ⟨_, (gss_cons (gs_ps ((ps_expr (pe_call G_check_letter_x (hr.mono (by first | decide | omega)) rfl T.check_letter.mg T.check_letter.F.kp T.check_letter.b .nil (passes_call takes_gcx (fun _ _ _ _ h => h)) (pa_cons (pv 1) (pa_cons (pv 2) pa_nil))))))
  (gss_cons (gs_ps ((ps_expr (pe_call G_check_number_x (hr.mono (by first | decide | omega)) rfl T.check_number.mg T.check_number.F.kp T.check_number.b .nil (passes_call takes_gcx (fun _ _ _ _ h => h)) (pa_cons (pv 3) (pa_cons pe_int (pa_cons (pe_gI T.i_MAX_ARRIVALS) pa_nil)))))))
  (gss_cons (gs_for (passes_of rfl) rfl (pi_range1 (by rfl) T.n_range (pa_cons (pv 3) pa_nil)) (pg_name (i := 4) sc_route.nd rfl (Or.inl rfl))
    (gss_cons (gs_yield (pe_tup (pa_cons (pv 1) (pa_cons (pv 2) pa_nil))))
  (gss_cons (gs_ps ((ps_asg (pe_call G_holding (hr.mono (by first | decide | omega)) rfl T.holding.mg T.holding.F.kp T.holding.b .nil passF (pa_cons (pv 0) (pa_cons (pv 2) pa_nil))) (pg_tupK (K := K) (n := 2) rfl rfl (pgs_cons (pg_name (i := 5) sc_route.nd rfl (Or.inl rfl)) (pgs_cons (pg_name (i := 4) sc_route.nd rfl (Or.inl rfl)) pgs_nil))))))
  (gss_cons (gs_ps ((ps_if (pt_cmp (pc_dnotin (hu_of hr) (pv 1) (pv 5)))
    (pss_one (ps_retN))
    pss_nil)))
  (gss_cons (gs_ps ((ps_asg (pe_dget (hu_of hr) (pv 5) (pv 1) (fun _ _ => rfl)) (pg_tupK (K := K) (n := 3) rfl rfl (pgs_cons (pg_name (i := 1) sc_route.nd rfl (Or.inl rfl)) (pgs_cons (pg_name (i := 6) sc_route.nd rfl (Or.inl rfl)) (pgs_cons (pg_name (i := 4) sc_route.nd rfl (Or.inl rfl)) pgs_nil)))))))
  (gss_cons (gs_ps ((ps_set (i := 2) sc_route.nd rfl (Or.inl rfl) (pe_op op_add (pv 2) (pv 6)))))
  gss_nil))))))
  gss_nil))), ?_⟩
    walk_at "gn"
    refine ⟨v, t, d, u, rfl, k1, k2, fun c1 c2 H' s' => ?_, fun c1 H' s' => ?_, fun c1 c2 H' s' => ?_⟩
    · refine ⟨n, r, 0, _, rfl, kd_same k3 s', fun c3 => ?_, fun c3 => ?_⟩
      · rcases bad with (⟨z, _⟩ | ⟨_, z, _⟩) | ⟨_, _, z, _⟩ <;> simp_all
      · rcases bad with (⟨z, _⟩ | ⟨_, z, _⟩) | ⟨_, _, _, rfl⟩
        · simp_all
        · simp_all
        · exact k H' s'
    · rcases bad with (⟨_, rfl⟩ | ⟨z, _, _⟩) | ⟨z, _⟩
      · exact k H' s'
      · simp_all
      · simp_all
    · rcases bad with (⟨z, _⟩ | ⟨_, _, rfl⟩) | ⟨_, z, _⟩
      · simp_all
      · exact k H' s'
      · simp_all
end
end K47
namespace K47
open PySem PySem.Spec PyProof.Rows L2 StX ClX My
local macro_rules | `(tactic| walk_at "rd") => `(tactic| try simp only [L2.start, List.map_cons, List.map_nil, List.length_cons, List.length_nil, List.cons_append, List.nil_append, List.reduceReplicate, List.replicate_zero, Nat.reduceAdd, Nat.reduceSub,
  List.getElem?_cons_zero, List.getElem?_cons_succ, List.set_cons_zero, List.set_cons_succ, Option.some.injEq, exists_eq_left', exists_eq_left, exists_eq_right, exists_eq_right', V.int.injEq, V.bl.injEq, V.str.injEq, V.ref.injEq, V.ty.injEq, List.cons.injEq, and_true, true_and, and_assoc,
  exists_and_left, exists_const, tVar, tC, tB, tAnd, tOr, tNot, tAndV, tOrV, tNotV, tIf, tSeq, tNext, iStr, iEnumT, iZip, RZ.iZipA, iRev, iList, iTup, iRng1, iRng2, tLc_eq, tDc_eq, tFor_eq, tYes, wipe, tBreak, tCont, tDrop, tRet, tRetN, tIfS, gName, gNil, gCons, gTup, tAsg, tPar, tOp, tUn, rI, rI0, rU, tTest, tChain, tNil, tCons, tTup, tLst, tCB, tFld_eq, tCVal_eq, tProp_eq, tMeth_eq, tMethR_eq, tCMeth, tMakeSL, tDNotIn, tDGet_eq, tDSetd, tDIn_eq, sDPut_eq, tNever, tMakeR_eq, tCKw_eq, tDNewK, tDNewT, tWhile, gSub_eq, tBM_eq, sFld, tPart, tNoPart, tSl, cx_K, cx_w, tCall, cx_K, tCall,
  Bool.false_eq_true, if_true, if_false, ite_true, ite_false, Bool.not_true, Bool.not_false, reduceIte, decide_eq_true_eq, eq_self_iff_true, reduceCtorEq, false_and, and_false, exists_false])
local macro_rules | `(tactic| walk_at "go") => `(tactic| (repeat (first | refine ixT_of (by assumption) (by rfl) ?_ | refine eqI_of ?_ | refine eqS_of ?_ | refine neI_of ?_); try walk_at "rd"))
local macro_rules | `(tactic| walk_at "r2") => `(tactic| ((walk_at "rd"); (try simp only [tPar3, tDGet2]); (walk_at "rd")))

local macro_rules | `(tactic| walk_at "rl") => `(tactic| ((walk_at "r2"); (try simp only [tLstRg, tRg1, tRg2]); (walk_at "r2")))
local macro_rules | `(tactic| walk_at "gn") => `(tactic| ((try simp only [tGThen, tPlain, tGFor_eq, tGYield, GEnds.at, tG0, gcx_K, tDNotIn, tListG, tCallG]); (walk_at "rd"); (try simp only [tGThen, tPlain, tGFor_eq, tGYield, GEnds.at, tG0, gcx_K, tDNotIn, tListG, tCallG]); (walk_at "rd")))
local macro_rules | `(tactic| walk_at "rm") => `(tactic| ((walk_at "rl"); (try simp only [tSumVals, tDisp, tPairs, tLock, iKeys]); (walk_at "rl")))
local macro_rules | `(tactic| walk_at "rt") => `(tactic| ((walk_at "rm"); (try simp only [tM1, tFmtC, tListG, tCallG]); (walk_at "rm")))
/-! ### travel lists of far days -/
theorem grp_len : ∀ (k t : Nat) (w : List Nat) (room : Int) (f : List Nat), w.length = k → room ≤ 0 → w.length < t → 0 < w.length → (groupsFromRight' 3 44 t w.reverse room f).length ≤ f.length + 2 * w.length := by
  intro k
  induction k using Nat.strongRecOn with
  | _ k ih =>
    intro t w room f e r0 wt w0
    obtain ⟨t, rfl⟩ : ∃ t', t = t' + 1 := ⟨t - 1, by omega⟩
    by_cases c : 3 < w.length
    · rw [grp_step t w room f r0 c]
      have l1 : (w.take (w.length - 3)).length = w.length - 3 := by
        rw [List.length_take]
        omega
      have l2 : (44 :: (w.drop (w.length - 3) ++ f)).length = 4 + f.length := by
        rw [List.length_cons, List.length_append, List.length_drop]
        omega
      have := ih (w.length - 3) (by omega) t _ (room - 3 - 1) (44 :: (w.drop (w.length - 3) ++ f)) l1 (by omega) (by omega) (by omega)
      omega
    · rw [grp_end t w room f r0 (by omega) w0, List.length_append]
      omega
theorem commaS_len {n : Nat} (h : n < 10 ^ 30) : (commaS ((n : Nat) : Int)).length ≤ 60 := by
  rw [commaS_eq, len_arr]
  have := grp_len _ ((digL n).length + 1) (digL n) 0 [] rfl (by decide) (by omega) (digL_pos n)
  have := digL_le (by decide) h
  rw [List.length_nil] at *
  omega
theorem rjust_le {a : Str} (h : a.length ≤ 60) : (Txt.rjustF a 30 46).length ≤ 60 := by
  rw [len_of_list (rjustF_list a 30 46), List.length_append, List.length_replicate]
  show _ + a.cps.toList.length ≤ 60
  rw [Array.length_toList]
  show 30 - a.length + a.length ≤ 60
  omega
theorem line_le {p : Pt} {m : Nat} (h : adrB (.str p.1) = true) (e : p.2 = (m : Nat)) (l : m < 10 ^ 30) : (lineP p).length ≤ 68 := by
  unfold lineP
  have := rjust_le (commaS_len l)
  rw [str_app_len, ljust_len (adr_len h), e]
  omega
theorem sum_le : ∀ as : List Pt, (∀ u ∈ as, (lineP u).length ≤ 68) → ((as.map lineP).map fun x => x.length).sum ≤ as.length * 68
  | [], _ => Nat.le_refl _
  | a :: as, h => by
    have e := sum_le as fun u hu => h u (List.mem_cons_of_mem _ hu)
    have e1 := h a (List.mem_cons_self ..)
    rw [List.map_cons, List.map_cons, List.sum_cons, List.length_cons]
    omega
def sp_travel_g (C : Addr) : Sp := fun vs H Q _ => ∃ (b : Addr) (os : List Ord) (a : Str) (d : Int) (n : Nat), vs = [.ref b, .str a, .int d, .int (n : Nat)] ∧ BookAt C H b os ∧ OkB os ∧ adrB (.str a) = true ∧ okD d ∧ n ≤ 1000 ∧
  (∀ as, RouteOf os (a, d) n as → as.length ≤ 200 ∧ ∀ u ∈ as, ∃ m : Nat, u.2 = (m : Nat) ∧ m < 10 ^ 30) ∧ ∀ as H', Same H H' → RouteOf os (a, d) n as → Q (.str (Txt.join (Str.ofString "\n") (as.map lineP))) H'
def sp_travel_x (CA CD CN : Addr) : Sp := fun vs H Q E => ∃ b v t d u n r c, vs = [b, v, d, n] ∧ Kd H v t ∧ Kd H d u ∧ Kd H n r ∧ (BadL CA CD v d c ∨ (adrB v = true ∧ numB d 0 dayM = true ∧ numB n 0 1000 = false ∧ c = CN)) ∧ ∀ H', Same H H' → E (.ref c) none H'
section
variable {P : Program} {w : World} {K : PySem.W.Frag} {mg : Str → Option Value} {base : Heap}
theorem ok_travel_g (T : Txt K mg) : FnOk P w K mg base (L2.CX P w) 12 T.travel_list.f T.travel_list.fd ["book", "address", "day", "count"] (sp_travel_g T.Book.C) := by
  have G_route := ok_route (P := P) (w := w) (base := base) T
  refine T.travel_list.F.okX sc_travel_list (fun vs H Q E h => ?_) (fun cdv A outer s H vs Q E hr h => ?_)
  · obtain ⟨b, os, a, d, n, rfl, _⟩ := h
    rfl
  · obtain ⟨b, os, a, d, n, rfl, hb, ok, ha, hd, n1, sh, k⟩ := h
    refine ⟨_, (pss_cons (ps_set (i := 4) sc_travel_list.nd rfl (Or.inl rfl) (pe_listG (pgen_call G_route (hr.mono (by first | decide | omega)) rfl T.route.mg T.route.F.kp T.route.b .nil (pa_cons (pv 0) (pa_cons (pv 1) (pa_cons (pv 2) (pa_cons (pv 3) pa_nil))))) passF (fun _ _ _ h => h.elim) (hr.mono (by first | decide | omega)) rfl T.n_list rfl))
  (pss_one (ps_ret (pe_join pe_str (pe_lc (own := [("place", 5), ("later", 6)]) rfl sc_travel_list.nd (pi_list (pv 4)) (blkOk_by (sc := defScope s_travel_list) (N := ["book", "address", "day", "count", "arrivals", "place", "later"]) (own := [("place", 5), ("later", 6)]) (by decide +kernel)) (fun _ _ _ _ _ => pg_tupK (K := K) (n := 2) rfl rfl (pgs_cons (pg_name (i := 5) sc_travel_list.nd rfl (Or.inl rfl)) (pgs_cons (pg_name (i := 6) sc_travel_list.nd rfl (Or.inl rfl)) pgs_nil))) (fun _ _ _ _ _ => pts_nil) (fun _ _ _ _ _ => (pe_op op_add_str (pe_bmK (K := K) rfl PySem.F.plainAttrs_str PySem.F.slot_str_ljust PySem.F.type_str_ljust mt_ljustF (pv 5) (pa_cons (pe_gI T.i_MAX_LETTERS) (pa_cons pe_str pa_nil))) (pe_bmK (K := K) rfl PySem.F.plainAttrs_str PySem.F.slot_str_rjust PySem.F.type_str_rjust mt_rjustF (pe_joined1 (pe_fmtC (pv 6) (pe_joined1 pe_str))) (pa_cons (pe_gI T.i_DAY_SIGNS) (pa_cons pe_str pa_nil)))))))))), ?_⟩
    walk_at "rt"
    refine ⟨b, os, a, d, n, rfl, hb, ok, ha, hd, n1, fun ps as H1 s1 L R r hr => ⟨⟨_, rfl⟩, ?_⟩⟩
    have s2 := s1.trans (same_new (o := .lst (ps.map V.ref)) hr)
    have L := LetsAt.up (SameN.of (same_new (o := .lst (ps.map V.ref)) hr)) L
    have at1 : (upd H1 r (.lst (ps.map V.ref))) r = some (.lst (ps.map V.ref)) := upd_same
    generalize upd H1 r (.lst (ps.map V.ref)) = H2 at s2 at1 L
    have len := Paired.length L
    obtain ⟨al, far⟩ := sh as R
    have fact : ∀ (i : Nat) (u : Pt), as[i]? = some u → adrB (.str u.1) = true ∧ ∃ m : Nat, u.2 = (m : Nat) ∧ m < 10 ^ 30 := fun i u h => ⟨(R.at_ i u h).adr ok ha, far u (List.mem_of_getElem? h)⟩
    refine ⟨⟨_, SqL.of at1⟩, fun D hD => ?_⟩
    refine comp_rel (walk_list (K := K) (a := r) (xs := ps.map V.ref)) (fun i acc _ => acc = (as.take i).map fun p => V.str (lineP p)) (by rw [List.length_map, len]; omega) hD (fun H8 s8 => SqL.of (s8 _ _ at1)) (fun _ _ _ _ _ h => h) rfl ?_ ?_ ?_
    · rintro i acc H8 rfl
      rw [List.length_map, List.length_take]
      omega
    · rintro i x H8 H9 acc hi s8 rfl ⟨rfl, ex⟩ no yes hn hy
      obtain ⟨q, hq, rfl⟩ := nth_ref ex
      obtain ⟨u, hu, hqu⟩ := Paired.at L hq
      have hqu := s8 _ _ hqu
      obtain ⟨au, m, em, lm⟩ := fact i u hu
      walk_at "rt"
      have ed : (Str.ofString ".").cps.getD 0 0 = 46 := rfl
      have cs := commaS_len lm
      have l1 := ljust_len (adr_len au)
      have l2 := rjust_le cs
      refine ⟨_, SqT.of hqu, rfl, _, _, rfl, _, _, rfl, rfl, rfl, _, rfl, by decide, by decide, u.2, rfl, ?_, ?_, rfl, by decide, by decide, ?_, ?_⟩
      · rw [em]
        exact log_small lm
      · rw [em]
        exact Nat.le_trans cs (by decide)
      · rw [ed, em, l1]
        exact Nat.le_trans (Nat.add_le_add_left l2 8) (by decide)
      · rw [ed]
        refine hy _ _ (Same.refl _) ?_
        rw [take_one hu, List.map_append]
        rfl
    · rintro acc H8 s8 at8 rfl
      rw [List.length_map, len, List.take_length] at at8
      refine ⟨as.map lineP, .inl (SqL.of (by rw [at8, List.map_map]; rfl)), ?_, k as H8 (s2.trans s8) ?_⟩
      · have e := sum_le as fun u hu => by
          obtain ⟨i, hi⟩ := List.getElem?_of_mem hu
          obtain ⟨au, m, em, lm⟩ := fact i u hi
          exact line_le au em lm
        rw [List.length_map]
        have e3 : (Str.ofString "\n").length = 1 := rfl
        rw [e3]
        have sz : 20000 ≤ sizeLine := by decide
        omega
      · exact R
theorem ok_travel_x (T : Txt K mg) : FnOk P w K mg base (L2.CX P w) 12 T.travel_list.f T.travel_list.fd ["book", "address", "day", "count"] (sp_travel_x T.e_InvalidAddress.C T.e_InvalidDay.C T.e_InvalidNumber.C) := by
  have G_route_x := ok_route_x (P := P) (w := w) (base := base) T
  refine T.travel_list.F.okX sc_travel_list (fun vs H Q E h => ?_) (fun cdv A outer s H vs Q E hr h => ?_)
  · obtain ⟨b, v, t, d, u, n, r, c, rfl, _⟩ := h
    rfl
  · obtain ⟨b, v, t, d, u, n, r, c, rfl, k1, k2, k3, bad, k⟩ := h
    refine ⟨_, (pss_cons (ps_set (i := 4) sc_travel_list.nd rfl (Or.inl rfl) (pe_listG (pgen_call (E := fun cls d H' => E cls d H' ∧ PySem.W.subIn K cls (.type "StopIteration") = some false) G_route_x (hr.mono (by first | decide | omega)) rfl T.route.mg T.route.F.kp T.route.b .nil (pa_cons (pv 0) (pa_cons (pv 1) (pa_cons (pv 2) (pa_cons (pv 3) pa_nil))))) (passes_call (takes_of rfl rfl rfl rfl) (fun _ _ _ _ h => h.1)) (fun _ _ _ h => h.2) (hr.mono (by first | decide | omega)) rfl T.n_list rfl))
  (pss_one (ps_ret (pe_join pe_str (pe_lc (own := [("place", 5), ("later", 6)]) rfl sc_travel_list.nd (pi_list (pv 4)) (blkOk_by (sc := defScope s_travel_list) (N := ["book", "address", "day", "count", "arrivals", "place", "later"]) (own := [("place", 5), ("later", 6)]) (by decide +kernel)) (fun _ _ _ _ _ => pg_tupK (K := K) (n := 2) rfl rfl (pgs_cons (pg_name (i := 5) sc_travel_list.nd rfl (Or.inl rfl)) (pgs_cons (pg_name (i := 6) sc_travel_list.nd rfl (Or.inl rfl)) pgs_nil))) (fun _ _ _ _ _ => pts_nil) (fun _ _ _ _ _ => (pe_op op_add_str (pe_bmK (K := K) rfl PySem.F.plainAttrs_str PySem.F.slot_str_ljust PySem.F.type_str_ljust mt_ljustF (pv 5) (pa_cons (pe_gI T.i_MAX_LETTERS) (pa_cons pe_str pa_nil))) (pe_bmK (K := K) rfl PySem.F.plainAttrs_str PySem.F.slot_str_rjust PySem.F.type_str_rjust mt_rjustF (pe_joined1 (pe_fmtC (pv 6) (pe_joined1 pe_str))) (pa_cons (pe_gI T.i_DAY_SIGNS) (pa_cons pe_str pa_nil)))))))))), ?_⟩
    walk_at "rt"
    refine ⟨b, v, t, d, u, n, r, c, rfl, k1, k2, k3, bad, fun H' s' => ⟨k H' s', ?_⟩⟩
    rcases bad with (⟨_, rfl⟩ | ⟨_, _, rfl⟩) | ⟨_, _, _, rfl⟩
    · exact T.s_InvalidAddress
    · exact T.s_InvalidDay
    · exact T.s_InvalidNumber
end
end K47
namespace K47
open PySem PySem.Spec PyProof.Rows L2 StX ClX My
local macro_rules | `(tactic| walk_at "rd") => `(tactic| try simp only [L2.start, List.map_cons, List.map_nil, List.length_cons, List.length_nil, List.cons_append, List.nil_append, List.reduceReplicate, List.replicate_zero, Nat.reduceAdd, Nat.reduceSub,
  List.getElem?_cons_zero, List.getElem?_cons_succ, List.set_cons_zero, List.set_cons_succ, Option.some.injEq, exists_eq_left', exists_eq_left, exists_eq_right, exists_eq_right', V.int.injEq, V.bl.injEq, V.str.injEq, V.ref.injEq, V.ty.injEq, List.cons.injEq, and_true, true_and, and_assoc,
  exists_and_left, exists_const, tVar, tC, tB, tAnd, tOr, tNot, tAndV, tOrV, tNotV, tIf, tSeq, tNext, iStr, iEnumT, iZip, RZ.iZipA, iRev, iList, iTup, iRng1, iRng2, tLc_eq, tDc_eq, tFor_eq, tYes, wipe, tBreak, tCont, tDrop, tRet, tRetN, tIfS, gName, gNil, gCons, gTup, tAsg, tPar, tOp, tUn, rI, rI0, rU, tTest, tChain, tNil, tCons, tTup, tLst, tCB, tFld_eq, tCVal_eq, tProp_eq, tMeth_eq, tMethR_eq, tCMeth, tMakeSL, tDNotIn, tDGet_eq, tDSetd, tDIn_eq, sDPut_eq, tNever, tMakeR_eq, tCKw_eq, tDNewK, tDNewT, tWhile, gSub_eq, tBM_eq, sFld, tPart, tNoPart, tSl, cx_K, cx_w, tCall, cx_K, tCall,
  Bool.false_eq_true, if_true, if_false, ite_true, ite_false, Bool.not_true, Bool.not_false, reduceIte, decide_eq_true_eq, eq_self_iff_true, reduceCtorEq, false_and, and_false, exists_false])
local macro_rules | `(tactic| walk_at "go") => `(tactic| (repeat (first | refine ixT_of (by assumption) (by rfl) ?_ | refine eqI_of ?_ | refine eqS_of ?_ | refine neI_of ?_); try walk_at "rd"))
local macro_rules | `(tactic| walk_at "r2") => `(tactic| ((walk_at "rd"); (try simp only [tPar3, tDGet2]); (walk_at "rd")))

local macro_rules | `(tactic| walk_at "rl") => `(tactic| ((walk_at "r2"); (try simp only [tLstRg, tRg1, tRg2]); (walk_at "r2")))
open LamX NdefX
/-- what is to hold when the call lets an exception out: ws, the classes and their places in the law's list -/
def EndT (ws : List (Addr × Nat)) (Q : VK) : XK := fun cls d H' => ∃ (D : Addr) (i : Nat) (wd : Str), (D, i) ∈ ws ∧ cls = .ref D ∧ toldN[i]? = some wd ∧
  ((7 ≤ i ∧ d = none ∧ ∀ p H2, Same H' H2 → H2 p = some (.tup [.str (Str.ofString "error"), .str wd]) → Q (.ref p) H2) ∨
   (i < 4 ∧ ∃ dd v, d = some dd ∧ H' dd = some (.xd [("index", v)]) ∧ ∀ p q H2, Same H' H2 → H2 q = some (.lst [v]) → H2 p = some (.tup [.str (Str.ofString "error"), .str wd, .ref q]) → Q (.ref p) H2) ∨
   (i = 4 ∧ ∃ dd v, d = some dd ∧ H' dd = some (.xd [("offset", v)]) ∧ ∀ p q H2, Same H' H2 → H2 q = some (.lst [v]) → H2 p = some (.tup [.str (Str.ofString "error"), .str wd, .ref q]) → Q (.ref p) H2) ∨
   (i = 5 ∧ ∃ dd v u, d = some dd ∧ H' dd = some (.xd [("row", v), ("word", u)]) ∧ ∀ p q H2, Same H' H2 → H2 q = some (.lst [v, u]) → H2 p = some (.tup [.str (Str.ofString "error"), .str wd, .ref q]) → Q (.ref p) H2) ∨
   (i = 6 ∧ ∃ dd v, d = some dd ∧ H' dd = some (.xd [("letter", v)]) ∧ ∀ p q H2, Same H' H2 → H2 q = some (.lst [v]) → H2 p = some (.tup [.str (Str.ofString "error"), .str wd, .ref q]) → Q (.ref p) H2))
/-- the law's telling: sp, what the call does -/
def TTt (ws : List (Addr × Nat)) : (Hp → VK → XK → Prop) → Hp → VK → Prop := fun sp H Q => ∀ E : XK, (∀ cls d H', EndT ws Q cls d H' → E cls d H') → sp H Q E
def bs12 (i : Nat) : List Bool := (List.range 12).map fun j => decide (j = i)
theorem bs_count : ∀ i : Fin 12, (bs12 i.val).count true = 1 := by decide
theorem bs_at : ∀ i : Fin 12, (bs12 i.val)[i.val]? = some true := by decide
theorem bs_before : ∀ i : Fin 12, ∀ m : Fin 12, m.val < i.val → (bs12 i.val)[m.val]? = some false := by decide
section
variable {P : Program} {w : World} {K : PySem.W.Frag} {mg : Str → Option Value} {base : Heap}
def csT (T : Txt K mg) : List Addr := [T.g_InvalidOperation.C, T.g_InvalidOrder.C, T.g_UnknownOrder.C, T.g_NotHolding.C, T.g_DecodeError.C, T.g_NotationError.C, T.g_UnknownLetter.C, T.e_InvalidAddress.C, T.e_InvalidDay.C, T.e_InvalidNumber.C, T.g_Contradiction.C, T.g_InvalidCount.C]
theorem gets_told (T : Txt K mg) (k : Nat) (ws : List (Addr × Nat)) (hi : ∀ x ∈ ws, ToldA K x.1 T.g_MailError.C (csT T) x.2 ∧ x.2 < 12) : GetsA P w K mg base (k + 2) k T.law_told.f (TTt ws) := by
  intro A outer s H f Al cl fr wss sp Q hr e0 L al C tt
  obtain ⟨oc, od, kV, doc, pm, an, cdv, ct, osl, efd, lk, hcd⟩ := T.law_told.F.ex
  have hb := T.law_told.b
  rw [efd] at lk hb
  have kin := e0.mod.kin.keeps fun b o z => (e0.bs b o z).1
  refine run_ofS (ps := ["_law_work"]) (us := [.ref f]) (vs := [.ref f]) lk hcd sc_law_told hr e0 (hb s [.ref f] kin rfl) (.cons rfl .nil) rfl fun hr' => ?_
  refine ⟨_, PSs.nox (pss_one (ps_try_as (i := 1) rfl rfl sc_law_told.nd rfl rfl ⟨rfl, by decide, .inl T.g_MailError.mg⟩ L2.takes0
      (tb := fun W => tRet (tCallA 0 f Al sp W))
      (fun W pn xe tk _ => pss_one (ps_ret (pe_callA L (fun _ _ _ _ J => cells_un C J.base fun _ _ _ z => absurd (show _ ∈ ([] : List Addr) from z) (by simp)) hr' (Nat.le_succ k) tk rfl (.inl rfl))))
      (fun a oe cls d pn hz0 hf => suite_or (G := cls = .ref (clsA cls) ∧ ∃ i, ToldA K (clsA cls) T.g_MailError.C (csT T) i) fun g =>
        have g2 := g.2
        have EC : ExcC K (clsA cls) := g2.choose_spec.ec
        have XF : XfC K (clsA cls) := g2.choose_spec.xf
        have NO_index : PySem.W.findIn K (.ref (clsA cls)) "index" = some none := g2.choose_spec.n0
        have NO_offset : PySem.W.findIn K (.ref (clsA cls)) "offset" = some none := g2.choose_spec.n1
        have NO_row : PySem.W.findIn K (.ref (clsA cls)) "row" = some none := g2.choose_spec.n2
        have NO_word : PySem.W.findIn K (.ref (clsA cls)) "word" = some none := g2.choose_spec.n3
        have NO_letter : PySem.W.findIn K (.ref (clsA cls)) "letter" = some none := g2.choose_spec.n4
        have hz : Zc (.ref (clsA cls)) d oe := by
          have q := hz0
          rw [g.1] at q
          exact q
        (pss_cons (ps_set (i := 2) sc_law_told.nd rfl (Or.inl rfl) (pe_lst (pa_cons (pe_callB (call_isD EC hz hf) (by rfl) T.n_isinstance (by decide +kernel) (pa_cons (pv 1) (pa_cons (pe_gC T.g_InvalidOperation.mg) pa_nil))) (pa_cons (pe_callB (call_isD EC hz hf) (by rfl) T.n_isinstance (by decide +kernel) (pa_cons (pv 1) (pa_cons (pe_gC T.g_InvalidOrder.mg) pa_nil))) (pa_cons (pe_callB (call_isD EC hz hf) (by rfl) T.n_isinstance (by decide +kernel) (pa_cons (pv 1) (pa_cons (pe_gC T.g_UnknownOrder.mg) pa_nil))) pa_nil)))))
  (pss_cons (ps_set (i := 2) sc_law_told.nd rfl (Or.inl rfl) (pe_op op_cat (pv 2) (pe_lst (pa_cons (pe_callB (call_isD EC hz hf) (by rfl) T.n_isinstance (by decide +kernel) (pa_cons (pv 1) (pa_cons (pe_gC T.g_NotHolding.mg) pa_nil))) (pa_cons (pe_callB (call_isD EC hz hf) (by rfl) T.n_isinstance (by decide +kernel) (pa_cons (pv 1) (pa_cons (pe_gC T.g_DecodeError.mg) pa_nil))) (pa_cons (pe_callB (call_isD EC hz hf) (by rfl) T.n_isinstance (by decide +kernel) (pa_cons (pv 1) (pa_cons (pe_gC T.g_NotationError.mg) pa_nil))) pa_nil))))))
  (pss_cons (ps_set (i := 2) sc_law_told.nd rfl (Or.inl rfl) (pe_op op_cat (pv 2) (pe_lst (pa_cons (pe_callB (call_isD EC hz hf) (by rfl) T.n_isinstance (by decide +kernel) (pa_cons (pv 1) (pa_cons (pe_gC T.g_UnknownLetter.mg) pa_nil))) (pa_cons (pe_callB (call_isD EC hz hf) (by rfl) T.n_isinstance (by decide +kernel) (pa_cons (pv 1) (pa_cons (pe_gC T.e_InvalidAddress.mg) pa_nil))) (pa_cons (pe_callB (call_isD EC hz hf) (by rfl) T.n_isinstance (by decide +kernel) (pa_cons (pv 1) (pa_cons (pe_gC T.e_InvalidDay.mg) pa_nil))) pa_nil))))))
  (pss_cons (ps_set (i := 2) sc_law_told.nd rfl (Or.inl rfl) (pe_op op_cat (pv 2) (pe_lst (pa_cons (pe_callB (call_isD EC hz hf) (by rfl) T.n_isinstance (by decide +kernel) (pa_cons (pv 1) (pa_cons (pe_gC T.e_InvalidNumber.mg) pa_nil))) (pa_cons (pe_callB (call_isD EC hz hf) (by rfl) T.n_isinstance (by decide +kernel) (pa_cons (pv 1) (pa_cons (pe_gC T.g_Contradiction.mg) pa_nil))) (pa_cons (pe_callB (call_isD EC hz hf) (by rfl) T.n_isinstance (by decide +kernel) (pa_cons (pv 1) (pa_cons (pe_gC T.g_InvalidCount.mg) pa_nil))) pa_nil))))))
  (pss_cons (ps_set (i := 3) sc_law_told.nd rfl (Or.inl rfl) (pe_lst (pa_cons pe_str (pa_cons pe_str (pa_cons pe_str (pa_cons pe_str (pa_cons pe_str (pa_cons pe_str pa_nil))))))))
  (pss_cons (ps_set (i := 3) sc_law_told.nd rfl (Or.inl rfl) (pe_op op_cat (pv 3) (pe_lst (pa_cons pe_str (pa_cons pe_str (pa_cons pe_str (pa_cons pe_str (pa_cons pe_str pa_nil))))))))
  (pss_cons (ps_set (i := 3) sc_law_told.nd rfl (Or.inl rfl) (pe_op op_cat (pv 3) (pe_lst (pa_cons pe_str (pa_cons pe_str pa_nil)))))
  (pss_cons (ps_set (i := 4) sc_law_told.nd rfl (Or.inl rfl) (pe_ifExp (PW.pt (pw_and (pt_cmpR op_eq (pe_bmK (K := K) rfl PySem.F.plainAttrs_list PySem.F.slot_list_count PySem.F.type_list_count (mt_bcount (K := K)) (pv 2) (pa_cons pe_bl pa_nil)) pe_int (nomark _)) (pw_and1 (pt_val (pe_callB (call_isD EC hz hf) (by rfl) T.n_isinstance (by decide +kernel) (pa_cons (pv 1) (pa_cons (pe_tyN "ValueError" (by rfl) T.n_ValueError (by decide +kernel)) pa_nil))))))) (pe_bmK (K := K) rfl PySem.F.plainAttrs_list PySem.F.slot_list_index PySem.F.type_list_index (mt_indexK (K := K)) (pv 2) (pa_cons pe_bl pa_nil)) pe_int))
  (pss_cons (ps_if (pt_cmpR op_lt (pv 4) pe_int (nomark _))
    (pss_one (ps_ret (pe_tup (pa_cons pe_str (pa_cons (pe_ix (ix_listK (K := K)) (pv 3) (pv 4) (fun _ _ => rfl)) (pa_cons (pe_lst (pa_cons (pe_xf XF NO_index hz hf (pv 1)) pa_nil)) pa_nil))))))
    pss_nil)
  (pss_cons (ps_if (pt_cmpR op_lt (pv 4) pe_int (nomark _))
    (pss_one (ps_ret (pe_tup (pa_cons pe_str (pa_cons (pe_ix (ix_listK (K := K)) (pv 3) (pv 4) (fun _ _ => rfl)) (pa_cons (pe_ifExp (pt_cmpR op_eq (pv 4) pe_int (nomark _)) (pe_lst (pa_cons (pe_xf XF NO_offset hz hf (pv 1)) pa_nil)) (pe_ifExp (pt_cmpR op_eq (pv 4) pe_int (nomark _)) (pe_lst (pa_cons (pe_xf XF NO_row hz hf (pv 1)) (pa_cons (pe_xf XF NO_word hz hf (pv 1)) pa_nil))) (pe_lst (pa_cons (pe_xf XF NO_letter hz hf (pv 1)) pa_nil)))) pa_nil))))))
    pss_nil)
  (pss_one (ps_ret (pe_tup (pa_cons pe_str (pa_cons (pe_ix (ix_listK (K := K)) (pv 3) (pv 4) (fun _ _ => rfl)) pa_nil)))))))))))))))))), ?_⟩
  walk_at "r2"
  refine ⟨rfl, al, tt _ fun cls d H1 end_ => ?_⟩
  obtain ⟨D, i, wd, mem, rfl, hwd, fin⟩ := end_
  obtain ⟨TA, i12⟩ := hi _ mem
  have hdx : ∀ dd, d = some dd → ∃ fs, H1 dd = some (.xd fs) := fun dd z => by
    rcases fin with ⟨_, e, _⟩ | ⟨_, d2, v, e, h, _⟩ | ⟨_, d2, v, e, h, _⟩ | ⟨_, d2, v, u, e, h, _⟩ | ⟨_, d2, v, e, h, _⟩
    · rw [e] at z; cases z
    · rw [e] at z; cases z; exact ⟨_, h⟩
    · rw [e] at z; cases z; exact ⟨_, h⟩
    · rw [e] at z; cases z; exact ⟨_, h⟩
    · rw [e] at z; cases z; exact ⟨_, h⟩
  have isE : ∀ {a : Addr} {c : Addr} {b : Bool} {Q' : VK} {H' : Hp}, Same H1 H' → PySem.W.kitOne K (.ref D) (.ref c) = some b → Q' (.bl b) H' → rIsD K D a d [.ref a, .ref c] H' Q' := fun s e q => ⟨_, _, _, rfl, fun u r => r, e, fun dd z => by
    obtain ⟨fs, hfs⟩ := hdx dd z
    exact ⟨fs, s _ _ hfs⟩, q⟩
  refine ⟨true, TA.m, fun _ a ha => ⟨rfl, ⟨i, TA⟩, ?_⟩, fun z => by cases z⟩
  show ∃ v, _
  walk_at "r2"
  have s0 := Same.refl H1
  refine isE s0 (TA.k 0 _ rfl) (isE s0 (TA.k 1 _ rfl) (isE s0 (TA.k 2 _ rfl) ⟨by decide, fun p1 hp1 => ?_⟩))
  obtain ⟨H2, eH2, s1, a1⟩ := new_obj (.lst [.bl (decide (0 = i)), .bl (decide (1 = i)), .bl (decide (2 = i))]) hp1
  rw [eH2]
  walk_at "r2"
  refine isE s1 (TA.k 3 _ rfl) (isE s1 (TA.k 4 _ rfl) (isE s1 (TA.k 5 _ rfl) ⟨by decide, fun p2 hp2 => ?_⟩))
  obtain ⟨H3, eH3, s2, a2⟩ := new_obj (.lst [.bl (decide (3 = i)), .bl (decide (4 = i)), .bl (decide (5 = i))]) hp2
  rw [eH3]
  refine catL_of (s2 _ _ a1) a2 (show 6 ≤ 100000 by decide) fun l1 H4 s3 hl1 => ?_
  walk_at "r2"
  have s14 := (s1.trans s2).trans s3
  refine isE s14 (TA.k 6 _ rfl) (isE s14 (TA.k 7 _ rfl) (isE s14 (TA.k 8 _ rfl) ⟨by decide, fun p3 hp3 => ?_⟩))
  obtain ⟨H5, eH5, s4, a4⟩ := new_obj (.lst [.bl (decide (6 = i)), .bl (decide (7 = i)), .bl (decide (8 = i))]) hp3
  rw [eH5]
  refine catL_of (s4 _ _ hl1) a4 (show 9 ≤ 100000 by decide) fun l2 H6 s5 hl2 => ?_
  walk_at "r2"
  have s16 := (s14.trans s4).trans s5
  refine isE s16 (TA.k 9 _ rfl) (isE s16 (TA.k 10 _ rfl) (isE s16 (TA.k 11 _ rfl) ⟨by decide, fun p4 hp4 => ?_⟩))
  obtain ⟨H7, eH7, s6, a6⟩ := new_obj (.lst [.bl (decide (9 = i)), .bl (decide (10 = i)), .bl (decide (11 = i))]) hp4
  rw [eH7]
  refine catL_of (s6 _ _ hl2) a6 (show 12 ≤ 100000 by decide) fun l3 H8 s7 hl3 => ?_
  have hl3 : H8 l3 = some (.lst ((bs12 i).map V.bl)) := hl3
  have s18 := (s16.trans s6).trans s7
  clear s1 s2 s3 s4 s5 s6 s7 a1 a2 a4 a6 hl1 hl2 s14 s16 eH2 eH3 eH5 eH7 hp1 hp2 hp3 hp4 isE s0
  walk_at "r2"
  refine ⟨by decide, fun q1 hq1 => ?_⟩
  obtain ⟨G1, eG1, r1, b1⟩ := new_obj (.lst [V.str (Str.ofString "InvalidOperation"), .str (Str.ofString "InvalidOrder"), .str (Str.ofString "UnknownOrder"), .str (Str.ofString "NotHolding"), .str (Str.ofString "DecodeError"), .str (Str.ofString "NotationError")]) hq1
  rw [eG1]
  walk_at "r2"
  refine ⟨by decide, fun q2 hq2 => ?_⟩
  obtain ⟨G2, eG2, r2, b2⟩ := new_obj (.lst [V.str (Str.ofString "UnknownLetter"), .str (Str.ofString "InvalidAddress"), .str (Str.ofString "InvalidDay"), .str (Str.ofString "InvalidNumber"), .str (Str.ofString "Contradiction")]) hq2
  rw [eG2]
  refine catL_of (r2 _ _ b1) b2 (show 11 ≤ 100000 by decide) fun t1 G3 r3 ht1 => ?_
  walk_at "r2"
  refine ⟨by decide, fun q3 hq3 => ?_⟩
  obtain ⟨G4, eG4, r4, b4⟩ := new_obj (.lst [V.str (Str.ofString "InvalidCount"), .str (Str.ofString "other")]) hq3
  rw [eG4]
  refine catL_of (r4 _ _ ht1) b4 (show 13 ≤ 100000 by decide) fun t2 G5 r5 ht2 => ?_
  have ht2 : G5 t2 = some (.lst ((toldN ++ [Str.ofString "other"]).map V.str)) := ht2
  have r85 := (((r1.trans r2).trans r3).trans r4).trans r5
  have hl5 := r85 _ _ hl3
  have s15 := s18.trans r85
  clear r1 r2 r3 r4 r5 b1 b2 b4 ht1 r85 hl3 s18 eG1 eG2 eG4 hq1 hq2 hq3
  walk_at "r2"
  have ec : (bs12 i).count true = 1 := bs_count ⟨i, i12⟩
  have ea : ((bs12 i).map V.bl)[i]? = some (.bl true) := by
    rw [List.getElem?_map, show (bs12 i)[i]? = some true from bs_at ⟨i, i12⟩]
    rfl
  have early : ∀ (m : Nat) (z' : V), m < i → ((bs12 i).map V.bl)[m]? = some z' → eqV z' (.bl true) = false := fun m z' lt e => by
    rw [List.getElem?_map, show (bs12 i)[m]? = some false from bs_before ⟨i, i12⟩ ⟨m, by omega⟩ lt] at e
    cases e
    rfl
  have iN : i < toldN.length := (List.getElem?_eq_some_iff.mp hwd).1
  have tI : atI ((toldN ++ [Str.ofString "other"]).map V.str) ((i : Nat) : Int) = some (V.str wd) := at_of (j := i) rfl (by rw [List.getElem?_map, List.getElem?_append_left iN, hwd]; rfl)
  refine ⟨tyL hl5, l3, _, true, rfl, rfl, SqL.of hl5, ?_⟩
  rw [ec]
  refine eqI_of ⟨true, rfl, ?_⟩
  rw [if_pos rfl]
  refine ⟨_, _, true, rfl, fun u r => r, TA.v, fun dd z => ?_, true, rfl, ?_⟩
  · obtain ⟨fs, hfs⟩ := hdx dd z
    exact ⟨fs, s15 _ _ hfs⟩
  rw [if_pos rfl]
  refine ⟨tyL hl5, l3, _, .bl true, i, .bl true, rfl, rfl, SqL.of hl5, rfl, flat_bools _, ea, rfl, early, _, rfl, ?_⟩
  rcases fin with ⟨i7, rfl, kq⟩ | ⟨i4, dd, v, rfl, h, kq⟩ | ⟨rfl, dd, v, rfl, h, kq⟩ | ⟨rfl, dd, v, u, rfl, h, kq⟩ | ⟨rfl, dd, v, rfl, h, kq⟩
  · rw [if_neg (by omega)]
    refine ⟨_, rfl, ?_⟩
    rw [if_neg (by omega)]
    exact ixL_of ht2 tI ⟨by decide, fun p hp => kq p _ (s15.trans (same_new hp)) upd_same⟩
  · rw [if_pos (by omega)]
    refine ixL_of ht2 tI ⟨_, rfl, rfl, rfl, dd, _, v, rfl, s15 _ _ h, rfl, by decide, fun q hq => ⟨by decide, fun p hp => ?_⟩⟩
    exact kq p q _ ((s15.trans (same_new hq)).trans (same_new hp)) ((same_new hp) _ _ upd_same) upd_same
  · rw [if_neg (by omega)]
    refine ⟨_, rfl, ?_⟩
    rw [if_pos (by omega)]
    refine ixL_of ht2 tI (eqI_of ⟨true, rfl, ?_⟩)
    rw [if_pos rfl]
    refine ⟨_, rfl, rfl, rfl, dd, _, v, rfl, s15 _ _ h, rfl, by decide, fun q hq => ⟨by decide, fun p hp => ?_⟩⟩
    exact kq p q _ ((s15.trans (same_new hq)).trans (same_new hp)) ((same_new hp) _ _ upd_same) upd_same
  · rw [if_neg (by omega)]
    refine ⟨_, rfl, ?_⟩
    rw [if_pos (by omega)]
    refine ixL_of ht2 tI (eqI_of ⟨false, rfl, ?_⟩)
    rw [if_neg (by decide)]
    refine eqI_of ⟨true, rfl, ?_⟩
    rw [if_pos rfl]
    refine ⟨_, rfl, rfl, rfl, dd, _, v, rfl, s15 _ _ h, rfl, ⟨_, rfl, rfl, rfl, dd, _, u, rfl, s15 _ _ h, rfl, by decide, fun q hq => ⟨by decide, fun p hp => ?_⟩⟩⟩
    exact kq p q _ ((s15.trans (same_new hq)).trans (same_new hp)) ((same_new hp) _ _ upd_same) upd_same
  · rw [if_neg (by omega)]
    refine ⟨_, rfl, ?_⟩
    rw [if_pos (by omega)]
    refine ixL_of ht2 tI (eqI_of ⟨false, rfl, ?_⟩)
    rw [if_neg (by decide)]
    refine eqI_of ⟨false, rfl, ?_⟩
    rw [if_neg (by decide)]
    refine ⟨_, rfl, rfl, rfl, dd, _, v, rfl, s15 _ _ h, rfl, by decide, fun q hq => ⟨by decide, fun p hp => ?_⟩⟩
    exact kq p q _ ((s15.trans (same_new hq)).trans (same_new hp)) ((same_new hp) _ _ upd_same) upd_same
end
end K47
namespace K47
open PySem PySem.Spec PyProof.Rows L2 StX ClX My
/-! ### a route is one, and a shorter one is its beginning -/
theorem RouteOf.le2 {os : List Ord} {p : Pt} {n : Nat} {as bs : List Pt} (h : RouteOf os p n as) (k : RouteOf os p n bs) : bs.length ≤ as.length := by
  by_cases c : bs.length ≤ as.length
  · exact c
  have kl := k.le
  obtain ⟨q, hq, st⟩ := h.whole (by omega)
  have g1 := h.at_ _ q hq
  obtain ⟨r, hr⟩ : ∃ r, bs[as.length]? = some r := ⟨_, List.getElem?_eq_getElem (by omega)⟩
  have g2 := k.at_ _ r hr
  have pos := (List.getElem?_eq_some_iff.mp hq).1
  obtain ⟨m, hm⟩ : ∃ m, as.length = m + 1 := ⟨as.length - 1, by omega⟩
  rw [hm] at g1 g2
  obtain ⟨u, a, b⟩ := g2.split
  have e : u = q := a.det g1
  subst e
  cases b with
  | succ z _ => rw [st] at z; cases z
theorem RouteOf.det {os : List Ord} {p : Pt} {n : Nat} {as bs : List Pt} (h : RouteOf os p n as) (k : RouteOf os p n bs) : as = bs := by
  have e : as.length = bs.length := Nat.le_antisymm (k.le2 h) (h.le2 k)
  refine List.ext_getElem? fun i => ?_
  by_cases c : i < as.length
  · have h1 := List.getElem?_eq_getElem c
    have h2 := List.getElem?_eq_getElem (l := bs) (i := i) (by omega)
    rw [h1, h2, (h.at_ _ _ h1).det (k.at_ _ _ h2)]
  · rw [List.getElem?_eq_none (by omega), List.getElem?_eq_none (by omega)]
theorem RouteOf.cut {os : List Ord} {p : Pt} {m n : Nat} {as : List Pt} (h : RouteOf os p m as) (l : n ≤ m) (n0 : 0 < n) : RouteOf os p n (as.take n) := by
  refine ⟨by rw [List.length_take]; omega, fun i q e => ?_, fun lt => ?_⟩
  · rw [List.getElem?_take] at e
    split at e
    · exact h.at_ i q e
    · cases e
  · rw [List.length_take] at lt ⊢
    have hl : as.length < n := by omega
    rw [Nat.min_eq_right (Nat.le_of_lt hl), List.take_of_length_le (Nat.le_of_lt hl)]
    exact h.whole (by omega)
end K47
namespace K47
open PySem PySem.Spec PyProof.Rows L2 StX ClX My
open LamX NdefX
/-! ### a list of lambdas that all let out one class -/
/-- all but lists and tables stays -/
def KeepF (H H' : Hp) : Prop := ∀ b o, H b = some o → (∀ xs, o ≠ .lst xs) → (∀ ps, o ≠ .tbl ps) → H' b = some o
theorem KeepF.same {H H' : Hp} (s : Same H H') : KeepF H H' := fun b o h _ _ => s b o h
theorem KeepF.ext {H H' : Hp} (s : ExtN H H') : KeepF H H' := fun b o h _ n => s b o h n
theorem KeepF.trans {H H1 H2 : Hp} (a : KeepF H H1) (b : KeepF H1 H2) : KeepF H H2 := fun c o h l n => b c o (a c o h l n) l n
theorem KeepF.put {H : Hp} {D : Addr} {xs ys : List V} (h : H D = some (.lst xs)) : KeepF H (upd H D (.lst ys)) := fun b o e l _ => by
  rw [upd_ne (fun z => by rw [z, h] at e; exact l xs (Option.some.inj e).symm)]
  exact e
theorem keep_lam {H H' : Hp} {f : Addr} {F : NF} {e : Expr} (s : KeepF H H') (h : AlL f F e H) : AlL f F e H' := by
  refine ⟨s _ _ h.1 (fun xs z => ?_) lamO_ne, s _ _ h.2 (fun xs z => ?_) codeO_ne⟩
  · unfold LamO at z
    cases z
  · unfold CodeO at z
    cases z
theorem keep_dfl {H H' : Hp} {f T0 : Addr} {F : NF} {e : Expr} (s : KeepF H H') (h : AlD f F e T0 H) : AlD f F e T0 H' := by
  refine ⟨s _ _ h.1 (fun xs z => ?_) lamP_ne, s _ _ h.2.1 (fun xs z => by cases z) (fun ps z => by cases z), s _ _ h.2.2 (fun xs z => ?_) codeO_ne⟩
  · unfold LamP at z
    cases z
  · unfold CodeO at z
    cases z
theorem wkOne_of {K : PySem.W.Frag} {H : Hp} {p q : Addr} {x : Str} {Q : VK} (h1 : H p = some (.tup [.str x])) (h2 : H q = some (.tup [.str x])) (s : SeqAt.shaped (.tuple [.str x]) = true) (e : PyData.eqv (.tuple [.str x]) (.tuple [.str x]) = true) (k : Q (.bl false) H) : rNeD K (.ref p) (.ref q) H Q :=
  ⟨.tuple [.str x], .tuple [.str x], .tup (SqT.of h1) (.cons (.str _) .nil), .tup (SqT.of h2) (.cons (.str _) .nil), s, s, by rw [e]; exact k⟩
theorem Tabs.put {Tb : List (Addr × Str)} {H : Hp} {D : Addr} {xs ys : List V} (t : Tabs Tb H) (h : H D = some (.lst xs)) : Tabs Tb (upd H D (.lst ys)) := fun p hp => by
  obtain ⟨ps, a, b, c⟩ := t p hp
  have up : ∀ b o, H b = some o → (∀ zs, o ≠ .lst zs) → (upd H D (.lst ys)) b = some o := fun b o e z => by
    rw [upd_ne (fun q => by rw [q, h] at e; exact z xs (Option.some.inj e).symm)]
    exact e
  refine ⟨ps, up _ _ a (fun zs z => by cases z), b, fun pos cv q => ?_⟩
  obtain ⟨c0, y1, y2⟩ := c pos cv q
  exact ⟨c0, y1, up _ _ y2 (fun zs z => by unfold CodeO at z; cases z)⟩
theorem lamO_nl {f : Addr} {F : NF} {e : Expr} (xs : List V) : LamO f F e ≠ .lst xs := fun z => by
  unfold LamO at z
  cases z
theorem lamP_nl {f : Addr} {F : NF} {e : Expr} {T0 : Addr} (xs : List V) : LamP f F e T0 ≠ .lst xs := fun z => by
  unfold LamP at z
  cases z
theorem codeO_nl {c : Addr} {q : Str} (xs : List V) : CodeO c q ≠ .lst xs := fun z => by
  unfold CodeO at z
  cases z
/-- what is no list is not the row -/
theorem row_ne {H : Hp} {r sc b : Addr} {o : HO} (row : RowS H r sc) (h : H b = some o) (n : ∀ xs, o ≠ .lst xs) : b ≠ r := fun z => by
  obtain ⟨i, t, g, h2, _⟩ := row
  rw [z, h2] at h
  exact n _ (Option.some.inj h).symm
theorem alL_X {H H' : Hp} {r sc f : Addr} {F : NF} {e : Expr} (row : RowS H r sc) (x : SameX r H H') (h : AlL f F e H) : AlL f F e H' :=
  ⟨x _ _ (row_ne row h.1 lamO_nl) h.1, x _ _ (row_ne row h.2 codeO_nl) h.2⟩
theorem alD_X {H H' : Hp} {r sc f T0 : Addr} {F : NF} {e : Expr} (row : RowS H r sc) (x : SameX r H H') (h : AlD f F e T0 H) : AlD f F e T0 H' :=
  ⟨x _ _ (row_ne row h.1 lamP_nl) h.1, x _ _ (row_ne row h.2.1 (fun _ z => by cases z)) h.2.1, x _ _ (row_ne row h.2.2 codeO_nl) h.2.2⟩
/-- a call that the law tells as ("error", wd); it may draw from the row at r -/
def WkT (P : Program) (w : World) (K : PySem.W.Frag) (mg : Str → Option Value) (base : Heap) (X : Cx) (k : Nat) (ws : List (Addr × Nat)) (r sc : Addr) (σ : L2.St) (H : Hp) (wd : Str) (f : Addr) : Prop := ∃ (Al : Hp → Prop) (cl : List (Str × Addr)) (fr : List Str) (js : List Nat) (scope : Scope) (sp : SpL),
  (∀ H', SameX r H H' → Al H') ∧ cl = cloFrom X.env.cells scope.names [] ∧ (∀ y ∈ scope.names, y.2 = .free → X.env.scope.names.lookup y.1 = some .cell ∨ X.env.scope.names.lookup y.1 = some .free) ∧ (∀ y ∈ fr, (y, NameKind.free) ∈ scope.names) ∧ js.map (fun j => X.N[j]?) = fr.map some ∧
  (∀ ws', CallA P w K mg base k f Al cl fr ws' (sp ws')) ∧ ∀ (H' : Hp) (Q : VK), SameX r H H' → RowS H' r sc → (∀ p H'', SameX r H' H'' → RowS H'' r sc → H'' p = some (.tup [.str (Str.ofString "error"), .str wd]) → Q (.ref p) H'') → TTt ws (sp (js.map (slotAt σ))) H' Q
/-- [told(f) for f in works] -/
theorem works_told {P : Program} {w : World} {K : PySem.W.Frag} {mg : Str → Option Value} {base : Heap} {X : Cx} {k : Nat} {ws : List (Addr × Nat)} {r sc : Addr} {i : Nat} {D D2 : Addr} {fs : List Addr} {wds : List Str} {σ : L2.St} {H : Hp} {Qd : Hp → Prop}
    (hi : i < σ.length) (atD : H D = some (.lst (fs.map V.ref))) (nD : D ≠ r) (l : fs.length ≤ 100000) (row : RowS H r sc) (len : fs.length = wds.length) (works : ∀ (j : Nat) (f : Addr) (wd : Str), fs[j]? = some f → wds[j]? = some wd → WkT P w K mg base X k ws r sc σ H wd f) (hD2 : H D2 = Option.none)
    (fin : ∀ (H' : Hp) (qs : List Addr), SameX r H H' → RowS H' r sc → H' D2 = some (.lst (qs.map V.ref)) → Paired (fun p wd => H' p = some (.tup [.str (Str.ofString "error"), .str wd])) qs wds → Qd H') :
    LcL (Itl K D) (gName i) tYes (tGetsA P w K mg base k (fun _ => GoodL X σ) (TTt ws) (tVar i)) [i] σ H D2 Qd := by
  have n2 : D2 ≠ r := fun z => by
    obtain ⟨a, b, c, h, _⟩ := row
    rw [z, h] at hD2
    cases hD2
  refine comp_st (walk_list (K := K) (a := D) (xs := fs.map V.ref)) (fun j acc H' => acc.length ≤ j ∧ SameX r H H' ∧ RowS H' r sc ∧ ∃ qs : List Addr, acc = qs.map V.ref ∧ (∀ q ∈ qs, q ≠ D2) ∧ Paired (fun p wd => H' p = some (.tup [.str (Str.ofString "error"), .str wd])) qs (wds.take j)) (by rw [List.length_map]; exact l) (fun j acc H' R => SqL.of (R.2.1 _ _ nD atD)) ?_ ⟨Nat.le_refl _, SameX.refl _ _, row, [], rfl, fun q hq => (by cases hq), .nil⟩ (fun j acc H' R => R.1) ?_ ?_
  · rintro j acc H' v ⟨al, x, rw', qs, e, ne, pr⟩
    refine ⟨al, fun b o n h => by rw [upd_ne (fun z => by rw [z, hD2] at h; cases h)]; exact x b o n h, RowS.at_ (upd_ne (Ne.symm n2)) rw', qs, e, ne, ?_⟩
    clear e al x rw'
    generalize wds.take j = us at pr
    induction pr with
    | nil => exact .nil
    | cons a p ih => exact .cons (by rw [upd_ne (ne _ List.mem_cons_self)]; exact a) (ih fun q hq => ne q (List.mem_cons_of_mem _ hq))
  · rintro j x H1 H2 acc hj aD2 ⟨al, xx, rw', qs, rfl, ne, pr⟩ ⟨rfl, ex⟩ no yes _ hy
    rw [List.length_map] at hj
    obtain ⟨f, hf, rfl⟩ := nth_ref ex
    obtain ⟨wd, hwd⟩ : ∃ wd, wds[j]? = some wd := ⟨_, List.getElem?_eq_getElem (by omega)⟩
    obtain ⟨Al, cl, fr, js, scope, sp, h1, h3, h4, h5, h6, h7, h8⟩ := works j f wd hf hwd
    have z1 : ((wipe σ [i]).set i (some (.ref f)))[i]? = some (some (.ref f)) := by
      rw [List.getElem?_set_self (by rw [wipe_length]; exact hi)]
    refine ⟨?_, ?_⟩
    · show (((σ.set i none).set i (some (.ref f))).set i none) = σ.set i none
      rw [List.set_set, List.set_set]
    · refine ⟨.ref f, z1, f, Al, cl, fr, js.map (slotAt σ), sp (js.map (slotAt σ)), rfl, h1 _ xx, ⟨⟨scope, js, h3, h4, h5, h6, rfl⟩⟩, h7 _, h8 _ _ xx rw' fun p H3 x3 r3 e => ?_⟩
      have a3 := x3 _ _ n2 aD2
      have ap : qs.length = j := by
        have := Paired.length pr
        rw [List.length_take] at this
        omega
      refine hy _ _ a3 ⟨by rw [List.length_append]; show _ + 1 ≤ _; omega, xx.trans x3, r3, qs ++ [p], by simp, fun q hq => ?_, ?_⟩
      · rcases List.mem_append.mp hq with hq | hq
        · exact ne q hq
        · rw [List.mem_singleton.mp hq]
          exact fun z => by rw [z, a3] at e; cases e
      · rw [take_one hwd]
        exact Paired.app (Paired.mp (fun a u h => x3 _ _ (row_ne rw' h (fun _ z => by cases z)) h) pr) (.cons e .nil)
  · rintro acc H' a ⟨al, x, rw', qs, rfl, ne, pr⟩
    rw [List.length_map, len, List.take_length] at pr
    exact fin H' qs x rw' a pr
end K47
namespace K47
open PySem PySem.Spec PyProof.Rows L2 StX ClX My
/-! ### moved books, sums of books -/
theorem later_ok {os : List Ord} (ok : OkB os) {n : Int} (n0 : 0 ≤ n) (h : ∀ o ∈ os, o.lst + n ≤ dayM) : OkB (os.map (Ord.later n)) := by
  refine .mk' (by rw [List.length_map]; exact ok.len) (fun o ho => ?_) ?_
  · obtain ⟨u, hu, rfl⟩ := List.mem_map.mp ho
    have d := h u hu
    have v := ok.mem hu
    have dd := okO_day v
    have nb : ∀ x : Int, 0 ≤ x → x ≤ dayM → numB (.int x) 0 dayM = true := fun x h0 h1 => by
      simp only [numB, Bool.and_eq_true, decide_eq_true_eq]
      exact ⟨h0, h1⟩
    have n3 : decide (u.lst + n < u.fst + n) = false := decide_eq_false (by omega)
    unfold okO at v
    rw [Bool.and_eq_true, Bool.and_eq_true] at v
    show (adrB (.str u.src) && adrB (.str u.tgt) && !decide (u.src = u.tgt) && (numB (.int (u.fst + n)) 0 dayM && numB (.int (u.lst + n)) 0 dayM && !decide (u.lst + n < u.fst + n)) && numB (.int u.way) 1 30) = true
    rw [Bool.and_eq_true, Bool.and_eq_true, nb _ (by omega) (by omega), nb _ (by omega) (by omega), n3]
    exact ⟨⟨v.1.1, rfl⟩, v.2⟩
  · rw [List.pairwise_map]
    refine ok.pair.imp fun {a b} s => ?_
    unfold share at s
    rw [← s]
    have e1 : decide (a.fst + n ≤ b.lst + n) = decide (a.fst ≤ b.lst) := decide_eq_decide.mpr (by omega)
    have e2 : decide (b.fst + n ≤ a.lst + n) = decide (b.fst ≤ a.lst) := decide_eq_decide.mpr (by omega)
    show (decide (a.src = b.src) && (decide (a.fst + n ≤ b.lst + n) && decide (b.fst + n ≤ a.lst + n))) = _
    rw [e1, e2]
theorem shift_of {C : Addr} {H : Hp} {b : Addr} {os : List Ord} {n : Int} {Q : VK} (hb : BookAt C H b os) (ok : OkB (os.map (Ord.later n))) (n0 : -dayM ≤ n) (n1 : n ≤ dayM) (k : ∀ c H', Same H H' → BookAt C H' c (os.map (Ord.later n)) → Q (.ref c) H') : rOwnT C (sp_rshift C) eF (.ref b) (.int n) H Q := by
  obtain ⟨dx, t, h, tt⟩ := hb
  exact ⟨b, dx, _, n, rfl, rfl, h, b, os, n, rfl, ⟨dx, t, h, tt⟩, n0, n1, ok, k⟩
theorem later_back (os : List Ord) (n : Int) : (os.map (Ord.later n)).map (Ord.later (0 - n)) = os := by
  rw [List.map_map]
  refine (List.map_congr_left fun o _ => ?_).trans (List.map_id os)
  show Ord.later (0 - n) (Ord.later n o) = o
  unfold Ord.later
  have e1 : o.fst + n + (0 - n) = o.fst := by omega
  have e2 : o.lst + n + (0 - n) = o.lst := by omega
  cases o
  simp only [e1, e2] at *
/-- orders behind the last day of all others -/
theorem sum_ok {os us : List Ord} (ok : OkB os) (ok2 : OkB us) {n : Int} (n0 : 0 ≤ n) (h : ∀ o ∈ os, o.lst < n) (top : ∀ o ∈ us, o.lst + n ≤ dayM) (l : os.length + us.length ≤ 30) : OkB (os ++ us.map (Ord.later n)) := by
  have okl := later_ok ok2 n0 top
  refine .mk' (by rw [List.length_append, List.length_map]; exact l) (fun o ho => ?_) ?_
  · rcases List.mem_append.mp ho with ho | ho
    · exact ok.mem ho
    · exact okl.mem ho
  · refine List.pairwise_append.mpr ⟨ok.pair, okl.pair, fun a ha b hb => ?_⟩
    obtain ⟨u, hu, rfl⟩ := List.mem_map.mp hb
    have d := okO_day (ok2.mem hu)
    have ha := h a ha
    have e : decide ((Ord.later n u).fst ≤ a.lst) = false := decide_eq_false (by
      show ¬ u.fst + n ≤ a.lst
      omega)
    unfold share
    simp only [e, Bool.and_false, Bool.false_and]
end K47
namespace K47
open PySem PySem.Spec PyProof.Rows L2 StX ClX My
local macro_rules | `(tactic| walk_at "rd") => `(tactic| try simp only [L2.start, List.map_cons, List.map_nil, List.length_cons, List.length_nil, List.cons_append, List.nil_append, List.reduceReplicate, List.replicate_zero, Nat.reduceAdd, Nat.reduceSub,
  List.getElem?_cons_zero, List.getElem?_cons_succ, List.set_cons_zero, List.set_cons_succ, Option.some.injEq, exists_eq_left', exists_eq_left, exists_eq_right, exists_eq_right', V.int.injEq, V.bl.injEq, V.str.injEq, V.ref.injEq, V.ty.injEq, List.cons.injEq, and_true, true_and, and_assoc,
  exists_and_left, exists_const, tVar, tC, tB, tAnd, tOr, tNot, tAndV, tOrV, tNotV, tIf, tSeq, tNext, iStr, iEnumT, iZip, RZ.iZipA, iRev, iList, iTup, iRng1, iRng2, tLc_eq, tDc_eq, tFor_eq, tYes, wipe, tBreak, tCont, tDrop, tRet, tRetN, tIfS, gName, gNil, gCons, gTup, tAsg, tPar, tOp, tUn, rI, rI0, rU, tTest, tChain, tNil, tCons, tTup, tLst, tCB, tFld_eq, tCVal_eq, tProp_eq, tMeth_eq, tMethR_eq, tCMeth, tMakeSL, tDNotIn, tDGet_eq, tDSetd, tDIn_eq, sDPut_eq, tNever, tMakeR_eq, tCKw_eq, tDNewK, tDNewT, tWhile, gSub_eq, tBM_eq, sFld, tPart, tNoPart, tSl, cx_K, cx_w, tCall, cx_K, tCall,
  Bool.false_eq_true, if_true, if_false, ite_true, ite_false, Bool.not_true, Bool.not_false, reduceIte, decide_eq_true_eq, eq_self_iff_true, reduceCtorEq, false_and, and_false, exists_false])
local macro_rules | `(tactic| walk_at "go") => `(tactic| (repeat (first | refine ixT_of (by assumption) (by rfl) ?_ | refine eqI_of ?_ | refine eqS_of ?_ | refine neI_of ?_); try walk_at "rd"))
local macro_rules | `(tactic| walk_at "r2") => `(tactic| ((walk_at "rd"); (try simp only [tPar3, tDGet2]); (walk_at "rd")))

local macro_rules | `(tactic| walk_at "rl") => `(tactic| ((walk_at "r2"); (try simp only [tLstRg, tRg1, tRg2]); (walk_at "r2")))
local macro_rules | `(tactic| walk_at "gn") => `(tactic| ((try simp only [tGThen, tPlain, tGFor_eq, tGYield, GEnds.at, tG0, gcx_K, tDNotIn, tListG, tCallG]); (walk_at "rd"); (try simp only [tGThen, tPlain, tGFor_eq, tGYield, GEnds.at, tG0, gcx_K, tDNotIn, tListG, tCallG]); (walk_at "rd")))
local macro_rules | `(tactic| walk_at "rm") => `(tactic| ((walk_at "rl"); (try simp only [tSumVals, tDisp, tPairs, tLock, iKeys]); (walk_at "rl")))
local macro_rules | `(tactic| walk_at "rk") => `(tactic| ((walk_at "rm"); (try simp only [LiI.tListItems, tOrT, tBM0, tListG, tCallG]); (walk_at "rm")))
local macro_rules | `(tactic| walk_at "rt") => `(tactic| ((walk_at "rm"); (try simp only [tM1, tFmtC, tListG, tCallG]); (walk_at "rm")))
open LamX NdefX
/-! ### the law's heap: the row, and the tables of its lambdas -/
structure Lw (K : PySem.W.Frag) (Tb : List (Addr × Str)) (H : Hp) (r sc : Addr) : Prop where
  rw_ : Rw K H r sc
  tb : Tabs Tb H
theorem Lw.same {K : PySem.W.Frag} {Tb : List (Addr × Str)} {H H' : Hp} {r sc : Addr} (h : Lw K Tb H r sc) (s : Same H H') : Lw K Tb H' r sc := ⟨h.rw_.same s, h.tb.ext s⟩
theorem Lw.next {K : PySem.W.Frag} {Tb : List (Addr × Str)} {H H' : Hp} {r sc : Addr} (h : Lw K Tb H r sc) (e : SameX r H H') (row : RowS H' r sc) : Lw K Tb H' r sc := by
  refine ⟨h.rw_.next e row, fun p hp => ?_⟩
  obtain ⟨i, t, g, h1, _⟩ := h.rw_.row
  obtain ⟨ps, a, b, c⟩ := h.tb p hp
  refine ⟨ps, e _ _ (fun z => ?_) a, b, fun pos cv q => ?_⟩
  · rw [z, h1] at a
    cases a
  · obtain ⟨c0, y1, y2⟩ := c pos cv q
    refine ⟨c0, y1, e _ _ (fun z => ?_) y2⟩
    rw [z, h1] at y2
    cases y2
theorem Lw.lam {K : PySem.W.Frag} {Tb : List (Addr × Str)} {H H' : Hp} {r sc : Addr} (h : Lw K Tb H r sc) (e : ExtN H H') (t : Tabs Tb H') : Lw K Tb H' r sc := by
  obtain ⟨i, u, g, h1, h2⟩ := h.rw_.row
  refine ⟨⟨⟨i, u, g, e _ _ h1 (fun ps z => by cases z), h2⟩, ?_⟩, t⟩
  obtain ⟨ns, hs⟩ := h.rw_.scr
  refine ⟨ns, fun H2 e2 => ?_⟩
  rcases hs H (SameX.refl _ _) with (h0 | ⟨o, h0⟩) | h0
  · have ne : sc ≠ r := fun z => by
      rw [z, h1] at h0
      cases ns with
      | nil => cases h0
      | cons n ns => cases h0
    exact .inl (.inl (e2 _ _ ne (e _ _ h0 (fun ps z => by cases z))))
  · have ne : sc ≠ r := fun z => by
      rw [z, h1] at h0
      cases h0
    exact .inl (.inr ⟨o, e2 _ _ ne (e _ _ h0 (fun ps z => by cases z))⟩)
  · exact .inr h0
theorem Lw.put {K : PySem.W.Frag} {Tb : List (Addr × Str)} {H : Hp} {r sc D f : Addr} {xs ys : List V} (h : Lw K Tb H r sc) (hD : H D = some (.lst (.ref f :: xs))) (n : D ≠ r) : Lw K Tb (upd H D (.lst ys)) r sc := by
  obtain ⟨i, u, g, h1, h2⟩ := h.rw_.row
  have up : ∀ b o, H b = some o → (∀ zs, o ≠ .lst (.ref f :: zs)) → (upd H D (.lst ys)) b = some o := fun b o e z => by
    rw [upd_ne (fun q => by rw [q, hD] at e; exact z xs (Option.some.inj e).symm)]
    exact e
  refine ⟨⟨⟨i, u, g, by rw [upd_ne (Ne.symm n)]; exact h1, h2⟩, ?_⟩, fun p hp => ?_⟩
  · obtain ⟨ns, hs⟩ := h.rw_.scr
    refine ⟨ns, fun H2 e2 => ?_⟩
    rcases hs H (SameX.refl _ _) with (h0 | ⟨o, h0⟩) | h0
    · have ne : sc ≠ r := fun z => by
        rw [z, h1] at h0
        cases ns with
        | nil => cases h0
        | cons n ns => cases h0
      exact .inl (.inl (e2 _ _ ne (up _ _ h0 (fun zs z => by
        cases ns with
        | nil => cases z
        | cons n ns => cases z))))
    · have ne : sc ≠ r := fun z => by
        rw [z, h1] at h0
        cases h0
      exact .inl (.inr ⟨o, e2 _ _ ne (up _ _ h0 (fun zs z => by cases z))⟩)
    · exact .inr h0
  · obtain ⟨ps, a, b, c⟩ := h.tb p hp
    refine ⟨ps, up _ _ a (fun zs z => by cases z), b, fun pos cv q => ?_⟩
    obtain ⟨c0, y1, y2⟩ := c pos cv q
    exact ⟨c0, y1, up _ _ y2 (fun zs z => by cases z)⟩
/-- the tuples stay -/
def TupS (H H' : Hp) : Prop := ∀ b xs, H b = some (.tup xs) → H' b = some (.tup xs)
theorem lok_at {P : Program} {w : World} {K : PySem.W.Frag} {mg : Str → Option Value} {base : Heap} {k : Nat} {f : Addr} {F : NF} {e : Expr} {fr : List Str} {sp : SpL} {H : Hp} (_ : H f = some (LamO f F e)) (ok : LOk P w K mg base (L2.CX P w) k f F e fr sp) : LOk P w K mg base (L2.CX P w) k f F e fr sp := ok
theorem neOne_of {K : PySem.W.Frag} {H : Hp} {p q : Addr} {w : Str} {Q : VK} (h1 : H p = some (.tup [.str w])) (h2 : H q = some (.tup [.str w])) (s : SeqAt.shaped (.tuple [.str w]) = true) (e : PyData.eqv (.tuple [.str w]) (.tuple [.str w]) = true) (k : Q (.bl false) H) : rNeD K (.ref p) (.ref q) H Q :=
  ⟨.tuple [.str w], .tuple [.str w], .tup (SqT.of h1) (.cons (.str _) .nil), .tup (SqT.of h2) (.cons (.str _) .nil), s, s, by rw [e]; exact k⟩
theorem neNilE_of {K : PySem.W.Frag} {H : Hp} {p q : Addr} {Q : VK} (h1 : H p = some (.lst [])) (h2 : H q = some (.lst [])) (k : Q (.bl false) H) : rNeD K (.ref p) (.ref q) H Q :=
  ⟨.list [], .list [], .lst (SqL.of h1) .nil, .lst (SqL.of h2) .nil, rfl, rfl, k⟩
open LamX NdefX
theorem LstAt.ext {H H' : Hp} {l : Addr} {os : List Ord} (h : LstAt H l os) (s : ExtN H H') : LstAt H' l os := by
  obtain ⟨ps, h1, h2⟩ := h
  exact ⟨ps, s _ _ h1 (fun _ z => by cases z), Paired.mp (fun a u h => s _ _ h (fun _ z => by cases z)) h2⟩
theorem route_short {os : List Ord} (ok : OkB os) {p : Pt} {n : Nat} {as : List Pt} (R : RouteOf os p n as) {L : Int} (hL : ∀ o ∈ os, o.lst ≤ L) (h : L ≤ p.2 + 17) : as.length ≤ 19 := by
  by_cases c : as.length ≤ 19
  · exact c
  obtain ⟨q, hq⟩ : ∃ q, as[18]? = some q := ⟨_, List.getElem?_eq_getElem (by omega)⟩
  obtain ⟨r, hr⟩ : ∃ r, as[19]? = some r := ⟨_, List.getElem?_eq_getElem (by omega)⟩
  have g1 := R.at_ _ _ hq
  have g2 := R.at_ _ _ hr
  obtain ⟨u, a, b⟩ := (show Goes os (18 + 1) p r from g2).split
  have e : u = q := a.det g1
  subst e
  have f := g1.far ok
  cases b with
  | succ z _ =>
    unfold step at z
    cases fo : os.find? fun o => o.holds u.1 u.2 with
    | none => rw [fo] at z; cases z
    | some o =>
      have h1 := List.find?_some fo
      have h2 := hL o (List.mem_of_find?_eq_some fo)
      simp only [Ord.holds, Bool.and_eq_true, decide_eq_true_eq] at h1
      omega
theorem mul_list (i : Int) : (Txt.mul (Str.ofString ".") i).cps.toList = List.replicate i.toNat 46 := by
  unfold Txt.mul
  by_cases c : i < 1
  · rw [if_pos c, show i.toNat = 0 by omega]
    rfl
  · rw [if_neg c]
    by_cases c1 : i = 1
    · subst c1
      rfl
    · rw [if_neg (by
        have : (Str.ofString ".").length = 1 := by decide
        simp [c1, this])]
      have e : (Str.ofString ".").cps = #[46] := rfl
      rw [e]
      have fold : ∀ (k : Nat) (acc : Array Nat), ((List.replicate k #[46]).foldl (· ++ ·) acc).toList = acc.toList ++ List.replicate k 46 := fun k => by
        induction k with
        | zero => intro acc; simp
        | succ k ih =>
          intro acc
          rw [List.replicate_succ, List.foldl_cons, ih, Array.toList_append, List.append_assoc]
          rfl
      rw [fold]
      rfl
theorem mul_len (i : Int) : (Txt.mul (Str.ofString ".") i).length = i.toNat := by
  rw [len_of_list (mul_list i), List.length_replicate]
theorem line_eq (u : Pt) {m : Nat} (e : u.2 = (m : Nat)) : u.1 ++ Txt.mul (Str.ofString ".") (8 - ((u.1.length : Nat) : Int)) ++ Txt.mul (Str.ofString ".") (30 - (((commaS ((m : Nat) : Int)).length : Nat) : Int)) ++ commaS ((m : Nat) : Int) = lineP u := by
  unfold lineP
  rw [e]
  refine str_ext ?_
  rw [app_list, app_list, app_list, app_list, mul_list, mul_list, ljustF_list, rjustF_list]
  have e1 : (8 - ((u.1.length : Nat) : Int)).toNat = (8 : Int).toNat - u.1.length := by omega
  have e2 : (30 - (((commaS ((m : Nat) : Int)).length : Nat) : Int)).toNat = (30 : Int).toNat - (commaS ((m : Nat) : Int)).length := by omega
  rw [e1, e2, List.append_assoc, List.append_assoc]
theorem route_nil {os : List Ord} {p : Pt} {as : List Pt} (R : RouteOf os p 0 as) : as = [] := List.length_eq_zero_iff.mp (Nat.le_zero.mp R.le)
theorem selfNe {K : PySem.W.Frag} {H : Hp} {x y : V} {d : PyData} {Q : VK} (hx : Dp K H x d) (hy : Dp K H y d) (s : SeqAt.shaped d = true) (q : Q (.bl false) H) : rNeD K x y H Q := by
  refine ⟨d, d, hx, hy, s, s, ?_⟩
  have l : d.canLay0 = true := by
    unfold SeqAt.shaped at s
    exact (Bool.and_eq_true _ _ ▸ s).1
  rw [SeqAt.eqv_refl d l]
  exact q
theorem lok_ad {P : Program} {w : World} {K : PySem.W.Frag} {mg : Str → Option Value} {base : Heap} {k : Nat} {f : Addr} {F : NF} {e : Expr} {fr : List Str} {sp : SpL} {H : Hp} (_ : H f = some (LamO f F e)) (ok : LOk P w K mg base (L2.CX P w) k f F e fr sp) : LOk P w K mg base (L2.CX P w) k f F e fr sp := ok
/-- a lambda whose call lets an exception out -/
def spC (ws0 : List (Option V)) (c : Addr) : SpL := fun ws H _ E => ws = ws0 ∧ ∀ H', Same H H' → E (.ref c) none H'
/-- one that draws before -/
def spD (K : PySem.W.Frag) (r sc : Addr) (ws0 : List (Option V)) (c : Addr) : SpL := fun ws H _ E => ws = ws0 ∧ Rw K H r sc ∧ ∀ H', SameX r H H' → RowS H' r sc → E (.ref c) none H'
def sl_1 : Scope := { kind := .function, names := [("_law_bad", .free), ("_law_book", .free), ("travel_list", .globalImplicit)], isGenerator := false, isCoroutine := false }
theorem sl_1_ok : NScope ["_law_book", "_law_bad"] [] ["_law_book", "_law_bad"] sl_1 := nscope_by (by decide +kernel)
def sl_2 : Scope := { kind := .function, names := [("_law_a", .local), ("_law_book", .free), ("_law_odd", .free), ("travel_list", .globalImplicit)], isGenerator := false, isCoroutine := false }
theorem sl_2_ok : NScope ["_law_a", "_law_book", "_law_odd"] ["_law_a"] ["_law_book", "_law_odd"] sl_2 := nscope_by (by decide +kernel)
def sl_3 : Scope := { kind := .function, names := [("_law_b", .local), ("_law_book", .free), ("_law_d", .free), ("travel_list", .globalImplicit), ("_law_pick", .globalImplicit)], isGenerator := false, isCoroutine := false }
theorem sl_3_ok : NScope ["_law_b", "_law_book", "_law_d"] ["_law_b"] ["_law_book", "_law_d"] sl_3 := nscope_by (by decide +kernel)
def sp_law (K : PySem.W.Frag) (tab : Addr) : Sp := fun vs H Q _ => ∃ (a : Addr) (ns : List Int), vs = [.ref a] ∧ SqL K H a (ns.map V.int) ∧ ns.length ≤ 63 ∧ H tab = some (.tbl #[]) ∧ ∀ H', Q (.bl true) H'
section
variable {P : Program} {w : World} {K : PySem.W.Frag} {mg : Str → Option Value} {base : Heap}
def wsT (T : Txt K mg) : List (Addr × Nat) := [(T.e_InvalidAddress.C, 7), (T.e_InvalidDay.C, 8), (T.e_InvalidNumber.C, 9)]
theorem told_law (T : Txt K mg) : GetsA P w K mg base (14 + 2) 14 T.law_told.f (TTt (wsT T)) := gets_told T 14 (wsT T) fun x hx => by
  unfold wsT at hx
  simp only [List.mem_cons, List.not_mem_nil, or_false] at hx
  rcases hx with rfl | rfl | rfl
  · exact ⟨T.t_InvalidAddress, show 7 < 12 by decide⟩
  · exact ⟨T.t_InvalidDay, show 8 < 12 by decide⟩
  · exact ⟨T.t_InvalidNumber, show 9 < 12 by decide⟩
def TbL (T : Txt K mg) (s : Shared) : List (Addr × Str) := [(T.cd_law.tab, (envOfC "law" (defScope s_law) s.heap.objs.size T.law.f (.ref T.cd_law.c)).qual ++ "<lambda>")]
theorem ok_law (T : Txt K mg) (tb : TabB base mg T.cd_law.c T.cd_law.tab) : FnOk P w K mg base (L2.CX P w) 17 T.law.f T.law.fd ["_law_script"] (sp_law K T.cd_law.tab) := by
  have G_law_dice := ok_dice (P := P) (w := w) (base := base) T
  have G_law_next := ok_next (P := P) (w := w) (base := base) T
  have G_law_pick := ok_pick (P := P) (w := w) (base := base) T
  have G_law_orders := ok_rorders (P := P) (w := w) (base := base) T
  have G_law_arrivals := ok_arrs (P := P) (w := w) (base := base) T
  have G_law_grouped := ok_grouped (P := P) (w := w) (base := base) T
  have G_law_made := ok_made (P := P) (w := w) (base := base) T
  have G_travel_list := ok_travel_g (P := P) (w := w) (base := base) T
  have G_travel_list_x := ok_travel_x (P := P) (w := w) (base := base) T
  have G_law_told := told_law (P := P) (w := w) (base := base) T
  refine okXc T.law.F T.cd_law sc_law (fun vs H Q E h => ?_) (fun A outer s H vs Q E hr h => ?_)
  · obtain ⟨sc, ns, rfl, _⟩ := h
    rfl
  · obtain ⟨sc, ns, rfl, hsc, l63, ht, k⟩ := h
    refine ⟨_, (pss_cons (ps_set (i := 1) sc_law.nd rfl (Or.inr rfl) (pe_call G_law_dice (hr.mono (by first | decide | omega)) rfl T.law_dice.mg T.law_dice.F.kp T.law_dice.b .nil passF (pa_cons (pv 0) pa_nil)))
  (pss_cons (ps_for (passes_of rfl) rfl (pi_range1 (by rfl) T.n_range (pa_cons pe_int pa_nil)) (pg_name (i := 2) sc_law.nd rfl (Or.inl rfl))
    (pss_cons (ps_set (i := 3) sc_law.nd rfl (Or.inr rfl) (pe_call G_law_pick (hr.mono (by first | decide | omega)) rfl T.law_pick.mg T.law_pick.F.kp T.law_pick.b .nil passF (pa_cons (pv 1) (pa_cons (pe_lst (pa_cons pe_int (pa_cons (pe_op op_mul (pe_call G_law_next (hr.mono (by first | decide | omega)) rfl T.law_next.mg T.law_next.F.kp T.law_next.b .nil passF (pa_cons (pv 1) (pa_cons (pe_op op_pow pe_int pe_int) pa_nil))) (pe_op op_pow pe_int pe_int)) (pa_cons (pe_op op_sub (pe_op op_pow pe_int pe_int) pe_int) pa_nil)))) pa_nil))))
  (pss_cons (ps_setLc (i := 4) (own := [("_law_one", 5)]) rfl sc_law.nd rfl rfl (sw_true rfl rfl rfl (by decide +kernel)) (pi_list (pe_call G_law_orders (hr.mono (by first | decide | omega)) rfl T.law_orders.mg T.law_orders.F.kp T.law_orders.b .nil passF (pa_cons (pv 1) (pa_cons pe_int (pa_cons pe_int pa_nil))))) (blkOk_by (sc := defScope s_law) (N := ["_law_script", "_law_d", "_law_turn", "_law_far", "_law_orders_here", "_law_one", "_law_address", "_law_day", "_law_count", "_law_lines", "_law_name", "_law_arrival", "_law_number", "_law_bad", "_law_odd", "_law_book", "_law_work", "_law_due"]) (own := [("_law_one", 5)]) (by decide +kernel)) (fun _ _ _ _ _ => pg_name (i := 5) sc_law.nd rfl (Or.inl rfl)) (fun _ _ _ _ _ => pts_nil) (fun _ _ _ _ _ => (pe_tup (pa_cons (pe_ix (ix_tupK (K := K)) (pv 5) pe_int (fun _ _ => rfl)) (pa_cons (pe_ix (ix_tupK (K := K)) (pv 5) pe_int (fun _ _ => rfl)) (pa_cons (pe_op op_add (pe_ix (ix_tupK (K := K)) (pv 5) pe_int (fun _ _ => rfl)) (pv 3)) (pa_cons (pe_op op_add (pe_ix (ix_tupK (K := K)) (pv 5) pe_int (fun _ _ => rfl)) (pv 3)) (pa_cons (pe_ix (ix_tupK (K := K)) (pv 5) pe_int (fun _ _ => rfl)) pa_nil))))))))
  (pss_cons (ps_par (i := 6) (j := 7) rfl sc_law.nd rfl rfl (by decide) rfl rfl (pa_cons (pe_call G_law_pick (hr.mono (by first | decide | omega)) rfl T.law_pick.mg T.law_pick.F.kp T.law_pick.b .nil passF (pa_cons (pv 1) (pa_cons (pe_lst (pa_cons pe_str (pa_cons pe_str (pa_cons pe_str (pa_cons pe_str (pa_cons pe_str pa_nil)))))) pa_nil))) (pa_cons (pe_op op_add (pv 3) (pe_call G_law_next (hr.mono (by first | decide | omega)) rfl T.law_next.mg T.law_next.F.kp T.law_next.b .nil passF (pa_cons (pv 1) (pa_cons pe_int pa_nil)))) pa_nil)) (by rfl))
  (pss_cons (ps_par (i := 8) (j := 9) rfl sc_law.nd rfl rfl (by decide) rfl rfl (pa_cons (pe_call G_law_pick (hr.mono (by first | decide | omega)) rfl T.law_pick.mg T.law_pick.F.kp T.law_pick.b .nil passF (pa_cons (pv 1) (pa_cons (pe_lst (pa_cons pe_int (pa_cons pe_int (pa_cons (pe_call G_law_next (hr.mono (by first | decide | omega)) rfl T.law_next.mg T.law_next.F.kp T.law_next.b .nil passF (pa_cons (pv 1) (pa_cons pe_int pa_nil))) (pa_cons pe_int pa_nil))))) pa_nil))) (pa_cons (pe_lst pa_nil) pa_nil)) (by rfl))
  (pss_cons (ps_for (passes_of rfl) rfl (pi_list (pe_call G_law_arrivals (hr.mono (by first | decide | omega)) rfl T.law_arrivals.mg T.law_arrivals.F.kp T.law_arrivals.b .nil passF (pa_cons (pv 4) (pa_cons (pv 6) (pa_cons (pv 7) (pa_cons (pe_callB (call_max2 rfl) (by rfl) T.n_max (by decide +kernel) (pa_cons pe_int (pa_cons (pv 8) pa_nil))) pa_nil)))))) (pg_tupK (K := K) (n := 2) rfl rfl (pgs_cons (pg_name (i := 10) sc_law.nd rfl (Or.inl rfl)) (pgs_cons (pg_name (i := 11) sc_law.nd rfl (Or.inl rfl)) pgs_nil)))
    (pss_cons (ps_set (i := 12) sc_law.nd rfl (Or.inl rfl) (pe_call G_law_grouped (hr.mono (by first | decide | omega)) rfl T.law_grouped.mg T.law_grouped.F.kp T.law_grouped.b .nil passF (pa_cons (pv 11) pa_nil)))
  (pss_one (ps_expr (pe_bm PySem.F.plainAttrs_list PySem.F.slot_list_append PySem.F.type_list_append mt_append (pv 9) (pa_cons (pe_op op_add_str (pe_op op_add_str (pe_op op_add_str (pv 10) (pe_op op_mulS pe_str (pe_op op_sub pe_int (pe_callB call_len_str (by rfl) T.n_len (by decide +kernel) (pa_cons (pv 10) pa_nil))))) (pe_op op_mulS pe_str (pe_op op_sub pe_int (pe_callB call_len_str (by rfl) T.n_len (by decide +kernel) (pa_cons (pv 12) pa_nil))))) (pv 12)) pa_nil))))))
  (pss_cons (ps_if (pt_cmpR op_ne (pe_call G_travel_list (hr.mono (by first | decide | omega)) rfl T.travel_list.mg T.travel_list.F.kp T.travel_list.b .nil passF (pa_cons (pe_call G_law_made (hr.mono (by first | decide | omega)) rfl T.law_made.mg T.law_made.F.kp T.law_made.b .nil passF (pa_cons (pv 4) pa_nil)) (pa_cons (pv 6) (pa_cons (pv 7) (pa_cons (pv 8) pa_nil))))) (pe_join pe_str (pe_ifExp (pt_cmpR op_gt (pv 8) pe_int (nomark _)) (pv 9) (pe_lst pa_nil))) (nomark _))
    (pss_one (ps_ret pe_bl))
    pss_nil)
  (pss_cons (ps_asg (pe_tup (pa_cons (pe_call G_law_pick (hr.mono (by first | decide | omega)) rfl T.law_pick.mg T.law_pick.F.kp T.law_pick.b .nil passF (pa_cons (pv 1) (pa_cons (pe_lst (pa_cons pe_str (pa_cons pe_str (pa_cons pe_non (pa_cons pe_int pa_nil))))) pa_nil))) (pa_cons (pe_call G_law_pick (hr.mono (by first | decide | omega)) rfl T.law_pick.mg T.law_pick.F.kp T.law_pick.b .nil passF (pa_cons (pv 1) (pa_cons (pe_lst (pa_cons (pe_un un_neg pe_int) (pa_cons (pe_op op_add (pe_op op_pow pe_int pe_int) pe_int) (pa_cons pe_non (pa_cons pe_bl pa_nil))))) pa_nil))) pa_nil))) (pg_tupK (K := K) (n := 2) rfl rfl (pgs_cons (pg_name (i := 13) sc_law.nd rfl (Or.inr rfl)) (pgs_cons (pg_name (i := 14) sc_law.nd rfl (Or.inr rfl)) pgs_nil))))
  (pss_cons (ps_set (i := 15) sc_law.nd rfl (Or.inr rfl) (pe_call G_law_made (hr.mono (by first | decide | omega)) rfl T.law_made.mg T.law_made.F.kp T.law_made.b .nil passF (pa_cons (pv 4) pa_nil)))
  (pss_cons (ps_set (i := 16) sc_law.nd rfl (Or.inl rfl) (pe_lst (pa_cons (pe_lam (T := [(T.cd_law.tab, _)]) tb rfl (.head _) one_tab rfl (NdefX.ndef_free (sc := defScope s_law) (fr := ["_law_book", "_law_bad"]) (by decide +kernel))) (pa_cons (pe_lamD (T := [(T.cd_law.tab, _)]) tb rfl (.head _) one_tab rfl rfl (NdefX.ndef_free (sc := defScope s_law) (fr := ["_law_book", "_law_odd"]) (by decide +kernel))) pa_nil))))
  (pss_cons (ps_expr (pe_bm PySem.F.plainAttrs_list PySem.F.slot_list_append PySem.F.type_list_append mt_append (pv 16) (pa_cons (pe_lamD (T := [(T.cd_law.tab, _)]) tb rfl (.head _) one_tab rfl rfl (NdefX.ndef_free (sc := defScope s_law) (fr := ["_law_book", "_law_d"]) (by decide +kernel))) pa_nil)))
  (pss_cons (ps_set (i := 17) sc_law.nd rfl (Or.inl rfl) (pe_lst (pa_cons (pe_tup (pa_cons pe_str (pa_cons pe_str pa_nil))) (pa_cons (pe_tup (pa_cons pe_str (pa_cons pe_str pa_nil))) (pa_cons (pe_tup (pa_cons pe_str (pa_cons pe_str pa_nil))) pa_nil)))))
  (pss_one (ps_if (pt_cmpR (op_neD hr.units) (pe_lcE (own := [("_law_one", 5)]) (te := fun σ0 => tGetsA P w K mg base 14 (fun _ => GoodL _ σ0) (TTt (wsT T)) (tVar 5)) rfl sc_law.nd (pi_list (pv 16)) (blkOk_by (sc := defScope s_law) (N := ["_law_script", "_law_d", "_law_turn", "_law_far", "_law_orders_here", "_law_one", "_law_address", "_law_day", "_law_count", "_law_lines", "_law_name", "_law_arrival", "_law_number", "_law_bad", "_law_odd", "_law_book", "_law_work", "_law_due"]) (own := [("_law_one", 5)]) (by decide +kernel)) (fun _ _ _ _ _ => pg_name (i := 5) sc_law.nd rfl (Or.inl rfl)) (fun _ _ _ _ _ => pts_nil) (fun _ σ0 _ _ _ _ _ I0 f0 => (pe_getsA (good := fun _ => GoodL _ σ0) G_law_told (pv 5) (fun _ _ _ _ _ _ _ J g => good_blk I0 f0 J g) (hr.mono (by first | decide | omega)) (by rfl) T.law_told.mg T.law_told.F.kp))) (pv 17) (nomark _))
    (pss_one (ps_ret pe_bl))
    pss_nil))))))))))))))
  (pss_one (ps_ret pe_bl)))), ?_⟩
    walk_at "rk"
    refine ⟨sc, ns, rfl, hsc, l63, fun d H0 s0 dn rw0 => ?_⟩
    have lw0 : Lw K (TbL T s) H0 d sc := ⟨rw0, (tabs_new ht).ext s0⟩
    walk_at "rk"
    refine ⟨by decide, by decide, ?_⟩
    obtain ⟨W, hW⟩ : ∃ W : Nat → L2.St → Hp → Prop, W = fun _ σ H' => ∃ v2 v3 v4 v5 v6 v7 v8 v9 v10 v11 v12 v13 v14 v15 v16 v17 : Option V, σ = [some (.ref sc), some (.ref d), v2, v3, v4, v5, v6, v7, v8, v9, v10, v11, v12, v13, v14, v15, v16, v17] ∧ Lw K (TbL T s) H' d sc := ⟨_, rfl⟩
    refine for_rel (walk_range (lo := 0) (n := 4)) W ?_ (fun _ _ _ _ _ => trivial) ?_ ?_
    · rw [hW]
      exact ⟨_, _, _, _, _, _, _, _, _, _, _, _, _, _, _, _, rfl, lw0⟩
    · rintro turn x σ H1 H2 hj hw ⟨rfl, rfl⟩
      rw [hW] at hw
      obtain ⟨v2, v3, v4, v5, v6, v7, v8, v9, v10, v11, v12, v13, v14, v15, v16, v17, rfl, lw1⟩ := hw
      walk_at "rk"
      have e9 : (10 : Int) ^ Int.toNat 9 = 1000000000 := by decide
      have e8 : (10 : Int) ^ Int.toNat 8 = 100000000 := by decide
      have e18 : (10 : Int) ^ Int.toNat 18 = 1000000000000000000 := by decide
      have dm : dayM = 1000000000000000000 := by decide
      refine ⟨⟨by decide, by decide⟩, d, sc, _, rfl, lw1.rw_, by decide, by decide, fun f H3 f0 f1 x3 row3 => ?_⟩
      have lw3 := lw1.next x3 row3
      rw [e9] at f1
      refine ⟨⟨by decide, by decide⟩, f, rfl, .inl ⟨by omega, by omega⟩, ⟨by decide, by decide⟩, by decide, fun p1 hp1 => ?_⟩
      obtain ⟨H4, eH4, s4, a4⟩ := new_obj (.lst [V.int 0, V.int (f * 10 ^ Int.toNat 8), V.int (10 ^ Int.toNat 18 - 40)]) hp1
      rw [eH4]
      have lw4 := lw3.same s4
      refine ⟨d, sc, p1, _, rfl, lw4.rw_, a4, ne_of_none' lw3.rw_.row hp1, (show 0 < 3 by decide), (show 3 ≤ 100000 by decide), fun i1 v1 H5 hv1 x5 row5 => ?_⟩
      have lw5 := lw4.next x5 row5
      obtain ⟨far, rfl, far0, farM⟩ : ∃ far : Int, v1 = .int far ∧ 0 ≤ far ∧ far ≤ 999999999999999960 := by
        have i3 := (List.getElem?_eq_some_iff.mp hv1).1
        have : i1 = 0 ∨ i1 = 1 ∨ i1 = 2 := by
          have i3 : i1 < 3 := i3
          omega
        rcases this with rfl | rfl | rfl <;> cases hv1
        · exact ⟨_, rfl, by decide, by decide⟩
        · exact ⟨_, rfl, by rw [e8]; omega, by rw [e8]; omega⟩
        · exact ⟨_, rfl, by decide, by decide⟩
      clear lw1 lw3 lw4 x3 row3 x5 row5 s4 a4 eH4 hp1 hv1 f0 f1
      clear f
      refine ⟨d, sc, 6, 9, rfl, lw5.rw_, by decide, by decide, by decide, by decide, fun l0 os0 H6 x6 row6 hl0 ok0 len0 do0 => ?_⟩
      have lw6 := lw5.next x6 row6
      clear lw5 x6 row6
      have m0 : os0.length ≤ 6 := by omega
      obtain ⟨ps, hps, hos⟩ := id hl0
      have len : ps.length = os0.length := Paired.length hos
      refine ⟨l0, rfl, ⟨_, SqL.of hps⟩, fun D hD => ?_⟩
      refine comp_rel (walk_list (K := K) (a := l0) (xs := ps.map V.ref)) (fun i acc H' => ∃ qs : List Addr, acc = qs.map V.ref ∧ Paired (OrdAt H') qs ((os0.map (Ord.later far)).take i)) (by rw [List.length_map, len]; omega) hD (fun H' s' => SqL.of (s' _ _ hps)) ?_ ⟨[], rfl, .nil⟩ ?_ ?_ ?_
      · rintro i acc G1 G2 sn ⟨qs, e, pr⟩
        exact ⟨qs, e, ordsUp sn pr⟩
      · rintro i acc G1 ⟨qs, rfl, pr⟩
        have := Paired.length pr
        rw [List.length_take] at this
        rw [List.length_map]
        omega
      · rintro i x G1 G2 acc hi s8 ⟨qs, rfl, pr⟩ ⟨rfl, ex⟩ no yes _ hy
        rw [List.length_map] at hi
        obtain ⟨pp, hpp⟩ : ∃ pp, ps[i]? = some pp := ⟨_, List.getElem?_eq_getElem hi⟩
        obtain ⟨o, ho, hpo⟩ := Paired.at hos hpp
        rw [List.getElem?_map, hpp] at ex
        cases ex
        have hq := s8 _ _ hpo
        walk_at "rk"
        refine ixT_of hq (by rfl) (ixT_of hq (by rfl) (ixT_of hq (by rfl) ⟨_, rfl, ixT_of hq (by rfl) ⟨_, rfl, ixT_of hq (by rfl) ⟨by decide, fun q hq' => ?_⟩⟩⟩))
        refine hy _ _ (same_new hq') ⟨qs ++ [q], by simp, ?_⟩
        rw [take_one (show (os0.map (Ord.later far))[i]? = some (Ord.later far o) by rw [List.getElem?_map, ho]; rfl)]
        exact Paired.app (ordsUp (SameN.of (same_new hq')) pr) (.cons upd_same .nil)
      rintro acc H8 s8 atD ⟨qs, rfl, pr⟩
      rw [List.length_map, len, List.take_of_length_le (by rw [List.length_map]; exact Nat.le_refl _)] at pr
      have hlD : LstAt H8 D (os0.map (Ord.later far)) := ⟨qs, atD, pr⟩
      have lw8 := lw6.same s8
      have ok : OkB (os0.map (Ord.later far)) := later_ok ok0 far0 fun o ho => by
        have h := do0 o ho
        have := h.fm
        have := h.lm
        omega
      have win : ∀ o ∈ os0.map (Ord.later far), far ≤ o.fst ∧ o.lst ≤ far + 17 := fun o ho => by
        obtain ⟨u, hu, rfl⟩ := List.mem_map.mp ho
        have h := do0 u hu
        have := h.f0
        have := h.fm
        have := h.lm
        show far ≤ u.fst + far ∧ u.lst + far ≤ far + 17
        omega
      obtain ⟨os, eos⟩ : ∃ os, os = os0.map (Ord.later far) := ⟨_, rfl⟩
      have mm : os.length ≤ 6 := by rw [eos, List.length_map]; exact m0
      rw [← eos] at hlD ok win
      clear eos pr atD hps hos len hD lw6 s8 hl0 ok0 do0 len0 m0
      clear ps qs os0
      refine ⟨by decide, fun p2 hp2 => ?_⟩
      obtain ⟨H9, eH9, s9, a9⟩ := new_obj (.lst [V.str (Str.ofString "a"), V.str (Str.ofString "b"), V.str (Str.ofString "c"), V.str (Str.ofString "dd"), V.str (Str.ofString "eeeeeeee")]) hp2
      rw [eH9]
      have lw9 := lw8.same s9
      have hl9 := hlD.up s9
      refine ⟨d, sc, p2, _, rfl, lw9.rw_, a9, ne_of_none' lw8.rw_.row hp2, (show 0 < 5 by decide), (show 5 ≤ 100000 by decide), fun i2 v2' HA hv2 xA rowA => ?_⟩
      have lwA := lw9.next xA rowA
      have hlA := hl9.upX lw9.rw_.row xA
      obtain ⟨a, rfl, aA⟩ : ∃ a : Str, v2' = .str a ∧ adrB (.str a) = true := by
        have i3 := (List.getElem?_eq_some_iff.mp hv2).1
        have : i2 = 0 ∨ i2 = 1 ∨ i2 = 2 ∨ i2 = 3 ∨ i2 = 4 := by
          have i3 : i2 < 5 := i3
          omega
        rcases this with rfl | rfl | rfl | rfl | rfl <;> cases hv2
        · exact ⟨_, rfl, by decide +kernel⟩
        · exact ⟨_, rfl, by decide +kernel⟩
        · exact ⟨_, rfl, by decide +kernel⟩
        · exact ⟨_, rfl, by decide +kernel⟩
        · exact ⟨_, rfl, by decide +kernel⟩
      refine ⟨d, sc, 12, rfl, lwA.rw_, by decide, by decide, fun tv HB t0 t1 xB rowB => ⟨far, rfl, tv, rfl, ?_⟩⟩
      have lwB := lwA.next xB rowB
      have hlB := hlA.upX lwA.rw_.row xB
      refine ⟨d, sc, 9, rfl, lwB.rw_, by decide, by decide, fun c9 HC c0 c1 xC rowC => ⟨by decide, fun p3 hp3 => ?_⟩⟩
      have lwC := lwB.next xC rowC
      have hlC := hlB.upX lwB.rw_.row xC
      obtain ⟨HD, eHD, sD, aD⟩ := new_obj (.lst [V.int 0, V.int 1, V.int c9, V.int 1000]) hp3
      rw [eHD]
      have lwD := lwC.same sD
      have hlD := hlC.up sD
      refine ⟨d, sc, p3, _, rfl, lwD.rw_, aD, ne_of_none' lwC.rw_.row hp3, (show 0 < 4 by decide), (show 4 ≤ 100000 by decide), fun i3' v3' HE hv3 xE rowE => ?_⟩
      have lwE := lwD.next xE rowE
      have hlE := hlD.upX lwD.rw_.row xE
      obtain ⟨n, rfl, n1000⟩ : ∃ n : Nat, v3' = .int (n : Nat) ∧ n ≤ 1000 := by
        have i3 := (List.getElem?_eq_some_iff.mp hv3).1
        have : i3' = 0 ∨ i3' = 1 ∨ i3' = 2 ∨ i3' = 3 := by
          have i3 : i3' < 4 := i3
          omega
        rcases this with rfl | rfl | rfl | rfl <;> cases hv3
        · exact ⟨0, rfl, by decide⟩
        · exact ⟨1, rfl, by decide⟩
        · exact ⟨c9.toNat, by rw [show ((c9.toNat : Nat) : Int) = c9 by omega], by omega⟩
        · exact ⟨1000, rfl, by decide⟩
      obtain ⟨dy, edy⟩ : ∃ dy, dy = far + tv := ⟨_, rfl⟩
      have dy0 : far ≤ dy := by omega
      have dyM : okD dy := ⟨by omega, by omega⟩
      rw [← edy]
      clear lwA lwB lwC lwD hlA hlB hlC hlD lw8 lw9 hl9 xA rowA xB rowB xC rowC xE rowE sD aD eHD hp3 hv3 s9 a9 eH9 hp2 hv2 t0 t1 c0 c1 edy
      clear tv c9
      dsimp only
      refine ⟨by decide, fun p4 hp4 => ⟨_, rfl, ?_⟩⟩
      obtain ⟨HF, eHF, sF, aF⟩ := new_obj (.lst []) hp4
      rw [eHF]
      have em : (if ((n : Nat) : Int) > 1 then ((n : Nat) : Int) else 1) = ((max 1 n : Nat) : Int) := by
        by_cases c : ((n : Nat) : Int) > 1
        · rw [if_pos c]
          omega
        · rw [if_neg c]
          omega
      rw [em]
      have lwF := lwE.same sF
      have hlF := hlE.up sF
      refine ⟨D, os, a, dy, max 1 n, rfl, hlF, by omega, by omega, by omega, fun t ps as HG sG tn at_ L R => ⟨t, rfl, ⟨_, SqL.of at_⟩, ?_⟩⟩
      have lwG := lwF.same sG
      have hlG := hlF.up sG
      have aG := sG _ _ aF
      have p4d : p4 ≠ d := ne_of_none' lwE.rw_.row hp4
      have factG : ∀ (k : Nat) (as : List Pt), RouteOf os (a, dy) k as → as.length ≤ 19 ∧ ∀ u ∈ as, adrB (.str u.1) = true ∧ ∃ m : Nat, u.2 = (m : Nat) ∧ m < 10 ^ 30 := fun k as R => by
        have sz := route_short ok R (fun o ho => (win o ho).2) (by show far + 17 ≤ dy + 17; omega)
        refine ⟨sz, fun u hu => ?_⟩
        obtain ⟨i, hi⟩ := List.getElem?_of_mem hu
        have g := R.at_ i u hi
        have f := g.far ok
        have il := (List.getElem?_eq_some_iff.mp hi).1
        refine ⟨g.adr ok aA, u.2.toNat, ?_, ?_⟩
        · have : 0 ≤ dy := dyM.1
          have f1 : dy + i ≤ u.2 := f.1
          omega
        · have : dy ≤ dayM := dyM.2
          have f2 : u.2 ≤ dy + 30 * i := f.2
          have e30 : (10 : Nat) ^ 30 = 1000000000000000000000000000000 := by decide
          omega
      obtain ⟨sz, fact⟩ := factG _ _ R
      clear aF eHF lwF hlF lwG hlG em
      have len : ps.length = as.length := Paired.length L
      obtain ⟨Y, hY⟩ : ∃ Y : Nat → L2.St → Hp → Prop, Y = fun i σ H' => ∃ v10 v11 v12 : Option V, σ = [some (.ref sc), some (.ref d), some (.int (0 + (turn : Nat))), some (.int far), some (.ref D), v5, some (.str a), some (.int dy), some (.int (n : Nat)), some (.ref p4), v10, v11, v12, v13, v14, v15, v16, v17] ∧ SameX p4 HG H' ∧ H' p4 = some (.lst ((as.take i).map fun u => V.str (lineP u))) := ⟨_, rfl⟩
      have tp : t ≠ p4 := fun z => by
        rw [z] at at_
        rw [aG] at at_
        injection at_ with q
        injection q with q
        have l0 : ps.length = 0 := by
          have := congrArg List.length q
          rw [List.length_map] at this
          exact this.symm
        rw [len] at l0
        obtain ⟨h1, _⟩ : as.length < max 1 n ∧ True := ⟨by omega, trivial⟩
        obtain ⟨q2, hq2, _⟩ := R.whole h1
        have := (List.getElem?_eq_some_iff.mp hq2).1
        omega
      refine for_rel (walk_list (K := K) (a := t) (xs := ps.map V.ref)) Y ?_ (fun i σ H' _ hy => ?_) ?_ ?_
      · rw [hY]
        exact ⟨_, _, _, rfl, SameX.refl _ _, aG⟩
      · rw [hY] at hy
        obtain ⟨w10, w11, w12, rfl, xx, _⟩ := hy
        exact SqL.of (xx _ _ tp at_)
      · rintro i x σ G1 G2 hi hy ⟨rfl, ex⟩
        rw [hY] at hy
        obtain ⟨w10, w11, w12, rfl, xx, ap⟩ := hy
        rw [List.length_map] at hi
        obtain ⟨q, hq⟩ : ∃ q, ps[i]? = some q := ⟨_, List.getElem?_eq_getElem hi⟩
        obtain ⟨u, hu, hqu⟩ := Paired.at L hq
        rw [List.getElem?_map, hq] at ex
        cases ex
        obtain ⟨au, m, em, lm⟩ := fact u (List.mem_of_getElem? hu)
        have hqu2 : G2 q = some (.tup [.str u.1, .int u.2]) := xx _ _ (fun z => by rw [z, aG] at hqu; cases hqu) hqu
        have cl := commaS_len lm
        have al := adr_len au
        have big : ∀ k : Nat, k ≤ 1000 → k ≤ sizeLine := fun k h => Nat.le_trans h (by decide)
        walk_at "rk"
        refine ⟨_, SqT.of hqu2, rfl, _, _, rfl, _, _, rfl, rfl, ?_⟩
        walk_at "rk"
        rw [em]
        refine ⟨m, rfl, lm, ?_⟩
        dsimp only
        have p63 : (2 : Int) ^ 63 = 9223372036854775808 := by decide
        have l1 := mul_len (8 - ((u.1.length : Nat) : Int))
        have l2 := mul_len (30 - (((commaS ((m : Nat) : Int)).length : Nat) : Int))
        refine ⟨tyL ap, big _ (by omega), ⟨_, _, rfl, rfl, by decide, by omega, by omega, _, rfl, big _ (by omega), _, rfl, big _ (by omega), ⟨_, _, rfl, rfl, by decide, by omega, by omega, _, rfl, big _ (by rw [str_app_len]; omega), _, rfl, big _ (by rw [str_app_len, str_app_len]; omega), ?_⟩⟩⟩
        refine app_of ap (by rw [List.length_map, List.length_take]; omega) ?_
        rw [hY]
        refine ⟨_, _, _, rfl, xx.trans SameX.upd, ?_⟩
        rw [upd_same, take_one hu, List.map_append, line_eq u em]
        rfl
      · rintro σ G1 hy
        rw [hY] at hy
        obtain ⟨w10, w11, w12, rfl, xx, ap⟩ := hy
        have ol : (ps.map V.ref).length = as.length := by rw [List.length_map, len]
        rw [ol, List.take_length] at ap
        have sEG : Same HE G1 := fun b o h => xx b o (fun z => by rw [z, hp4] at h; cases h) (sG _ _ (sF _ _ h))
        have lwI := lwE.same sEG
        have hlI := hlE.up sEG
        clear xx hY at_ aG L lwE hlE sEG sG sF hp4 tp fact len ol p4d tn
        walk_at "rk"
        refine ⟨D, os, rfl, hlI, ok, fun b HJ sJ hb => ?_⟩
        have apJ := sJ _ _ ap
        refine ⟨b, os, a, dy, n, rfl, hb, ok, aA, dyM, n1000, fun as' R' => ⟨Nat.le_trans (factG _ _ R').1 (by decide), fun u hu => ((factG _ _ R').2 u hu).2⟩, fun as2 HK sK R2 => ?_⟩
        have apK := sK _ _ apJ
        have sIK := sJ.trans sK
        have lwK := lwI.same sIK
        have hlK := hlI.up sIK
        clear lwI hlI sIK sJ sK apJ ap hb
        dsimp only
        have sumL : ∀ as' : List Pt, (∀ k, RouteOf os (a, dy) k as' → ((as'.map lineP).map fun x => x.length).sum + (as'.map lineP).length * (Str.ofString "\n").length ≤ 16777216) := fun as' k R' => by
          have h1 := sum_le as' fun u hu => by
            obtain ⟨au, m, em, lm⟩ := (factG _ _ R').2 u hu
            exact line_le au em lm
          have h2 := (factG _ _ R').1
          rw [List.length_map, show (Str.ofString "\n").length = 1 by decide]
          omega
        walk_at "rt"
        by_cases n0 : n = 0
        rw [if_neg (by omega)]
        subst n0
        obtain rfl := route_nil R2
        refine ⟨⟨_, rfl⟩, by decide, fun q5 hq5 => ⟨[], .inl (SqL.of upd_same), by decide, ?_⟩⟩
        have sKL := same_new (o := .lst []) hq5
        obtain ⟨HL, eHL⟩ : ∃ HL, HL = upd HK q5 (.lst []) := ⟨_, rfl⟩
        have lwL : Lw K (TbL T s) HL d sc := eHL ▸ lwK.same sKL
        have hlL : LstAt HL D os := eHL ▸ hlK.up sKL
        rw [← eHL]
        refine neS_of ⟨false, by simp, ?_⟩
        rw [if_neg (by decide)]
        clear eHL sKL hq5 lwK hlK apK
        rotate_left
        rw [if_pos (by omega)]
        obtain rfl : as2 = as := R2.det (by rw [show max 1 n = n by omega] at R; exact R)
        refine ⟨⟨_, rfl⟩, as2.map lineP, .inl (SqL.of (by rw [apK, List.map_map]; rfl)), sumL _ _ R2, ?_⟩
        refine neS_of ⟨false, by simp, ?_⟩
        rw [if_neg (by decide)]
        obtain ⟨HL, eHL⟩ : ∃ HL, HL = HK := ⟨_, rfl⟩
        have lwL : Lw K (TbL T s) HL d sc := eHL ▸ lwK
        have hlL : LstAt HL D os := eHL ▸ hlK
        rw [← eHL]
        clear eHL lwK hlK apK
        all_goals
          clear sumL factG R R2
          walk_at "rk"
          refine ⟨by decide, fun p5 hp5 => ?_⟩
          obtain ⟨M1, eM1, r1, b1⟩ := new_obj (.lst [V.str (Str.ofString "A"), V.str (Str.ofString ""), V.non, V.int 5]) hp5
          rw [eM1]
          have lwM1 := lwL.same r1
          refine ⟨d, sc, p5, _, rfl, lwM1.rw_, b1, ne_of_none' lwL.rw_.row hp5, (show 0 < 4 by decide), (show 4 ≤ 100000 by decide), fun j1 bv M2 hbv y2 row2 => ?_⟩
          have lwM2 := lwM1.next y2 row2
          have hlM2 := (hlL.up r1).upX lwM1.rw_.row y2
          obtain ⟨abv, kbv⟩ : adrB bv = false ∧ ∀ H, ∃ t, Kd H bv t := by
            have i3 := (List.getElem?_eq_some_iff.mp hbv).1
            have : j1 = 0 ∨ j1 = 1 ∨ j1 = 2 ∨ j1 = 3 := by
              have i3 : j1 < 4 := i3
              omega
            rcases this with rfl | rfl | rfl | rfl <;> cases hbv
            · exact ⟨by decide +kernel, fun H => ⟨_, .str _ (by decide)⟩⟩
            · exact ⟨by decide +kernel, fun H => ⟨_, .str _ (by decide)⟩⟩
            · exact ⟨rfl, fun H => ⟨_, .non⟩⟩
            · exact ⟨rfl, fun H => ⟨_, .int _⟩⟩
          refine ⟨⟨by decide, by decide⟩, by decide, fun p6 hp6 => ?_⟩
          obtain ⟨M3, eM3, r3, b3⟩ := new_obj (.lst [V.int (-1), V.int (10 ^ Int.toNat 18 + 1), V.non, V.bl true]) hp6
          rw [eM3]
          have lwM3 := lwM2.same r3
          refine ⟨d, sc, p6, _, rfl, lwM3.rw_, b3, ne_of_none' lwM2.rw_.row hp6, (show 0 < 4 by decide), (show 4 ≤ 100000 by decide), fun j2 ov M4 hov y4 row4 => ?_⟩
          have lwM4 := lwM3.next y4 row4
          have hlM4 := (hlM2.up r3).upX lwM3.rw_.row y4
          obtain ⟨aov, kov⟩ : numB ov 0 dayM = false ∧ ∀ H, ∃ t, Kd H ov t := by
            have i3 := (List.getElem?_eq_some_iff.mp hov).1
            have : j2 = 0 ∨ j2 = 1 ∨ j2 = 2 ∨ j2 = 3 := by
              have i3 : j2 < 4 := i3
              omega
            rcases this with rfl | rfl | rfl | rfl <;> cases hov
            · exact ⟨by decide +kernel, fun H => ⟨_, .int _⟩⟩
            · exact ⟨by decide +kernel, fun H => ⟨_, .int _⟩⟩
            · exact ⟨rfl, fun H => ⟨_, .non⟩⟩
            · exact ⟨rfl, fun H => ⟨_, .bl _⟩⟩
          refine ⟨by decide, fun p7 hp7 => ?_⟩
          obtain ⟨M5, eM5, r5, b5⟩ := new_obj (.tup [bv, ov]) hp7
          rw [eM5]
          refine ⟨_, SqT.of b5, rfl, _, _, rfl, _, _, rfl, rfl, ?_⟩
          refine ⟨D, os, rfl, hlM4.up r5, ok, fun bk M6 r6 hbk => ?_⟩
          have lwM6 := (lwM4.same r5).same r6
          clear lwL hlL lwM1 lwM2 hlM2 lwM3 lwM4 hlM4 r1 r3 r5 r6 b1 b3 b5 y2 row2 y4 row4 eM1 eM3 eM5 hp5 hp6 hp7 hbv hov
          walk_at "rk"
          refine ⟨lwM6.tb, fun f1 c1 M7 ext7 _ t7 fn7 at1 co1 => ?_⟩
          walk_at "rk"
          refine ⟨t7, fun f2 c2 T2 M8 ext8 t8 fn8 at2 t02 co2 => ?_⟩
          refine ⟨by decide, fun wl hwl => ?_⟩
          obtain ⟨M9, eM9, r9, b9⟩ := new_obj (.lst [V.ref f1, V.ref f2]) hwl
          rw [eM9]
          refine ⟨tyL b9, ?_⟩
          walk_at "rk"
          refine ⟨t8.ext r9, fun f3 c3 T3 MA extA tA fnA at3 t03 co3 => ?_⟩
          have bA : MA wl = some (.lst [V.ref f1, V.ref f2]) := extA _ _ b9 (fun _ z => by cases z)
          have lwA : Lw K (TbL T s) MA d sc := ((((lwM6.lam ext7 t7).lam ext8 t8).same r9).lam extA tA)
          have wd_ : wl ≠ d := ne_of_none' ((lwM6.lam ext7 t7).lam ext8 t8).rw_.row hwl
          refine app_of bA (by show 2 ≤ 100000; decide) ?_
          have lwB : Lw K (TbL T s) (upd MA wl (.lst [V.ref f1, V.ref f2, V.ref f3])) d sc := lwA.put (f := f1) (xs := [V.ref f2]) bA wd_
          have kB : KeepF MA (upd MA wl (.lst [V.ref f1, V.ref f2, V.ref f3])) := KeepF.put bA
          obtain ⟨MB, eMB⟩ : ∃ MB, MB = upd MA wl (.lst [V.ref f1, V.ref f2, V.ref f3]) := ⟨_, rfl⟩
          have bB : MB wl = some (.lst ([f1, f2, f3].map V.ref)) := by rw [eMB]; exact upd_same
          show _ ∧ _
          rw [show ([V.ref f1, V.ref f2] ++ [V.ref f3] : List V) = [V.ref f1, V.ref f2, V.ref f3] from rfl, ← eMB]
          rw [← eMB] at lwB kB
          have k9 : KeepF M9 MB := (KeepF.ext extA).trans kB
          have k8 : KeepF M8 MB := (KeepF.same r9).trans k9
          have k7 : KeepF M7 MB := (KeepF.ext ext8).trans k8
          have al1 := keep_lam k7 (show AlL _ _ _ _ from ⟨at1, co1⟩)
          have al2 := keep_dfl k8 (show AlD _ _ _ _ _ from ⟨at2, t02, co2⟩)
          have al3 := keep_dfl kB (show AlD _ _ _ _ _ from ⟨at3, t03, co3⟩)
          clear k7 k8 k9 kB eMB lwA bA at2 t02 co2 at3 t03 co3 extA tA fnA hwl r9 b9 eM9 ext8 t8 fn8 ext7 t7 fn7 lwM6 co1
          refine ⟨by decide, fun u1 hu1 => ?_⟩
          obtain ⟨N1, eN1, z1, d1⟩ := new_obj (.tup [V.str (Str.ofString "error"), .str (Str.ofString "InvalidAddress")]) hu1
          rw [eN1]
          refine ⟨by decide, fun u2 hu2 => ?_⟩
          obtain ⟨N2, eN2, z2, d2⟩ := new_obj (.tup [V.str (Str.ofString "error"), .str (Str.ofString "InvalidDay")]) hu2
          rw [eN2]
          refine ⟨by decide, fun u3 hu3 => ?_⟩
          obtain ⟨N3, eN3, z3, d3⟩ := new_obj (.tup [V.str (Str.ofString "error"), .str (Str.ofString "InvalidNumber")]) hu3
          rw [eN3]
          refine ⟨by decide, fun u4 hu4 => ?_⟩
          obtain ⟨N4, eN4, z4, d4⟩ := new_obj (.lst [V.ref u1, .ref u2, .ref u3]) hu4
          rw [eN4]
          have z14 := ((z1.trans z2).trans z3).trans z4
          have lwN := lwB.same z14
          have u4d : u4 ≠ d := ne_of_none' (((lwB.same z1).same z2).same z3).rw_.row hu4
          have bN := z14 _ _ bB
          replace al1 := keep_lam (KeepF.same z14) al1
          replace al2 := keep_dfl (KeepF.same z14) al2
          replace al3 := keep_dfl (KeepF.same z14) al3
          replace d1 := ((z2.trans z3).trans z4) _ _ d1
          replace d2 := (z3.trans z4) _ _ d2
          replace d3 := z4 _ _ d3
          clear z1 z2 z3 z4 z14 lwB bB eN1 eN2 eN3 eN4 hu1 hu2 hu3 hu4
          simp only [tLcE]
          walk_at "rk"
          refine ⟨⟨_, SqL.of bN⟩, fun D2 hD2 => works_told (r := d) (sc := sc) (fs := [f1, f2, f3]) (wds := [Str.ofString "InvalidAddress", Str.ofString "InvalidDay", Str.ofString "InvalidNumber"]) (by show 5 < 18; decide) bN wd_ (by show 3 ≤ 100000; decide) lwN.rw_.row rfl ?_ hD2 fun H' qs xx rw' aD2 pr => ?_⟩
          · rintro j f wd hf hwd
            have : j = 0 ∨ j = 1 ∨ j = 2 := by
              have := (List.getElem?_eq_some_iff.mp hf).1
              have i3 : j < 3 := this
              omega
            rcases this with rfl | rfl | rfl <;> cases hf <;> cases hwd
            · refine ⟨_, _, ["_law_book", "_law_bad"], [15, 13], sl_1, spC [some (.ref bk), some bv] T.e_InvalidAddress.C, fun H' x => alL_X lwN.rw_.row x al1, rfl, NdefX.ndef_free (sc := defScope s_law) (nsc := sl_1) (fr := ["_law_book", "_law_bad"]) (by decide +kernel), by decide +kernel, rfl, fun ws' => callA_lam (lok_ad at1 (lok_of sl_1_ok (fun _ _ => rfl) (fun A outer s H ws Q E hr _ hsp => by
                obtain ⟨rfl, kE⟩ := hsp
                refine ⟨_, (pe_call G_travel_list_x (hr.mono (by first | decide | omega)) rfl T.travel_list.mg T.travel_list.F.kp T.travel_list.b .nil (passes_call (takes_of rfl rfl rfl rfl) (fun _ _ _ _ h => h)) (pa_cons (pv 0) (pa_cons (pv 1) (pa_cons (pe_un un_neg pe_int) (pa_cons (pe_un un_neg pe_int) pa_nil))))), ?_⟩
                rw [show startF (["_law_book", "_law_bad"] : List Str) [] [some (.ref bk), some bv] = [some (.ref bk), some bv] from rfl]
                walk_at "rk"
                exact ⟨.ref bk, bv, _, _, _, _, _, T.e_InvalidAddress.C, rfl, (kbv H).choose_spec, .int _, .int _, .inl (.inl ⟨abv, rfl⟩), kE⟩))) ws', fun H' Q x row kq => ?_⟩
              exact fun E hE => ⟨rfl, fun H2 s2 => hE _ _ _ ⟨_, 7, _, .head _, rfl, rfl, .inl ⟨by decide, rfl, fun p H3 s3 e => kq p H3 (SameX.of (s2.trans s3)) (row.same (s2.trans s3)) e⟩⟩⟩
            · refine ⟨_, _, ["_law_book", "_law_odd"], [15, 14], sl_2, spC [some (.ref bk), some ov] T.e_InvalidDay.C, fun H' x => alD_X lwN.rw_.row x al2, rfl, NdefX.ndef_free (sc := defScope s_law) (nsc := sl_2) (fr := ["_law_book", "_law_odd"]) (by decide +kernel), by decide +kernel, rfl, fun ws' => callA_dfl sl_2_ok (fun doc pm ctv => ⟨_, rfl, fun v => rfl⟩) (fun A outer s H ws Q E hr _ hsp => by
                obtain ⟨rfl, kE⟩ := hsp
                refine ⟨_, (pe_call G_travel_list_x (hr.mono (by first | decide | omega)) rfl T.travel_list.mg T.travel_list.F.kp T.travel_list.b .nil (passes_call (takes_of rfl rfl rfl rfl) (fun _ _ _ _ h => h)) (pa_cons (pv 1) (pa_cons pe_str (pa_cons (pv 2) (pa_cons (pe_un un_neg pe_int) pa_nil))))), ?_⟩
                rw [show startF (["_law_a", "_law_book", "_law_odd"] : List Str) [.int 0] [some (.ref bk), some ov] = [some (.int 0), some (.ref bk), some ov] from rfl]
                walk_at "rk"
                exact ⟨.ref bk, _, _, ov, _, _, _, T.e_InvalidDay.C, rfl, .str _ (by decide), (kov H).choose_spec, .int _, .inl (.inr ⟨by decide +kernel, aov, rfl⟩), kE⟩) ws', fun H' Q x row kq => ?_⟩
              exact fun E hE => ⟨rfl, fun H2 s2 => hE _ _ _ ⟨_, 8, _, .tail _ (.head _), rfl, rfl, .inl ⟨by decide, rfl, fun p H3 s3 e => kq p H3 (SameX.of (s2.trans s3)) (row.same (s2.trans s3)) e⟩⟩⟩
            · refine ⟨_, _, ["_law_book", "_law_d"], [15, 1], sl_3, spD K d sc [some (.ref bk), some (.ref d)] T.e_InvalidNumber.C, fun H' x => alD_X lwN.rw_.row x al3, rfl, NdefX.ndef_free (sc := defScope s_law) (nsc := sl_3) (fr := ["_law_book", "_law_d"]) (by decide +kernel), by decide +kernel, rfl, fun ws' => callA_dfl sl_3_ok (fun doc pm ctv => ⟨_, rfl, fun v => rfl⟩) (fun A outer s H ws Q E hr _ hsp => by
                obtain ⟨rfl, rwH, kE⟩ := hsp
                refine ⟨_, (pe_call G_travel_list_x (hr.mono (by first | decide | omega)) rfl T.travel_list.mg T.travel_list.F.kp T.travel_list.b .nil (passes_call (takes_of rfl rfl rfl rfl) (fun _ _ _ _ h => h)) (pa_cons (pv 1) (pa_cons pe_str (pa_cons pe_int (pa_cons (pe_call G_law_pick (hr.mono (by first | decide | omega)) rfl T.law_pick.mg T.law_pick.F.kp T.law_pick.b .nil passF (pa_cons (pv 2) (pa_cons (pe_lst (pa_cons (pe_un un_neg pe_int) (pa_cons pe_int (pa_cons pe_non (pa_cons pe_bl pa_nil))))) pa_nil))) pa_nil))))), ?_⟩
                rw [show startF (["_law_b", "_law_book", "_law_d"] : List Str) [.int 0] [some (.ref bk), some (.ref d)] = [some (.int 0), some (.ref bk), some (.ref d)] from rfl]
                walk_at "rk"
                refine ⟨by decide, fun q hq => ?_⟩
                obtain ⟨G1, eG1, g1, h1⟩ := new_obj (.lst [V.int (-1), V.int 1001, V.non, V.bl true]) hq
                rw [eG1]
                refine ⟨d, sc, q, _, rfl, rwH.same g1, h1, ne_of_none' rwH.row hq, (show 0 < 4 by decide), (show 4 ≤ 100000 by decide), fun i nv G2 hnv xg rowg => ?_⟩
                obtain ⟨anv, knv⟩ : numB nv 0 1000 = false ∧ ∀ H, ∃ t, Kd H nv t := by
                  have i3 := (List.getElem?_eq_some_iff.mp hnv).1
                  have : i = 0 ∨ i = 1 ∨ i = 2 ∨ i = 3 := by
                    have i3 : i < 4 := i3
                    omega
                  rcases this with rfl | rfl | rfl | rfl <;> cases hnv
                  · exact ⟨by decide +kernel, fun H => ⟨_, .int _⟩⟩
                  · exact ⟨by decide +kernel, fun H => ⟨_, .int _⟩⟩
                  · exact ⟨rfl, fun H => ⟨_, .non⟩⟩
                  · exact ⟨rfl, fun H => ⟨_, .bl _⟩⟩
                exact ⟨.ref bk, _, _, _, _, nv, _, T.e_InvalidNumber.C, rfl, .str _ (by decide), .int _, (knv G2).choose_spec, .inr ⟨by decide +kernel, by decide +kernel, anv, rfl⟩, fun H' s' => kE H' (((SameX.of g1).trans xg).trans (SameX.of s')) (rowg.same s')⟩) ws', fun H' Q x row kq => ?_⟩
              exact fun E hE => ⟨rfl, lwN.rw_.next x row, fun H2 x2 r2 => hE _ _ _ ⟨_, 9, _, .tail _ (.tail _ (.head _)), rfl, rfl, .inl ⟨by decide, rfl, fun p H3 s3 e => kq p H3 (x2.trans (SameX.of s3)) (r2.same s3) e⟩⟩⟩
          · have lwE := lwN.next xx rw'
            have e4 := xx _ _ u4d d4
            have e1 := xx _ _ (row_ne lwN.rw_.row d1 (fun _ z => by cases z)) d1
            have e2 := xx _ _ (row_ne lwN.rw_.row d2 (fun _ z => by cases z)) d2
            have e3 := xx _ _ (row_ne lwN.rw_.row d3 (fun _ z => by cases z)) d3
            have dq : DpAll K H' (qs.map V.ref) ([Str.ofString "InvalidAddress", Str.ofString "InvalidDay", Str.ofString "InvalidNumber"].map fun wd => PyData.tuple [.str (Str.ofString "error"), .str wd]) := dpPaired (f := fun wd : Str => PyData.tuple [.str (Str.ofString "error"), .str wd]) (fun p wd h => .tup (SqT.of h) (.cons (.str _) (.cons (.str _) .nil))) pr
            refine selfNe (d := .list ([Str.ofString "InvalidAddress", Str.ofString "InvalidDay", Str.ofString "InvalidNumber"].map fun wd => PyData.tuple [.str (Str.ofString "error"), .str wd])) (.lst (SqL.of aD2) dq) (.lst (SqL.of e4) (.cons (.tup (SqT.of e1) (.cons (.str _) (.cons (.str _) .nil))) (.cons (.tup (SqT.of e2) (.cons (.str _) (.cons (.str _) .nil))) (.cons (.tup (SqT.of e3) (.cons (.str _) (.cons (.str _) .nil))) .nil)))) (by decide +kernel) ⟨false, rfl, ?_⟩
            rw [if_neg (by decide), hW]
            exact ⟨_, _, _, _, _, _, _, _, _, _, _, _, _, _, _, _, rfl, lwE⟩
    · rintro σ H1 hw
      rw [hW] at hw
      obtain ⟨v2, v3, v4, v5, v6, v7, v8, v9, v10, v11, v12, v13, v14, v15, v16, v17, rfl, lw1⟩ := hw
      walk_at "rk"
      exact k H1
end
end K47
namespace K47
open PySem PySem.Spec PyProof.Rows L2 StX ClX My
theorem b_is_number {K : PySem.W.Frag} {f : Addr} {fd : FuncData} (F : Fun K "is_number" "is_number" s_is_number f fd) : Binds K fd ["value", "low", "high"] [] := F.binds fun _ _ _ _ _ _ us hl => match us, hl with | [_, _, _], _ => rfl
theorem b_is_address {K : PySem.W.Frag} {f : Addr} {fd : FuncData} (F : Fun K "is_address" "is_address" s_is_address f fd) : Binds K fd ["value"] [] := F.binds fun _ _ _ _ _ _ us hl => match us, hl with | [_], _ => rfl
theorem b_is_day {K : PySem.W.Frag} {f : Addr} {fd : FuncData} (F : Fun K "is_day" "is_day" s_is_day f fd) : Binds K fd ["value"] [] := F.binds fun _ _ _ _ _ _ us hl => match us, hl with | [_], _ => rfl
theorem b_check_address {K : PySem.W.Frag} {f : Addr} {fd : FuncData} (F : Fun K "check_address" "check_address" s_check_address f fd) : Binds K fd ["address"] [] := F.binds fun _ _ _ _ _ _ us hl => match us, hl with | [_], _ => rfl
theorem b_check_day {K : PySem.W.Frag} {f : Addr} {fd : FuncData} (F : Fun K "check_day" "check_day" s_check_day f fd) : Binds K fd ["day"] [] := F.binds fun _ _ _ _ _ _ us hl => match us, hl with | [_], _ => rfl
theorem b_check_letter {K : PySem.W.Frag} {f : Addr} {fd : FuncData} (F : Fun K "check_letter" "check_letter" s_check_letter f fd) : Binds K fd ["address", "day"] [] := F.binds fun _ _ _ _ _ _ us hl => match us, hl with | [_, _], _ => rfl
theorem b_check_number {K : PySem.W.Frag} {f : Addr} {fd : FuncData} (F : Fun K "check_number" "check_number" s_check_number f fd) : Binds K fd ["number", "low", "high"] [] := F.binds fun _ _ _ _ _ _ us hl => match us, hl with | [_, _, _], _ => rfl
theorem b_is_order {K : PySem.W.Frag} {f : Addr} {fd : FuncData} (F : Fun K "_is_order" "_is_order" s_is_order f fd) : Binds K fd ["value"] [] := F.binds fun _ _ _ _ _ _ us hl => match us, hl with | [_], _ => rfl
theorem b_share_day {K : PySem.W.Frag} {f : Addr} {fd : FuncData} (F : Fun K "share_day" "share_day" s_share_day f fd) : Binds K fd ["one", "other"] [] := F.binds fun _ _ _ _ _ _ us hl => match us, hl with | [_, _], _ => rfl
theorem b_Book_orders {K : PySem.W.Frag} {f : Addr} {fd : FuncData} (F : Fun K "orders" "Book.orders" s_Book_orders f fd) : Binds K fd ["self"] [] := F.binds fun _ _ _ _ _ _ us hl => match us, hl with | [_], _ => rfl
theorem b_Book_addresses {K : PySem.W.Frag} {f : Addr} {fd : FuncData} (F : Fun K "addresses" "Book.addresses" s_Book_addresses f fd) : Binds K fd ["self"] [] := F.binds fun _ _ _ _ _ _ us hl => match us, hl with | [_], _ => rfl
theorem b_Book_len {K : PySem.W.Frag} {f : Addr} {fd : FuncData} (F : Fun K "__len__" "Book.__len__" s_Book_len f fd) : Binds K fd ["self"] [] := F.binds fun _ _ _ _ _ _ us hl => match us, hl with | [_], _ => rfl
theorem b_Book_getitem {K : PySem.W.Frag} {f : Addr} {fd : FuncData} (F : Fun K "__getitem__" "Book.__getitem__" s_Book_getitem f fd) : Binds K fd ["self", "at"] [] := F.binds fun _ _ _ _ _ _ us hl => match us, hl with | [_, _], _ => rfl
theorem b_Book_add {K : PySem.W.Frag} {f : Addr} {fd : FuncData} (F : Fun K "__add__" "Book.__add__" s_Book_add f fd) : Binds K fd ["self", "other"] [] := F.binds fun _ _ _ _ _ _ us hl => match us, hl with | [_, _], _ => rfl
theorem b_Book_rshift {K : PySem.W.Frag} {f : Addr} {fd : FuncData} (F : Fun K "__rshift__" "Book.__rshift__" s_Book_rshift f fd) : Binds K fd ["self", "other"] [] := F.binds fun _ _ _ _ _ _ us hl => match us, hl with | [_, _], _ => rfl
theorem b_Book_check_index {K : PySem.W.Frag} {f : Addr} {fd : FuncData} (F : Fun K "_check_index" "Book._check_index" s_Book_check_index f fd) : Binds K fd ["self", "index"] [] := F.binds fun _ _ _ _ _ _ us hl => match us, hl with | [_, _], _ => rfl
theorem b_holding {K : PySem.W.Frag} {f : Addr} {fd : FuncData} (F : Fun K "holding" "holding" s_holding f fd) : Binds K fd ["book", "day"] [] := F.binds fun _ _ _ _ _ _ us hl => match us, hl with | [_, _], _ => rfl
theorem b_route {K : PySem.W.Frag} {f : Addr} {fd : FuncData} (F : Fun K "route" "route" s_route f fd) : Binds K fd ["book", "address", "day", "count"] [] := F.binds fun _ _ _ _ _ _ us hl => match us, hl with | [_, _, _, _], _ => rfl
theorem b_travel_list {K : PySem.W.Frag} {f : Addr} {fd : FuncData} (F : Fun K "travel_list" "travel_list" s_travel_list f fd) : Binds K fd ["book", "address", "day", "count"] [] := F.binds fun _ _ _ _ _ _ us hl => match us, hl with | [_, _, _, _], _ => rfl
theorem b_law_dice {K : PySem.W.Frag} {f : Addr} {fd : FuncData} (F : Fun K "_law_dice" "_law_dice" s_law_dice f fd) : Binds K fd ["_law_script"] [] := F.binds fun _ _ _ _ _ _ us hl => match us, hl with | [_], _ => rfl
theorem b_law_next {K : PySem.W.Frag} {f : Addr} {fd : FuncData} (F : Fun K "_law_next" "_law_next" s_law_next f fd) : Binds K fd ["_law_dice_here", "_law_many"] [] := F.binds fun _ _ _ _ _ _ us hl => match us, hl with | [_, _], _ => rfl
theorem b_law_pick {K : PySem.W.Frag} {f : Addr} {fd : FuncData} (F : Fun K "_law_pick" "_law_pick" s_law_pick f fd) : Binds K fd ["_law_d", "_law_some"] [] := F.binds fun _ _ _ _ _ _ us hl => match us, hl with | [_, _], _ => rfl
theorem b_law_told {K : PySem.W.Frag} {f : Addr} {fd : FuncData} (F : Fun K "_law_told" "_law_told" s_law_told f fd) : Binds K fd ["_law_work"] [] := F.binds fun _ _ _ _ _ _ us hl => match us, hl with | [_], _ => rfl
theorem b_law_fits {K : PySem.W.Frag} {f : Addr} {fd : FuncData} (F : Fun K "_law_fits" "_law_fits" s_law_fits f fd) : Binds K fd ["_law_orders_here", "_law_order_here"] [] := F.binds fun _ _ _ _ _ _ us hl => match us, hl with | [_, _], _ => rfl
theorem b_law_order {K : PySem.W.Frag} {f : Addr} {fd : FuncData} (F : Fun K "_law_order" "_law_order" s_law_order f fd) : Binds K fd ["_law_d", "_law_most"] [] := F.binds fun _ _ _ _ _ _ us hl => match us, hl with | [_, _], _ => rfl
theorem b_law_orders {K : PySem.W.Frag} {f : Addr} {fd : FuncData} (F : Fun K "_law_orders" "_law_orders" s_law_orders f fd) : Binds K fd ["_law_d", "_law_many", "_law_most"] [] := F.binds fun _ _ _ _ _ _ us hl => match us, hl with | [_, _, _], _ => rfl
theorem b_law_made {K : PySem.W.Frag} {f : Addr} {fd : FuncData} (F : Fun K "_law_made" "_law_made" s_law_made f fd) : Binds K fd ["_law_orders_here"] [] := F.binds fun _ _ _ _ _ _ us hl => match us, hl with | [_], _ => rfl
theorem b_law_now {K : PySem.W.Frag} {f : Addr} {fd : FuncData} (F : Fun K "_law_now" "_law_now" s_law_now f fd) : Binds K fd ["_law_orders_here", "_law_address", "_law_day"] [] := F.binds fun _ _ _ _ _ _ us hl => match us, hl with | [_, _, _], _ => rfl
theorem b_law_arrivals {K : PySem.W.Frag} {f : Addr} {fd : FuncData} (F : Fun K "_law_arrivals" "_law_arrivals" s_law_arrivals f fd) : Binds K fd ["_law_orders_here", "_law_address", "_law_day", "_law_most"] [] := F.binds fun _ _ _ _ _ _ us hl => match us, hl with | [_, _, _, _], _ => rfl
theorem b_law_grouped {K : PySem.W.Frag} {f : Addr} {fd : FuncData} (F : Fun K "_law_grouped" "_law_grouped" s_law_grouped f fd) : Binds K fd ["_law_number"] [] := F.binds fun _ _ _ _ _ _ us hl => match us, hl with | [_], _ => rfl
theorem b_law {K : PySem.W.Frag} {f : Addr} {fd : FuncData} (F : Fun K "law" "law" s_law f fd) : Binds K fd ["_law_script"] [] := F.binds fun _ _ _ _ _ _ us hl => match us, hl with | [_], _ => rfl
theorem cls_is {K : PySem.W.Frag} {C : Addr} {t : Value} {b : Bool} (i : PySem.W.isClsIn K C = true) (y : PySem.W.typeIn K (.ref C) = some (.type "type")) (s : PySem.W.subIn K t (.ref C) = some b) : PySem.W.kitCls K t (.ref C) = some b := by
  have i : (PySem.W.clsIn K C).isSome = true := i
  have e : ((PySem.W.clsIn K C).isSome && PySem.W.typeIn K (.ref C) == some (.type "type")) = true := by
    rw [i, y]
    rfl
  exact (if_pos e).trans s
theorem kit_no {K : PySem.W.Frag} {D C : Addr} {b : Bool} (ne : ((Value.ref D) == (Value.ref C)) = false) (i : PySem.W.isClsIn K C = true) (y : PySem.W.typeIn K (.ref C) = some (.type "type")) (s : PySem.W.subIn K (.ref D) (.ref C) = some b) : PySem.W.kitOne K (.ref D) (.ref C) = some b :=
  (if_neg (by rw [ne]; decide)).trans (cls_is i y s)
theorem kit_vt {K : PySem.W.Frag} {D : Addr} {b : Bool} (s : PySem.W.subIn K (.ref D) (.type "ValueError") = some b) : PySem.W.kitOne K (.ref D) (.type "ValueError") = some b := by
  have e : PySem.W.kitCls K (.ref D) (.type "ValueError") = some b := by
    unfold PySem.W.kitCls
    exact (if_pos (by decide +kernel)).trans s
  exact (if_neg (show ¬ ((Value.ref D) == (Value.type "ValueError")) = true from by intro h; cases h)).trans e
theorem exm_is {K : PySem.W.Frag} {D C : Addr} {b : Bool} (x : PySem.W.subIn K (.ref C) (.type "BaseException") = some true) (i : PySem.W.isClsIn K C = true) (y : PySem.W.typeIn K (.ref C) = some (.type "type")) (s : PySem.W.subIn K (.ref D) (.ref C) = some b) : PySem.W.exmOne K (.ref D) (.ref C) = some b := by
  have e : (PySem.W.subIn K (.ref C) (.type "BaseException") == some true) = true := by
    rw [x]
    rfl
  exact (if_pos e).trans (cls_is i y s)
theorem all_mk {l : PySem.W.OpenLaw} {w : World} {K : PySem.W.Frag} {h : Heap} {mg : Str → Option Value} {fa : Addr} (X : K.In h) (G : h.Ns mainGlobals mg) (hfa : mg "law" = some (.ref fa))
    {C_Book : Addr}
    {f1 : Addr} {od1 an1 : Option Addr} {sl1 : Array (Option Value)} {oc1 kV1 dc1 pm1 ct1 : Value} {cd1 : Value}
    {f2 : Addr} {od2 an2 : Option Addr} {sl2 : Array (Option Value)} {oc2 kV2 dc2 pm2 ct2 : Value} {cd2 : Value}
    {f3 : Addr} {od3 an3 : Option Addr} {sl3 : Array (Option Value)} {oc3 kV3 dc3 pm3 ct3 : Value} {cd3 : Value}
    {f4 : Addr} {od4 an4 : Option Addr} {sl4 : Array (Option Value)} {oc4 kV4 dc4 pm4 ct4 : Value} {cd4 : Value}
    {f5 : Addr} {od5 an5 : Option Addr} {sl5 : Array (Option Value)} {oc5 kV5 dc5 pm5 ct5 : Value} {cd5 : Value}
    {f6 : Addr} {od6 an6 : Option Addr} {sl6 : Array (Option Value)} {oc6 kV6 dc6 pm6 ct6 : Value} {cd6 : Value}
    {f7 : Addr} {od7 an7 : Option Addr} {sl7 : Array (Option Value)} {oc7 kV7 dc7 pm7 ct7 : Value} {cd7 : Value}
    {f8 : Addr} {od8 an8 : Option Addr} {sl8 : Array (Option Value)} {oc8 kV8 dc8 pm8 ct8 : Value} {cd8 : Value}
    {f9 : Addr} {od9 an9 : Option Addr} {sl9 : Array (Option Value)} {oc9 kV9 dc9 pm9 ct9 : Value} {cd9 : Value}
    {f10 : Addr} {od10 an10 : Option Addr} {sl10 : Array (Option Value)} {oc10 kV10 dc10 pm10 ct10 : Value} {cd10 : Value}
    {p11 : Addr} {rs11 : List Value}
    {f11 : Addr} {od11 an11 : Option Addr} {sl11 : Array (Option Value)} {oc11 kV11 dc11 pm11 ct11 : Value} {cd11 : Value}
    {p12 : Addr} {rs12 : List Value}
    {f12 : Addr} {od12 an12 : Option Addr} {sl12 : Array (Option Value)} {oc12 kV12 dc12 pm12 ct12 : Value} {cd12 : Value}
    {f13 : Addr} {od13 an13 : Option Addr} {sl13 : Array (Option Value)} {oc13 kV13 dc13 pm13 ct13 : Value} {cd13 : Value}
    {f14 : Addr} {od14 an14 : Option Addr} {sl14 : Array (Option Value)} {oc14 kV14 dc14 pm14 ct14 : Value} {cd14 : Value}
    {f15 : Addr} {od15 an15 : Option Addr} {sl15 : Array (Option Value)} {oc15 kV15 dc15 pm15 ct15 : Value} {cd15 : Value}
    {f16 : Addr} {od16 an16 : Option Addr} {sl16 : Array (Option Value)} {oc16 kV16 dc16 pm16 ct16 : Value} {cd16 : Value}
    {f17 : Addr} {od17 an17 : Option Addr} {sl17 : Array (Option Value)} {oc17 kV17 dc17 pm17 ct17 : Value} {cd17 : Value}
    {f18 : Addr} {od18 an18 : Option Addr} {sl18 : Array (Option Value)} {oc18 kV18 dc18 pm18 ct18 : Value} {cd18 : Value}
    {f19 : Addr} {od19 an19 : Option Addr} {sl19 : Array (Option Value)} {oc19 kV19 dc19 pm19 ct19 : Value} {cd19 : Value}
    {f20 : Addr} {od20 an20 : Option Addr} {sl20 : Array (Option Value)} {oc20 kV20 dc20 pm20 ct20 : Value} {cd20 : Value}
    {f21 : Addr} {od21 an21 : Option Addr} {sl21 : Array (Option Value)} {oc21 kV21 dc21 pm21 ct21 : Value} {cd21 : Value}
    {f22 : Addr} {od22 an22 : Option Addr} {sl22 : Array (Option Value)} {oc22 kV22 dc22 pm22 ct22 : Value} {cd22 : Value}
    {f23 : Addr} {od23 an23 : Option Addr} {sl23 : Array (Option Value)} {oc23 kV23 dc23 pm23 ct23 : Value} {cd23 : Value}
    {f24 : Addr} {od24 an24 : Option Addr} {sl24 : Array (Option Value)} {oc24 kV24 dc24 pm24 ct24 : Value} {cd24 : Value}
    {f25 : Addr} {od25 an25 : Option Addr} {sl25 : Array (Option Value)} {oc25 kV25 dc25 pm25 ct25 : Value} {cd25 : Value}
    {f26 : Addr} {od26 an26 : Option Addr} {sl26 : Array (Option Value)} {oc26 kV26 dc26 pm26 ct26 : Value} {cd26 : Value}
    {f27 : Addr} {od27 an27 : Option Addr} {sl27 : Array (Option Value)} {oc27 kV27 dc27 pm27 ct27 : Value} {cd27 : Value}
    {f28 : Addr} {od28 an28 : Option Addr} {sl28 : Array (Option Value)} {oc28 kV28 dc28 pm28 ct28 : Value} {cd28 : Value}
    {f29 : Addr} {od29 an29 : Option Addr} {sl29 : Array (Option Value)} {oc29 kV29 dc29 pm29 ct29 : Value} {cd29 : Value}
    {f30 : Addr} {od30 an30 : Option Addr} {sl30 : Array (Option Value)} {oc30 kV30 dc30 pm30 ct30 : Value} {cd30 : Value}
    {f31 : Addr} {od31 an31 : Option Addr} {sl31 : Array (Option Value)} {oc31 kV31 dc31 pm31 ct31 : Value} {cd31 : Value}
    {f32 : Addr} {od32 an32 : Option Addr} {sl32 : Array (Option Value)} {oc32 kV32 dc32 pm32 ct32 : Value} {cd32 : Addr}
    {tb32 : Addr} {oo32 : Option Addr} {vs32 : Array Value} {sc32 : Array (Option Value)}
    {t_MAX_DAY : Tok}
    {t_MAX_LETTERS : Tok}
    {t_ORDER_PARTS : Tok}
    {t_MAX_WAY : Tok}
    {t_MAX_ARRIVALS : Tok}
    {t_DAY_SIGNS : Tok}
    {t_LETTERS : Tok}
    {ifo16 iro16 : Option Value}
    {t_MAX_ORDERS : Tok}
    {C_InvalidAddress : Addr}
    {C_InvalidDay : Addr}
    {C_InvalidNumber : Addr}
    {C_MailError : Addr}
    {C_InvalidOperation : Addr}
    {C_InvalidOrder : Addr}
    {C_UnknownOrder : Addr}
    {C_NotHolding : Addr}
    {C_DecodeError : Addr}
    {C_NotationError : Addr}
    {C_UnknownLetter : Addr}
    {C_Contradiction : Addr}
    {C_InvalidCount : Addr}
    (aC_Book : PySem.W.nsIn K mainGlobals "Book" = some (some (.ref C_Book)))
    (pg_Book : PySem.W.plainGet K C_Book Str.empty = true)
    (hd_Book : PySem.W.hasDictIn K C_Book = true)
    (po_Book : PySem.W.plainOver K C_Book = true)
    (sa_Book : PySem.W.findIn K (.ref C_Book) "__setattr__" = some (some (.builtin "object.__setattr__")))
    (mk_Book : PySem.W.makesIn K C_Book = true)
    (kc_Book : PySem.W.keepIn K (.ref C_Book) = true)
    (a1 : PySem.W.nsIn K mainGlobals "is_number" = some (some (.ref f1)))
    (l1 : K.lookup f1 = some ⟨oc1, od1, .func (PySem.W.fnOf "is_number" "is_number" (defArgs s_is_number) (defBody s_is_number) (defScope s_is_number) .none kV1 dc1 pm1 an1 cd1 ct1), sl1⟩)
    (c1 : PySem.W.codeIn K cd1 "is_number" = true)
    (k1 : PySem.W.keepIn K (.ref f1) = true)
    (a2 : PySem.W.nsIn K mainGlobals "is_address" = some (some (.ref f2)))
    (l2 : K.lookup f2 = some ⟨oc2, od2, .func (PySem.W.fnOf "is_address" "is_address" (defArgs s_is_address) (defBody s_is_address) (defScope s_is_address) .none kV2 dc2 pm2 an2 cd2 ct2), sl2⟩)
    (c2 : PySem.W.codeIn K cd2 "is_address" = true)
    (k2 : PySem.W.keepIn K (.ref f2) = true)
    (a3 : PySem.W.nsIn K mainGlobals "is_day" = some (some (.ref f3)))
    (l3 : K.lookup f3 = some ⟨oc3, od3, .func (PySem.W.fnOf "is_day" "is_day" (defArgs s_is_day) (defBody s_is_day) (defScope s_is_day) .none kV3 dc3 pm3 an3 cd3 ct3), sl3⟩)
    (c3 : PySem.W.codeIn K cd3 "is_day" = true)
    (k3 : PySem.W.keepIn K (.ref f3) = true)
    (a4 : PySem.W.nsIn K mainGlobals "check_address" = some (some (.ref f4)))
    (l4 : K.lookup f4 = some ⟨oc4, od4, .func (PySem.W.fnOf "check_address" "check_address" (defArgs s_check_address) (defBody s_check_address) (defScope s_check_address) .none kV4 dc4 pm4 an4 cd4 ct4), sl4⟩)
    (c4 : PySem.W.codeIn K cd4 "check_address" = true)
    (k4 : PySem.W.keepIn K (.ref f4) = true)
    (a5 : PySem.W.nsIn K mainGlobals "check_day" = some (some (.ref f5)))
    (l5 : K.lookup f5 = some ⟨oc5, od5, .func (PySem.W.fnOf "check_day" "check_day" (defArgs s_check_day) (defBody s_check_day) (defScope s_check_day) .none kV5 dc5 pm5 an5 cd5 ct5), sl5⟩)
    (c5 : PySem.W.codeIn K cd5 "check_day" = true)
    (k5 : PySem.W.keepIn K (.ref f5) = true)
    (a6 : PySem.W.nsIn K mainGlobals "check_letter" = some (some (.ref f6)))
    (l6 : K.lookup f6 = some ⟨oc6, od6, .func (PySem.W.fnOf "check_letter" "check_letter" (defArgs s_check_letter) (defBody s_check_letter) (defScope s_check_letter) .none kV6 dc6 pm6 an6 cd6 ct6), sl6⟩)
    (c6 : PySem.W.codeIn K cd6 "check_letter" = true)
    (k6 : PySem.W.keepIn K (.ref f6) = true)
    (a7 : PySem.W.nsIn K mainGlobals "check_number" = some (some (.ref f7)))
    (l7 : K.lookup f7 = some ⟨oc7, od7, .func (PySem.W.fnOf "check_number" "check_number" (defArgs s_check_number) (defBody s_check_number) (defScope s_check_number) .none kV7 dc7 pm7 an7 cd7 ct7), sl7⟩)
    (c7 : PySem.W.codeIn K cd7 "check_number" = true)
    (k7 : PySem.W.keepIn K (.ref f7) = true)
    (a8 : PySem.W.nsIn K mainGlobals "_is_order" = some (some (.ref f8)))
    (l8 : K.lookup f8 = some ⟨oc8, od8, .func (PySem.W.fnOf "_is_order" "_is_order" (defArgs s_is_order) (defBody s_is_order) (defScope s_is_order) .none kV8 dc8 pm8 an8 cd8 ct8), sl8⟩)
    (c8 : PySem.W.codeIn K cd8 "_is_order" = true)
    (k8 : PySem.W.keepIn K (.ref f8) = true)
    (a9 : PySem.W.nsIn K mainGlobals "share_day" = some (some (.ref f9)))
    (l9 : K.lookup f9 = some ⟨oc9, od9, .func (PySem.W.fnOf "share_day" "share_day" (defArgs s_share_day) (defBody s_share_day) (defScope s_share_day) .none kV9 dc9 pm9 an9 cd9 ct9), sl9⟩)
    (c9 : PySem.W.codeIn K cd9 "share_day" = true)
    (k9 : PySem.W.keepIn K (.ref f9) = true)
    (a10 : PySem.W.findIn K (.ref C_Book) "__init__" = some (some (.ref f10)))
    (i10 : PySem.W.isFn K (.ref f10) = true)
    (l10 : K.lookup f10 = some ⟨oc10, od10, .func (PySem.W.fnOf "__init__" "Book.__init__" (defArgs s_Book_init) (defBody s_Book_init) (defScope s_Book_init) .none kV10 dc10 pm10 an10 cd10 ct10), sl10⟩)
    (c10 : PySem.W.codeIn K cd10 "Book.__init__" = true)
    (k10 : PySem.W.keepIn K (.ref f10) = true)
    (a11 : PySem.W.findIn K (.ref C_Book) "orders" = some (some (.ref p11)))
    (g11 : PySem.W.specialIn K (.ref p11) "__get__" = some (some (.builtin "property.__get__")))
    (t11 : PySem.W.takesIn K (.ref p11) = some true)
    (r11 : PySem.W.recIn K p11 "property" = some (.ref f11 :: rs11))
    (l11 : K.lookup f11 = some ⟨oc11, od11, .func (PySem.W.fnOf "orders" "Book.orders" (defArgs s_Book_orders) (defBody s_Book_orders) (defScope s_Book_orders) .none kV11 dc11 pm11 an11 cd11 ct11), sl11⟩)
    (c11 : PySem.W.codeIn K cd11 "Book.orders" = true)
    (k11 : PySem.W.keepIn K (.ref f11) = true)
    (a12 : PySem.W.findIn K (.ref C_Book) "addresses" = some (some (.ref p12)))
    (g12 : PySem.W.specialIn K (.ref p12) "__get__" = some (some (.builtin "property.__get__")))
    (t12 : PySem.W.takesIn K (.ref p12) = some true)
    (r12 : PySem.W.recIn K p12 "property" = some (.ref f12 :: rs12))
    (l12 : K.lookup f12 = some ⟨oc12, od12, .func (PySem.W.fnOf "addresses" "Book.addresses" (defArgs s_Book_addresses) (defBody s_Book_addresses) (defScope s_Book_addresses) .none kV12 dc12 pm12 an12 cd12 ct12), sl12⟩)
    (c12 : PySem.W.codeIn K cd12 "Book.addresses" = true)
    (k12 : PySem.W.keepIn K (.ref f12) = true)
    (a13 : PySem.W.findIn K (.ref C_Book) "__len__" = some (some (.ref f13)))
    (i13 : PySem.W.isFn K (.ref f13) = true)
    (l13 : K.lookup f13 = some ⟨oc13, od13, .func (PySem.W.fnOf "__len__" "Book.__len__" (defArgs s_Book_len) (defBody s_Book_len) (defScope s_Book_len) .none kV13 dc13 pm13 an13 cd13 ct13), sl13⟩)
    (c13 : PySem.W.codeIn K cd13 "Book.__len__" = true)
    (k13 : PySem.W.keepIn K (.ref f13) = true)
    (a14 : PySem.W.findIn K (.ref C_Book) "__getitem__" = some (some (.ref f14)))
    (i14 : PySem.W.isFn K (.ref f14) = true)
    (l14 : K.lookup f14 = some ⟨oc14, od14, .func (PySem.W.fnOf "__getitem__" "Book.__getitem__" (defArgs s_Book_getitem) (defBody s_Book_getitem) (defScope s_Book_getitem) .none kV14 dc14 pm14 an14 cd14 ct14), sl14⟩)
    (c14 : PySem.W.codeIn K cd14 "Book.__getitem__" = true)
    (k14 : PySem.W.keepIn K (.ref f14) = true)
    (a15 : PySem.W.findIn K (.ref C_Book) "__add__" = some (some (.ref f15)))
    (i15 : PySem.W.isFn K (.ref f15) = true)
    (l15 : K.lookup f15 = some ⟨oc15, od15, .func (PySem.W.fnOf "__add__" "Book.__add__" (defArgs s_Book_add) (defBody s_Book_add) (defScope s_Book_add) .none kV15 dc15 pm15 an15 cd15 ct15), sl15⟩)
    (c15 : PySem.W.codeIn K cd15 "Book.__add__" = true)
    (k15 : PySem.W.keepIn K (.ref f15) = true)
    (a16 : PySem.W.findIn K (.ref C_Book) "__rshift__" = some (some (.ref f16)))
    (i16 : PySem.W.isFn K (.ref f16) = true)
    (l16 : K.lookup f16 = some ⟨oc16, od16, .func (PySem.W.fnOf "__rshift__" "Book.__rshift__" (defArgs s_Book_rshift) (defBody s_Book_rshift) (defScope s_Book_rshift) .none kV16 dc16 pm16 an16 cd16 ct16), sl16⟩)
    (c16 : PySem.W.codeIn K cd16 "Book.__rshift__" = true)
    (k16 : PySem.W.keepIn K (.ref f16) = true)
    (a17 : PySem.W.findIn K (.ref C_Book) "_check_index" = some (some (.ref f17)))
    (i17 : PySem.W.isFn K (.ref f17) = true)
    (l17 : K.lookup f17 = some ⟨oc17, od17, .func (PySem.W.fnOf "_check_index" "Book._check_index" (defArgs s_Book_check_index) (defBody s_Book_check_index) (defScope s_Book_check_index) .none kV17 dc17 pm17 an17 cd17 ct17), sl17⟩)
    (c17 : PySem.W.codeIn K cd17 "Book._check_index" = true)
    (k17 : PySem.W.keepIn K (.ref f17) = true)
    (a18 : PySem.W.nsIn K mainGlobals "holding" = some (some (.ref f18)))
    (l18 : K.lookup f18 = some ⟨oc18, od18, .func (PySem.W.fnOf "holding" "holding" (defArgs s_holding) (defBody s_holding) (defScope s_holding) .none kV18 dc18 pm18 an18 cd18 ct18), sl18⟩)
    (c18 : PySem.W.codeIn K cd18 "holding" = true)
    (k18 : PySem.W.keepIn K (.ref f18) = true)
    (a19 : PySem.W.nsIn K mainGlobals "route" = some (some (.ref f19)))
    (l19 : K.lookup f19 = some ⟨oc19, od19, .func (PySem.W.fnOf "route" "route" (defArgs s_route) (defBody s_route) (defScope s_route) .none kV19 dc19 pm19 an19 cd19 ct19), sl19⟩)
    (c19 : PySem.W.codeIn K cd19 "route" = true)
    (k19 : PySem.W.keepIn K (.ref f19) = true)
    (a20 : PySem.W.nsIn K mainGlobals "travel_list" = some (some (.ref f20)))
    (l20 : K.lookup f20 = some ⟨oc20, od20, .func (PySem.W.fnOf "travel_list" "travel_list" (defArgs s_travel_list) (defBody s_travel_list) (defScope s_travel_list) .none kV20 dc20 pm20 an20 cd20 ct20), sl20⟩)
    (c20 : PySem.W.codeIn K cd20 "travel_list" = true)
    (k20 : PySem.W.keepIn K (.ref f20) = true)
    (a21 : PySem.W.nsIn K mainGlobals "_law_dice" = some (some (.ref f21)))
    (l21 : K.lookup f21 = some ⟨oc21, od21, .func (PySem.W.fnOf "_law_dice" "_law_dice" (defArgs s_law_dice) (defBody s_law_dice) (defScope s_law_dice) .none kV21 dc21 pm21 an21 cd21 ct21), sl21⟩)
    (c21 : PySem.W.codeIn K cd21 "_law_dice" = true)
    (k21 : PySem.W.keepIn K (.ref f21) = true)
    (a22 : PySem.W.nsIn K mainGlobals "_law_next" = some (some (.ref f22)))
    (l22 : K.lookup f22 = some ⟨oc22, od22, .func (PySem.W.fnOf "_law_next" "_law_next" (defArgs s_law_next) (defBody s_law_next) (defScope s_law_next) .none kV22 dc22 pm22 an22 cd22 ct22), sl22⟩)
    (c22 : PySem.W.codeIn K cd22 "_law_next" = true)
    (k22 : PySem.W.keepIn K (.ref f22) = true)
    (a23 : PySem.W.nsIn K mainGlobals "_law_pick" = some (some (.ref f23)))
    (l23 : K.lookup f23 = some ⟨oc23, od23, .func (PySem.W.fnOf "_law_pick" "_law_pick" (defArgs s_law_pick) (defBody s_law_pick) (defScope s_law_pick) .none kV23 dc23 pm23 an23 cd23 ct23), sl23⟩)
    (c23 : PySem.W.codeIn K cd23 "_law_pick" = true)
    (k23 : PySem.W.keepIn K (.ref f23) = true)
    (a24 : PySem.W.nsIn K mainGlobals "_law_told" = some (some (.ref f24)))
    (l24 : K.lookup f24 = some ⟨oc24, od24, .func (PySem.W.fnOf "_law_told" "_law_told" (defArgs s_law_told) (defBody s_law_told) (defScope s_law_told) .none kV24 dc24 pm24 an24 cd24 ct24), sl24⟩)
    (c24 : PySem.W.codeIn K cd24 "_law_told" = true)
    (k24 : PySem.W.keepIn K (.ref f24) = true)
    (a25 : PySem.W.nsIn K mainGlobals "_law_fits" = some (some (.ref f25)))
    (l25 : K.lookup f25 = some ⟨oc25, od25, .func (PySem.W.fnOf "_law_fits" "_law_fits" (defArgs s_law_fits) (defBody s_law_fits) (defScope s_law_fits) .none kV25 dc25 pm25 an25 cd25 ct25), sl25⟩)
    (c25 : PySem.W.codeIn K cd25 "_law_fits" = true)
    (k25 : PySem.W.keepIn K (.ref f25) = true)
    (a26 : PySem.W.nsIn K mainGlobals "_law_order" = some (some (.ref f26)))
    (l26 : K.lookup f26 = some ⟨oc26, od26, .func (PySem.W.fnOf "_law_order" "_law_order" (defArgs s_law_order) (defBody s_law_order) (defScope s_law_order) .none kV26 dc26 pm26 an26 cd26 ct26), sl26⟩)
    (c26 : PySem.W.codeIn K cd26 "_law_order" = true)
    (k26 : PySem.W.keepIn K (.ref f26) = true)
    (a27 : PySem.W.nsIn K mainGlobals "_law_orders" = some (some (.ref f27)))
    (l27 : K.lookup f27 = some ⟨oc27, od27, .func (PySem.W.fnOf "_law_orders" "_law_orders" (defArgs s_law_orders) (defBody s_law_orders) (defScope s_law_orders) .none kV27 dc27 pm27 an27 cd27 ct27), sl27⟩)
    (c27 : PySem.W.codeIn K cd27 "_law_orders" = true)
    (k27 : PySem.W.keepIn K (.ref f27) = true)
    (a28 : PySem.W.nsIn K mainGlobals "_law_made" = some (some (.ref f28)))
    (l28 : K.lookup f28 = some ⟨oc28, od28, .func (PySem.W.fnOf "_law_made" "_law_made" (defArgs s_law_made) (defBody s_law_made) (defScope s_law_made) .none kV28 dc28 pm28 an28 cd28 ct28), sl28⟩)
    (c28 : PySem.W.codeIn K cd28 "_law_made" = true)
    (k28 : PySem.W.keepIn K (.ref f28) = true)
    (a29 : PySem.W.nsIn K mainGlobals "_law_now" = some (some (.ref f29)))
    (l29 : K.lookup f29 = some ⟨oc29, od29, .func (PySem.W.fnOf "_law_now" "_law_now" (defArgs s_law_now) (defBody s_law_now) (defScope s_law_now) .none kV29 dc29 pm29 an29 cd29 ct29), sl29⟩)
    (c29 : PySem.W.codeIn K cd29 "_law_now" = true)
    (k29 : PySem.W.keepIn K (.ref f29) = true)
    (a30 : PySem.W.nsIn K mainGlobals "_law_arrivals" = some (some (.ref f30)))
    (l30 : K.lookup f30 = some ⟨oc30, od30, .func (PySem.W.fnOf "_law_arrivals" "_law_arrivals" (defArgs s_law_arrivals) (defBody s_law_arrivals) (defScope s_law_arrivals) .none kV30 dc30 pm30 an30 cd30 ct30), sl30⟩)
    (c30 : PySem.W.codeIn K cd30 "_law_arrivals" = true)
    (k30 : PySem.W.keepIn K (.ref f30) = true)
    (a31 : PySem.W.nsIn K mainGlobals "_law_grouped" = some (some (.ref f31)))
    (l31 : K.lookup f31 = some ⟨oc31, od31, .func (PySem.W.fnOf "_law_grouped" "_law_grouped" (defArgs s_law_grouped) (defBody s_law_grouped) (defScope s_law_grouped) .none kV31 dc31 pm31 an31 cd31 ct31), sl31⟩)
    (c31 : PySem.W.codeIn K cd31 "_law_grouped" = true)
    (k31 : PySem.W.keepIn K (.ref f31) = true)
    (a32 : PySem.W.nsIn K mainGlobals "law" = some (some (.ref f32)))
    (l32 : K.lookup f32 = some ⟨oc32, od32, .func (PySem.W.fnOf "law" "law" (defArgs s_law) (defBody s_law) (defScope s_law) .none kV32 dc32 pm32 an32 (.ref cd32) ct32), sl32⟩)
    (c32 : PySem.W.codeIn K (.ref cd32) "law" = true)
    (k32 : PySem.W.keepIn K (.ref f32) = true)
    (y32 : K.lookup cd32 = some ⟨.type "code", oo32, .fields vs32, sc32⟩)
    (u32 : (vs32[11]? : Option Value) = some (.ref tb32))
    (w32 : PySem.W.codeHdIn K cd32 tb32 = true)
    (x32 : K.lookup tb32 = none)
    (e32 : h.get? tb32 = some { cls := .none, data := .fields #[] })
    (v_MAX_DAY : PySem.W.nsIn K mainGlobals "MAX_DAY" = some (some (.int 1000000000000000000 t_MAX_DAY)))
    (v_MAX_LETTERS : PySem.W.nsIn K mainGlobals "MAX_LETTERS" = some (some (.int 8 t_MAX_LETTERS)))
    (v_ORDER_PARTS : PySem.W.nsIn K mainGlobals "ORDER_PARTS" = some (some (.int 5 t_ORDER_PARTS)))
    (v_MAX_WAY : PySem.W.nsIn K mainGlobals "MAX_WAY" = some (some (.int 30 t_MAX_WAY)))
    (v_MAX_ARRIVALS : PySem.W.nsIn K mainGlobals "MAX_ARRIVALS" = some (some (.int 1000 t_MAX_ARRIVALS)))
    (v_DAY_SIGNS : PySem.W.nsIn K mainGlobals "DAY_SIGNS" = some (some (.int 30 t_DAY_SIGNS)))
    (v_LETTERS : PySem.W.nsIn K mainGlobals "LETTERS" = some (some (.str "abcdefghijklmnopqrstuvwxyz" t_LETTERS)))
    (z_ValueError : PySem.W.nsIn K mainGlobals "ValueError" = some none)
    (z_all : PySem.W.nsIn K mainGlobals "all" = some none)
    (z_any : PySem.W.nsIn K mainGlobals "any" = some none)
    (z_bool : PySem.W.nsIn K mainGlobals "bool" = some none)
    (z_enumerate : PySem.W.nsIn K mainGlobals "enumerate" = some none)
    (z_int : PySem.W.nsIn K mainGlobals "int" = some none)
    (z_isinstance : PySem.W.nsIn K mainGlobals "isinstance" = some none)
    (z_len : PySem.W.nsIn K mainGlobals "len" = some none)
    (z_list : PySem.W.nsIn K mainGlobals "list" = some none)
    (z_max : PySem.W.nsIn K mainGlobals "max" = some none)
    (z_min : PySem.W.nsIn K mainGlobals "min" = some none)
    (z_range : PySem.W.nsIn K mainGlobals "range" = some none)
    (z_sorted : PySem.W.nsIn K mainGlobals "sorted" = some none)
    (z_str : PySem.W.nsIn K mainGlobals "str" = some none)
    (z_tuple : PySem.W.nsIn K mainGlobals "tuple" = some none)
    (fi14 : PySem.W.fnIn K f14 = true)
    (rf16 : PySem.W.selfFirst K C_Book = true)
    (rr16 : PySem.W.findIn K (.ref C_Book) "__rrshift__" = some none)
    (ri16 : PySem.W.findIn K (.type "int") "__rshift__" = some ifo16)
    (rj16 : PySem.W.findIn K (.type "int") "__rrshift__" = some iro16)
    (rs16 : PySem.W.subIn K (.type "int") (.ref C_Book) = some false)
    (n_Book__orders : PySem.W.findIn K (.ref C_Book) "_orders" = some none)
    (rd : PySem.W.readsIn K C_Book (.type "type") = true)
    (gA : PySem.W.specialIn K (.ref C_Book) "__getattribute__" = some (some (.builtin "type.__getattribute__")))
    (w_MAX_ORDERS : PySem.W.findCls K (.ref C_Book) (.type "type") "MAX_ORDERS" = some (.val (.int 30 t_MAX_ORDERS)))
    (ha : PySem.W.findIn K (.ref C_Book) "__class__" = some (some (.builtin "object.__class__")))
    (hn : PySem.W.specialIn K (.builtin "object.__class__") "__get__" = some (some (.builtin "getset_descriptor.__get__")))
    (htk : PySem.W.takesIn K (.builtin "object.__class__") = some true)
    (hm : PySem.W.mroIn K C_Book (.type "object") = some true)
    (sf : PySem.W.selfFirst K C_Book = true)
    (aC_InvalidAddress : PySem.W.nsIn K mainGlobals "InvalidAddress" = some (some (.ref C_InvalidAddress)))
    (kc_InvalidAddress : PySem.W.keepIn K (.ref C_InvalidAddress) = true)
    (ex_InvalidAddress : PySem.W.excIn K C_InvalidAddress [.type "ValueError", .type "Exception", .type "BaseException", .type "object"] "ValueError.__new__" = true)
    (sb_InvalidAddress : PySem.W.subIn K (.ref C_InvalidAddress) (.type "BaseException") = some true)
    (ty_InvalidAddress : PySem.W.typeIn K (.ref C_InvalidAddress) = some (.type "type"))
    (aC_InvalidDay : PySem.W.nsIn K mainGlobals "InvalidDay" = some (some (.ref C_InvalidDay)))
    (kc_InvalidDay : PySem.W.keepIn K (.ref C_InvalidDay) = true)
    (ex_InvalidDay : PySem.W.excIn K C_InvalidDay [.type "ValueError", .type "Exception", .type "BaseException", .type "object"] "ValueError.__new__" = true)
    (sb_InvalidDay : PySem.W.subIn K (.ref C_InvalidDay) (.type "BaseException") = some true)
    (ty_InvalidDay : PySem.W.typeIn K (.ref C_InvalidDay) = some (.type "type"))
    (aC_InvalidNumber : PySem.W.nsIn K mainGlobals "InvalidNumber" = some (some (.ref C_InvalidNumber)))
    (kc_InvalidNumber : PySem.W.keepIn K (.ref C_InvalidNumber) = true)
    (ex_InvalidNumber : PySem.W.excIn K C_InvalidNumber [.type "ValueError", .type "Exception", .type "BaseException", .type "object"] "ValueError.__new__" = true)
    (sb_InvalidNumber : PySem.W.subIn K (.ref C_InvalidNumber) (.type "BaseException") = some true)
    (ty_InvalidNumber : PySem.W.typeIn K (.ref C_InvalidNumber) = some (.type "type"))
    (aC_MailError : PySem.W.nsIn K mainGlobals "MailError" = some (some (.ref C_MailError)))
    (aC_InvalidOperation : PySem.W.nsIn K mainGlobals "InvalidOperation" = some (some (.ref C_InvalidOperation)))
    (aC_InvalidOrder : PySem.W.nsIn K mainGlobals "InvalidOrder" = some (some (.ref C_InvalidOrder)))
    (aC_UnknownOrder : PySem.W.nsIn K mainGlobals "UnknownOrder" = some (some (.ref C_UnknownOrder)))
    (aC_NotHolding : PySem.W.nsIn K mainGlobals "NotHolding" = some (some (.ref C_NotHolding)))
    (aC_DecodeError : PySem.W.nsIn K mainGlobals "DecodeError" = some (some (.ref C_DecodeError)))
    (aC_NotationError : PySem.W.nsIn K mainGlobals "NotationError" = some (some (.ref C_NotationError)))
    (aC_UnknownLetter : PySem.W.nsIn K mainGlobals "UnknownLetter" = some (some (.ref C_UnknownLetter)))
    (aC_Contradiction : PySem.W.nsIn K mainGlobals "Contradiction" = some (some (.ref C_Contradiction)))
    (aC_InvalidCount : PySem.W.nsIn K mainGlobals "InvalidCount" = some (some (.ref C_InvalidCount)))
    (eg_InvalidAddress : PySem.W.findIn K (.ref C_InvalidAddress) "__getattribute__" = some (some (.builtin "BaseException.__getattribute__")))
    (ek_InvalidAddress : PySem.W.findIn K (.ref C_InvalidAddress) "__getattr__" = some none)
    (ed_InvalidAddress : PySem.W.hasDictIn K C_InvalidAddress = true)
    (ea_InvalidAddress : PySem.W.findIn K (.ref C_InvalidAddress) "__class__" = some (some (.builtin "object.__class__")))
    (em_InvalidAddress : PySem.W.mroIn K C_InvalidAddress (.type "object") = some true)
    (ev_InvalidAddress : PySem.W.kitOne K (.ref C_InvalidAddress) (.type "ValueError") = some true)
    (ex1_InvalidAddress : PySem.W.exmOne K (.ref C_InvalidAddress) (.ref C_MailError) = some true)
    (ke_InvalidAddress_InvalidOperation : PySem.W.kitOne K (.ref C_InvalidAddress) (.ref C_InvalidOperation) = some false)
    (ke_InvalidAddress_InvalidOrder : PySem.W.kitOne K (.ref C_InvalidAddress) (.ref C_InvalidOrder) = some false)
    (ke_InvalidAddress_UnknownOrder : PySem.W.kitOne K (.ref C_InvalidAddress) (.ref C_UnknownOrder) = some false)
    (ke_InvalidAddress_NotHolding : PySem.W.kitOne K (.ref C_InvalidAddress) (.ref C_NotHolding) = some false)
    (ke_InvalidAddress_DecodeError : PySem.W.kitOne K (.ref C_InvalidAddress) (.ref C_DecodeError) = some false)
    (ke_InvalidAddress_NotationError : PySem.W.kitOne K (.ref C_InvalidAddress) (.ref C_NotationError) = some false)
    (ke_InvalidAddress_UnknownLetter : PySem.W.kitOne K (.ref C_InvalidAddress) (.ref C_UnknownLetter) = some false)
    (ke_InvalidAddress_InvalidDay : PySem.W.kitOne K (.ref C_InvalidAddress) (.ref C_InvalidDay) = some false)
    (ke_InvalidAddress_InvalidNumber : PySem.W.kitOne K (.ref C_InvalidAddress) (.ref C_InvalidNumber) = some false)
    (ke_InvalidAddress_Contradiction : PySem.W.kitOne K (.ref C_InvalidAddress) (.ref C_Contradiction) = some false)
    (ke_InvalidAddress_InvalidCount : PySem.W.kitOne K (.ref C_InvalidAddress) (.ref C_InvalidCount) = some false)
    (tn_InvalidAddress_index : PySem.W.findIn K (.ref C_InvalidAddress) "index" = some none)
    (tn_InvalidAddress_offset : PySem.W.findIn K (.ref C_InvalidAddress) "offset" = some none)
    (tn_InvalidAddress_row : PySem.W.findIn K (.ref C_InvalidAddress) "row" = some none)
    (tn_InvalidAddress_word : PySem.W.findIn K (.ref C_InvalidAddress) "word" = some none)
    (tn_InvalidAddress_letter : PySem.W.findIn K (.ref C_InvalidAddress) "letter" = some none)
    (eg_InvalidDay : PySem.W.findIn K (.ref C_InvalidDay) "__getattribute__" = some (some (.builtin "BaseException.__getattribute__")))
    (ek_InvalidDay : PySem.W.findIn K (.ref C_InvalidDay) "__getattr__" = some none)
    (ed_InvalidDay : PySem.W.hasDictIn K C_InvalidDay = true)
    (ea_InvalidDay : PySem.W.findIn K (.ref C_InvalidDay) "__class__" = some (some (.builtin "object.__class__")))
    (em_InvalidDay : PySem.W.mroIn K C_InvalidDay (.type "object") = some true)
    (ev_InvalidDay : PySem.W.kitOne K (.ref C_InvalidDay) (.type "ValueError") = some true)
    (ex1_InvalidDay : PySem.W.exmOne K (.ref C_InvalidDay) (.ref C_MailError) = some true)
    (ke_InvalidDay_InvalidOperation : PySem.W.kitOne K (.ref C_InvalidDay) (.ref C_InvalidOperation) = some false)
    (ke_InvalidDay_InvalidOrder : PySem.W.kitOne K (.ref C_InvalidDay) (.ref C_InvalidOrder) = some false)
    (ke_InvalidDay_UnknownOrder : PySem.W.kitOne K (.ref C_InvalidDay) (.ref C_UnknownOrder) = some false)
    (ke_InvalidDay_NotHolding : PySem.W.kitOne K (.ref C_InvalidDay) (.ref C_NotHolding) = some false)
    (ke_InvalidDay_DecodeError : PySem.W.kitOne K (.ref C_InvalidDay) (.ref C_DecodeError) = some false)
    (ke_InvalidDay_NotationError : PySem.W.kitOne K (.ref C_InvalidDay) (.ref C_NotationError) = some false)
    (ke_InvalidDay_UnknownLetter : PySem.W.kitOne K (.ref C_InvalidDay) (.ref C_UnknownLetter) = some false)
    (ke_InvalidDay_InvalidAddress : PySem.W.kitOne K (.ref C_InvalidDay) (.ref C_InvalidAddress) = some false)
    (ke_InvalidDay_InvalidNumber : PySem.W.kitOne K (.ref C_InvalidDay) (.ref C_InvalidNumber) = some false)
    (ke_InvalidDay_Contradiction : PySem.W.kitOne K (.ref C_InvalidDay) (.ref C_Contradiction) = some false)
    (ke_InvalidDay_InvalidCount : PySem.W.kitOne K (.ref C_InvalidDay) (.ref C_InvalidCount) = some false)
    (tn_InvalidDay_index : PySem.W.findIn K (.ref C_InvalidDay) "index" = some none)
    (tn_InvalidDay_offset : PySem.W.findIn K (.ref C_InvalidDay) "offset" = some none)
    (tn_InvalidDay_row : PySem.W.findIn K (.ref C_InvalidDay) "row" = some none)
    (tn_InvalidDay_word : PySem.W.findIn K (.ref C_InvalidDay) "word" = some none)
    (tn_InvalidDay_letter : PySem.W.findIn K (.ref C_InvalidDay) "letter" = some none)
    (eg_InvalidNumber : PySem.W.findIn K (.ref C_InvalidNumber) "__getattribute__" = some (some (.builtin "BaseException.__getattribute__")))
    (ek_InvalidNumber : PySem.W.findIn K (.ref C_InvalidNumber) "__getattr__" = some none)
    (ed_InvalidNumber : PySem.W.hasDictIn K C_InvalidNumber = true)
    (ea_InvalidNumber : PySem.W.findIn K (.ref C_InvalidNumber) "__class__" = some (some (.builtin "object.__class__")))
    (em_InvalidNumber : PySem.W.mroIn K C_InvalidNumber (.type "object") = some true)
    (ev_InvalidNumber : PySem.W.kitOne K (.ref C_InvalidNumber) (.type "ValueError") = some true)
    (ex1_InvalidNumber : PySem.W.exmOne K (.ref C_InvalidNumber) (.ref C_MailError) = some true)
    (ke_InvalidNumber_InvalidOperation : PySem.W.kitOne K (.ref C_InvalidNumber) (.ref C_InvalidOperation) = some false)
    (ke_InvalidNumber_InvalidOrder : PySem.W.kitOne K (.ref C_InvalidNumber) (.ref C_InvalidOrder) = some false)
    (ke_InvalidNumber_UnknownOrder : PySem.W.kitOne K (.ref C_InvalidNumber) (.ref C_UnknownOrder) = some false)
    (ke_InvalidNumber_NotHolding : PySem.W.kitOne K (.ref C_InvalidNumber) (.ref C_NotHolding) = some false)
    (ke_InvalidNumber_DecodeError : PySem.W.kitOne K (.ref C_InvalidNumber) (.ref C_DecodeError) = some false)
    (ke_InvalidNumber_NotationError : PySem.W.kitOne K (.ref C_InvalidNumber) (.ref C_NotationError) = some false)
    (ke_InvalidNumber_UnknownLetter : PySem.W.kitOne K (.ref C_InvalidNumber) (.ref C_UnknownLetter) = some false)
    (ke_InvalidNumber_InvalidAddress : PySem.W.kitOne K (.ref C_InvalidNumber) (.ref C_InvalidAddress) = some false)
    (ke_InvalidNumber_InvalidDay : PySem.W.kitOne K (.ref C_InvalidNumber) (.ref C_InvalidDay) = some false)
    (ke_InvalidNumber_Contradiction : PySem.W.kitOne K (.ref C_InvalidNumber) (.ref C_Contradiction) = some false)
    (ke_InvalidNumber_InvalidCount : PySem.W.kitOne K (.ref C_InvalidNumber) (.ref C_InvalidCount) = some false)
    (tn_InvalidNumber_index : PySem.W.findIn K (.ref C_InvalidNumber) "index" = some none)
    (tn_InvalidNumber_offset : PySem.W.findIn K (.ref C_InvalidNumber) "offset" = some none)
    (tn_InvalidNumber_row : PySem.W.findIn K (.ref C_InvalidNumber) "row" = some none)
    (tn_InvalidNumber_word : PySem.W.findIn K (.ref C_InvalidNumber) "word" = some none)
    (tn_InvalidNumber_letter : PySem.W.findIn K (.ref C_InvalidNumber) "letter" = some none)
    (st_InvalidAddress : PySem.W.subIn K (.ref C_InvalidAddress) (.type "StopIteration") = some false)
    (st_InvalidDay : PySem.W.subIn K (.ref C_InvalidDay) (.type "StopIteration") = some false)
    (st_InvalidNumber : PySem.W.subIn K (.ref C_InvalidNumber) (.type "StopIteration") = some false) :
    LamX.LawAtS l w K (L2.CX l.prog w) 17 63 "_law_script" mg fa h := by
  have e : fa = f32 := by
    have e := hfa.symm.trans (PySem.W.mg_of X G a32)
    cases e
    rfl
  rw [e]
  let T : Txt K mg := ⟨⟨C_Book, PySem.W.mg_of X G aC_Book, ⟨pg_Book, hd_Book, po_Book, sa_Book⟩⟩,
    ⟨f1, _, PySem.W.mg_of X G a1, (fun_mk (st := s_is_number) l1 c1 k1), b_is_number (fun_mk (st := s_is_number) l1 c1 k1)⟩,
    ⟨f2, _, PySem.W.mg_of X G a2, (fun_mk (st := s_is_address) l2 c2 k2), b_is_address (fun_mk (st := s_is_address) l2 c2 k2)⟩,
    ⟨f3, _, PySem.W.mg_of X G a3, (fun_mk (st := s_is_day) l3 c3 k3), b_is_day (fun_mk (st := s_is_day) l3 c3 k3)⟩,
    ⟨f4, _, PySem.W.mg_of X G a4, (fun_mk (st := s_check_address) l4 c4 k4), b_check_address (fun_mk (st := s_check_address) l4 c4 k4)⟩,
    ⟨f5, _, PySem.W.mg_of X G a5, (fun_mk (st := s_check_day) l5 c5 k5), b_check_day (fun_mk (st := s_check_day) l5 c5 k5)⟩,
    ⟨f6, _, PySem.W.mg_of X G a6, (fun_mk (st := s_check_letter) l6 c6 k6), b_check_letter (fun_mk (st := s_check_letter) l6 c6 k6)⟩,
    ⟨f7, _, PySem.W.mg_of X G a7, (fun_mk (st := s_check_number) l7 c7 k7), b_check_number (fun_mk (st := s_check_number) l7 c7 k7)⟩,
    ⟨f8, _, PySem.W.mg_of X G a8, (fun_mk (st := s_is_order) l8 c8 k8), b_is_order (fun_mk (st := s_is_order) l8 c8 k8)⟩,
    ⟨f9, _, PySem.W.mg_of X G a9, (fun_mk (st := s_share_day) l9 c9 k9), b_share_day (fun_mk (st := s_share_day) l9 c9 k9)⟩,
    ⟨f10, _, ⟨mk_Book, a10, i10, kc_Book⟩, (fun_mk (st := s_Book_init) l10 c10 k10)⟩,
    ⟨p11, f11, _, ⟨a11, g11, t11, ⟨_, r11⟩⟩, (fun_mk (st := s_Book_orders) l11 c11 k11), b_Book_orders (fun_mk (st := s_Book_orders) l11 c11 k11)⟩,
    ⟨p12, f12, _, ⟨a12, g12, t12, ⟨_, r12⟩⟩, (fun_mk (st := s_Book_addresses) l12 c12 k12), b_Book_addresses (fun_mk (st := s_Book_addresses) l12 c12 k12)⟩,
    ⟨f13, _, ⟨a13, i13, k13⟩, (fun_mk (st := s_Book_len) l13 c13 k13), b_Book_len (fun_mk (st := s_Book_len) l13 c13 k13)⟩,
    ⟨f14, _, ⟨a14, i14, k14⟩, (fun_mk (st := s_Book_getitem) l14 c14 k14), b_Book_getitem (fun_mk (st := s_Book_getitem) l14 c14 k14)⟩,
    ⟨f15, _, ⟨a15, i15, k15⟩, (fun_mk (st := s_Book_add) l15 c15 k15), b_Book_add (fun_mk (st := s_Book_add) l15 c15 k15)⟩,
    ⟨f16, _, ⟨a16, i16, k16⟩, (fun_mk (st := s_Book_rshift) l16 c16 k16), b_Book_rshift (fun_mk (st := s_Book_rshift) l16 c16 k16)⟩,
    ⟨f17, _, ⟨a17, i17, k17⟩, (fun_mk (st := s_Book_check_index) l17 c17 k17), b_Book_check_index (fun_mk (st := s_Book_check_index) l17 c17 k17)⟩,
    ⟨f18, _, PySem.W.mg_of X G a18, (fun_mk (st := s_holding) l18 c18 k18), b_holding (fun_mk (st := s_holding) l18 c18 k18)⟩,
    ⟨f19, _, PySem.W.mg_of X G a19, (fun_mk (st := s_route) l19 c19 k19), b_route (fun_mk (st := s_route) l19 c19 k19)⟩,
    ⟨f20, _, PySem.W.mg_of X G a20, (fun_mk (st := s_travel_list) l20 c20 k20), b_travel_list (fun_mk (st := s_travel_list) l20 c20 k20)⟩,
    ⟨f21, _, PySem.W.mg_of X G a21, (fun_mk (st := s_law_dice) l21 c21 k21), b_law_dice (fun_mk (st := s_law_dice) l21 c21 k21)⟩,
    ⟨f22, _, PySem.W.mg_of X G a22, (fun_mk (st := s_law_next) l22 c22 k22), b_law_next (fun_mk (st := s_law_next) l22 c22 k22)⟩,
    ⟨f23, _, PySem.W.mg_of X G a23, (fun_mk (st := s_law_pick) l23 c23 k23), b_law_pick (fun_mk (st := s_law_pick) l23 c23 k23)⟩,
    ⟨f24, _, PySem.W.mg_of X G a24, (fun_mk (st := s_law_told) l24 c24 k24), b_law_told (fun_mk (st := s_law_told) l24 c24 k24)⟩,
    ⟨f25, _, PySem.W.mg_of X G a25, (fun_mk (st := s_law_fits) l25 c25 k25), b_law_fits (fun_mk (st := s_law_fits) l25 c25 k25)⟩,
    ⟨f26, _, PySem.W.mg_of X G a26, (fun_mk (st := s_law_order) l26 c26 k26), b_law_order (fun_mk (st := s_law_order) l26 c26 k26)⟩,
    ⟨f27, _, PySem.W.mg_of X G a27, (fun_mk (st := s_law_orders) l27 c27 k27), b_law_orders (fun_mk (st := s_law_orders) l27 c27 k27)⟩,
    ⟨f28, _, PySem.W.mg_of X G a28, (fun_mk (st := s_law_made) l28 c28 k28), b_law_made (fun_mk (st := s_law_made) l28 c28 k28)⟩,
    ⟨f29, _, PySem.W.mg_of X G a29, (fun_mk (st := s_law_now) l29 c29 k29), b_law_now (fun_mk (st := s_law_now) l29 c29 k29)⟩,
    ⟨f30, _, PySem.W.mg_of X G a30, (fun_mk (st := s_law_arrivals) l30 c30 k30), b_law_arrivals (fun_mk (st := s_law_arrivals) l30 c30 k30)⟩,
    ⟨f31, _, PySem.W.mg_of X G a31, (fun_mk (st := s_law_grouped) l31 c31 k31), b_law_grouped (fun_mk (st := s_law_grouped) l31 c31 k31)⟩,
    ⟨f32, _, PySem.W.mg_of X G a32, (fun_mk (st := s_law) l32 c32 k32), b_law (fun_mk (st := s_law) l32 c32 k32)⟩,
    ⟨_, PySem.W.mg_of X G v_MAX_DAY⟩,
    ⟨_, PySem.W.mg_of X G v_MAX_LETTERS⟩,
    ⟨_, PySem.W.mg_of X G v_ORDER_PARTS⟩,
    ⟨_, PySem.W.mg_of X G v_MAX_WAY⟩,
    ⟨_, PySem.W.mg_of X G v_MAX_ARRIVALS⟩,
    ⟨_, PySem.W.mg_of X G v_DAY_SIGNS⟩,
    ⟨_, PySem.W.mg_of X G v_LETTERS⟩,
    PySem.W.mg_none_of X G z_ValueError,
    PySem.W.mg_none_of X G z_all,
    PySem.W.mg_none_of X G z_any,
    PySem.W.mg_none_of X G z_bool,
    PySem.W.mg_none_of X G z_enumerate,
    PySem.W.mg_none_of X G z_int,
    PySem.W.mg_none_of X G z_isinstance,
    PySem.W.mg_none_of X G z_len,
    PySem.W.mg_none_of X G z_list,
    PySem.W.mg_none_of X G z_max,
    PySem.W.mg_none_of X G z_min,
    PySem.W.mg_none_of X G z_range,
    PySem.W.mg_none_of X G z_sorted,
    PySem.W.mg_none_of X G z_str,
    PySem.W.mg_none_of X G z_tuple,
    fi14,
    ⟨rf16, a16, i16, rr16, ⟨_, ri16⟩, ⟨_, rj16⟩, rs16⟩,
    n_Book__orders,
    ⟨_, _, ⟨rd, gA⟩, ⟨w_MAX_ORDERS, ⟨_, rfl⟩⟩⟩,
    ⟨⟨pg_Book, hd_Book, po_Book, sa_Book⟩, ha, hn, htk, hm, if_pos (beq_self_eq_true _)⟩,
    sf,
    ⟨C_InvalidAddress, PySem.W.mg_of X G aC_InvalidAddress, kc_InvalidAddress, ex_InvalidAddress, sb_InvalidAddress, ty_InvalidAddress⟩,
    ⟨C_InvalidDay, PySem.W.mg_of X G aC_InvalidDay, kc_InvalidDay, ex_InvalidDay, sb_InvalidDay, ty_InvalidDay⟩,
    ⟨C_InvalidNumber, PySem.W.mg_of X G aC_InvalidNumber, kc_InvalidNumber, ex_InvalidNumber, sb_InvalidNumber, ty_InvalidNumber⟩,
    ⟨C_MailError, PySem.W.mg_of X G aC_MailError⟩,
    ⟨C_InvalidOperation, PySem.W.mg_of X G aC_InvalidOperation⟩,
    ⟨C_InvalidOrder, PySem.W.mg_of X G aC_InvalidOrder⟩,
    ⟨C_UnknownOrder, PySem.W.mg_of X G aC_UnknownOrder⟩,
    ⟨C_NotHolding, PySem.W.mg_of X G aC_NotHolding⟩,
    ⟨C_DecodeError, PySem.W.mg_of X G aC_DecodeError⟩,
    ⟨C_NotationError, PySem.W.mg_of X G aC_NotationError⟩,
    ⟨C_UnknownLetter, PySem.W.mg_of X G aC_UnknownLetter⟩,
    ⟨C_Contradiction, PySem.W.mg_of X G aC_Contradiction⟩,
    ⟨C_InvalidCount, PySem.W.mg_of X G aC_InvalidCount⟩,
    ⟨⟨eg_InvalidAddress, ek_InvalidAddress, sb_InvalidAddress, ed_InvalidAddress, ea_InvalidAddress, hn, htk, em_InvalidAddress⟩, ex1_InvalidAddress, ev_InvalidAddress, told_k ke_InvalidAddress_InvalidOperation ke_InvalidAddress_InvalidOrder ke_InvalidAddress_UnknownOrder ke_InvalidAddress_NotHolding ke_InvalidAddress_DecodeError ke_InvalidAddress_NotationError ke_InvalidAddress_UnknownLetter (if_pos (beq_self_eq_true _)) ke_InvalidAddress_InvalidDay ke_InvalidAddress_InvalidNumber ke_InvalidAddress_Contradiction ke_InvalidAddress_InvalidCount, ⟨eg_InvalidAddress, ek_InvalidAddress, sb_InvalidAddress, ed_InvalidAddress⟩, tn_InvalidAddress_index, tn_InvalidAddress_offset, tn_InvalidAddress_row, tn_InvalidAddress_word, tn_InvalidAddress_letter⟩,
    ⟨⟨eg_InvalidDay, ek_InvalidDay, sb_InvalidDay, ed_InvalidDay, ea_InvalidDay, hn, htk, em_InvalidDay⟩, ex1_InvalidDay, ev_InvalidDay, told_k ke_InvalidDay_InvalidOperation ke_InvalidDay_InvalidOrder ke_InvalidDay_UnknownOrder ke_InvalidDay_NotHolding ke_InvalidDay_DecodeError ke_InvalidDay_NotationError ke_InvalidDay_UnknownLetter ke_InvalidDay_InvalidAddress (if_pos (beq_self_eq_true _)) ke_InvalidDay_InvalidNumber ke_InvalidDay_Contradiction ke_InvalidDay_InvalidCount, ⟨eg_InvalidDay, ek_InvalidDay, sb_InvalidDay, ed_InvalidDay⟩, tn_InvalidDay_index, tn_InvalidDay_offset, tn_InvalidDay_row, tn_InvalidDay_word, tn_InvalidDay_letter⟩,
    ⟨⟨eg_InvalidNumber, ek_InvalidNumber, sb_InvalidNumber, ed_InvalidNumber, ea_InvalidNumber, hn, htk, em_InvalidNumber⟩, ex1_InvalidNumber, ev_InvalidNumber, told_k ke_InvalidNumber_InvalidOperation ke_InvalidNumber_InvalidOrder ke_InvalidNumber_UnknownOrder ke_InvalidNumber_NotHolding ke_InvalidNumber_DecodeError ke_InvalidNumber_NotationError ke_InvalidNumber_UnknownLetter ke_InvalidNumber_InvalidAddress ke_InvalidNumber_InvalidDay (if_pos (beq_self_eq_true _)) ke_InvalidNumber_Contradiction ke_InvalidNumber_InvalidCount, ⟨eg_InvalidNumber, ek_InvalidNumber, sb_InvalidNumber, ed_InvalidNumber⟩, tn_InvalidNumber_index, tn_InvalidNumber_offset, tn_InvalidNumber_row, tn_InvalidNumber_word, tn_InvalidNumber_letter⟩,
    st_InvalidAddress,
    st_InvalidDay,
    st_InvalidNumber,
    ⟨cd32, tb32, fun oc od fd osl z => by rw [l32] at z; cases z; rfl⟩⟩
  refine ⟨_, [(cd32, tb32)], sp_law K tb32, fun p hp => by
    simp only [List.mem_cons, List.not_mem_nil, or_false] at hp
    rcases hp with rfl
    · exact e32, fun p hp => by
    simp only [List.mem_cons, List.not_mem_nil, or_false] at hp
    rcases hp with rfl
    · exact x32, fun p hp => by
    simp only [List.mem_cons, List.not_mem_nil, or_false] at hp
    rcases hp with rfl
    · exact PySem.W.codeHd_of_K X w32, fun s v => .of_eq rfl, fun H a ns hl _ hH hS => ⟨a, ns, rfl, hS, hl, hH (cd32, tb32) (.head _), fun _ => rfl⟩, fun base _ _ TB => ok_law (P := l.prog) (w := w) (base := base) T (TB (cd32, tb32) (.head _))⟩
theorem walk {l : PySem.W.OpenLaw} {q : Program} {loose : List Str} {XP : (Str → Option Value) → Heap → Prop} {YP : World → Heap → Prop} {d : DefRec} {K : Params → PySem.W.Frag} (hn : l.most = some 63) (hdf : d.params.defaults = [])
    (hY : ∀ (w : World) (h : Heap), YP w h → (K w.params).In h)
    (F : ∀ (w : World) (mg : Str → Option Value) (fa : Addr) (h : Heap), YP w h → (K w.params).In h → h.Ns mainGlobals mg → mg d.name = some (.ref fa) → LamX.LawAtS l w (K w.params) (L2.CX l.prog w) 17 63 "_law_script" mg fa h) :
    PySem.W.WalkO q loose XP YP l.row.toRowW d [] (fun f vs => PySem.call f vs) :=
  LamX.walk_ofTs (n := 63) (k := 17) (x := "_law_script") (CX := fun w => L2.CX l.prog w) hn (by decide) hdf ⟨rfl, by decide, by decide⟩ hY F fun _ _ _ _ _ ⟨_, _, _, _, _, _, _, _, _, _, _, _, z⟩ => z
end K47
open PySem PySem.W PyProof.Rows
set_option maxRecDepth 100000 in
set_option maxHeartbeats 0 in
theorem PySem.Challenge.cw_mailforwards_k47_travel_lists_holds : PySem.Challenge.rw_mailforwards_k47_travel_lists.Holds := by
  w_on; o_law; k_head; (case hw => w_witness2)
  k_fill
  refine K47.walk (l := PySem.Challenge.rw_mailforwards_k47_travel_lists) rfl rfl (fun w h Y => PySem.W.km_in_of Y) ?F
  case F =>
    intro w mg fa h Y KX G hmg
    refine' K47.all_mk KX G hmg ?aC_Book ?pg_Book ?hd_Book ?po_Book ?sa_Book ?mk_Book ?kc_Book ?a1 ?l1 ?c1 ?k1 ?a2 ?l2 ?c2 ?k2 ?a3 ?l3 ?c3 ?k3 ?a4 ?l4 ?c4 ?k4 ?a5 ?l5 ?c5 ?k5 ?a6 ?l6 ?c6 ?k6 ?a7 ?l7 ?c7 ?k7 ?a8 ?l8 ?c8 ?k8 ?a9 ?l9 ?c9 ?k9 ?a10 ?i10 ?l10 ?c10 ?k10 ?a11 ?g11 ?t11 ?r11 ?l11 ?c11 ?k11 ?a12 ?g12 ?t12 ?r12 ?l12 ?c12 ?k12 ?a13 ?i13 ?l13 ?c13 ?k13 ?a14 ?i14 ?l14 ?c14 ?k14 ?a15 ?i15 ?l15 ?c15 ?k15 ?a16 ?i16 ?l16 ?c16 ?k16 ?a17 ?i17 ?l17 ?c17 ?k17 ?a18 ?l18 ?c18 ?k18 ?a19 ?l19 ?c19 ?k19 ?a20 ?l20 ?c20 ?k20 ?a21 ?l21 ?c21 ?k21 ?a22 ?l22 ?c22 ?k22 ?a23 ?l23 ?c23 ?k23 ?a24 ?l24 ?c24 ?k24 ?a25 ?l25 ?c25 ?k25 ?a26 ?l26 ?c26 ?k26 ?a27 ?l27 ?c27 ?k27 ?a28 ?l28 ?c28 ?k28 ?a29 ?l29 ?c29 ?k29 ?a30 ?l30 ?c30 ?k30 ?a31 ?l31 ?c31 ?k31 ?a32 ?l32 ?c32 ?k32 ?y32 ?u32 ?w32 ?x32 ?e32 ?v_MAX_DAY ?v_MAX_LETTERS ?v_ORDER_PARTS ?v_MAX_WAY ?v_MAX_ARRIVALS ?v_DAY_SIGNS ?v_LETTERS ?z_ValueError ?z_all ?z_any ?z_bool ?z_enumerate ?z_int ?z_isinstance ?z_len ?z_list ?z_max ?z_min ?z_range ?z_sorted ?z_str ?z_tuple ?fi14 ?rf16 ?rr16 ?ri16 ?rj16 ?rs16 ?n_Book__orders ?rd ?gA ?w_MAX_ORDERS ?ha ?hn ?htk ?hm ?sf ?aC_InvalidAddress ?kc_InvalidAddress ?ex_InvalidAddress ?sb_InvalidAddress ?ty_InvalidAddress ?aC_InvalidDay ?kc_InvalidDay ?ex_InvalidDay ?sb_InvalidDay ?ty_InvalidDay ?aC_InvalidNumber ?kc_InvalidNumber ?ex_InvalidNumber ?sb_InvalidNumber ?ty_InvalidNumber ?aC_MailError ?aC_InvalidOperation ?aC_InvalidOrder ?aC_UnknownOrder ?aC_NotHolding ?aC_DecodeError ?aC_NotationError ?aC_UnknownLetter ?aC_Contradiction ?aC_InvalidCount ?eg_InvalidAddress ?ek_InvalidAddress ?ed_InvalidAddress ?ea_InvalidAddress ?em_InvalidAddress ?ev_InvalidAddress ?ex1_InvalidAddress ?ke_InvalidAddress_InvalidOperation ?ke_InvalidAddress_InvalidOrder ?ke_InvalidAddress_UnknownOrder ?ke_InvalidAddress_NotHolding ?ke_InvalidAddress_DecodeError ?ke_InvalidAddress_NotationError ?ke_InvalidAddress_UnknownLetter ?ke_InvalidAddress_InvalidDay ?ke_InvalidAddress_InvalidNumber ?ke_InvalidAddress_Contradiction ?ke_InvalidAddress_InvalidCount ?tn_InvalidAddress_index ?tn_InvalidAddress_offset ?tn_InvalidAddress_row ?tn_InvalidAddress_word ?tn_InvalidAddress_letter ?eg_InvalidDay ?ek_InvalidDay ?ed_InvalidDay ?ea_InvalidDay ?em_InvalidDay ?ev_InvalidDay ?ex1_InvalidDay ?ke_InvalidDay_InvalidOperation ?ke_InvalidDay_InvalidOrder ?ke_InvalidDay_UnknownOrder ?ke_InvalidDay_NotHolding ?ke_InvalidDay_DecodeError ?ke_InvalidDay_NotationError ?ke_InvalidDay_UnknownLetter ?ke_InvalidDay_InvalidAddress ?ke_InvalidDay_InvalidNumber ?ke_InvalidDay_Contradiction ?ke_InvalidDay_InvalidCount ?tn_InvalidDay_index ?tn_InvalidDay_offset ?tn_InvalidDay_row ?tn_InvalidDay_word ?tn_InvalidDay_letter ?eg_InvalidNumber ?ek_InvalidNumber ?ed_InvalidNumber ?ea_InvalidNumber ?em_InvalidNumber ?ev_InvalidNumber ?ex1_InvalidNumber ?ke_InvalidNumber_InvalidOperation ?ke_InvalidNumber_InvalidOrder ?ke_InvalidNumber_UnknownOrder ?ke_InvalidNumber_NotHolding ?ke_InvalidNumber_DecodeError ?ke_InvalidNumber_NotationError ?ke_InvalidNumber_UnknownLetter ?ke_InvalidNumber_InvalidAddress ?ke_InvalidNumber_InvalidDay ?ke_InvalidNumber_Contradiction ?ke_InvalidNumber_InvalidCount ?tn_InvalidNumber_index ?tn_InvalidNumber_offset ?tn_InvalidNumber_row ?tn_InvalidNumber_word ?tn_InvalidNumber_letter ?st_InvalidAddress ?st_InvalidDay ?st_InvalidNumber
    (case aC_Book => k_is)
    (case pg_Book => k_is)
    (case hd_Book => k_is)
    (case po_Book => k_is)
    (case sa_Book => k_is)
    (case mk_Book => k_is)
    (case kc_Book => k_is)
    (case a1 => k_is)
    (case l1 => k_is)
    (case c1 => k_is)
    (case k1 => k_is)
    (case a2 => k_is)
    (case l2 => k_is)
    (case c2 => k_is)
    (case k2 => k_is)
    (case a3 => k_is)
    (case l3 => k_is)
    (case c3 => k_is)
    (case k3 => k_is)
    (case a4 => k_is)
    (case l4 => k_is)
    (case c4 => k_is)
    (case k4 => k_is)
    (case a5 => k_is)
    (case l5 => k_is)
    (case c5 => k_is)
    (case k5 => k_is)
    (case a6 => k_is)
    (case l6 => k_is)
    (case c6 => k_is)
    (case k6 => k_is)
    (case a7 => k_is)
    (case l7 => k_is)
    (case c7 => k_is)
    (case k7 => k_is)
    (case a8 => k_is)
    (case l8 => k_is)
    (case c8 => k_is)
    (case k8 => k_is)
    (case a9 => k_is)
    (case l9 => k_is)
    (case c9 => k_is)
    (case k9 => k_is)
    (case a10 => k_is)
    (case i10 => k_is)
    (case l10 => k_is)
    (case c10 => k_is)
    (case k10 => k_is)
    (case a11 => k_is)
    (case g11 => k_is)
    (case t11 => k_is)
    (case r11 => k_is)
    (case l11 => k_is)
    (case c11 => k_is)
    (case k11 => k_is)
    (case a12 => k_is)
    (case g12 => k_is)
    (case t12 => k_is)
    (case r12 => k_is)
    (case l12 => k_is)
    (case c12 => k_is)
    (case k12 => k_is)
    (case a13 => k_is)
    (case i13 => k_is)
    (case l13 => k_is)
    (case c13 => k_is)
    (case k13 => k_is)
    (case a14 => k_is)
    (case i14 => k_is)
    (case l14 => k_is)
    (case c14 => k_is)
    (case k14 => k_is)
    (case a15 => k_is)
    (case i15 => k_is)
    (case l15 => k_is)
    (case c15 => k_is)
    (case k15 => k_is)
    (case a16 => k_is)
    (case i16 => k_is)
    (case l16 => k_is)
    (case c16 => k_is)
    (case k16 => k_is)
    (case a17 => k_is)
    (case i17 => k_is)
    (case l17 => k_is)
    (case c17 => k_is)
    (case k17 => k_is)
    (case a18 => k_is)
    (case l18 => k_is)
    (case c18 => k_is)
    (case k18 => k_is)
    (case a19 => k_is)
    (case l19 => k_is)
    (case c19 => k_is)
    (case k19 => k_is)
    (case a20 => k_is)
    (case l20 => k_is)
    (case c20 => k_is)
    (case k20 => k_is)
    (case a21 => k_is)
    (case l21 => k_is)
    (case c21 => k_is)
    (case k21 => k_is)
    (case a22 => k_is)
    (case l22 => k_is)
    (case c22 => k_is)
    (case k22 => k_is)
    (case a23 => k_is)
    (case l23 => k_is)
    (case c23 => k_is)
    (case k23 => k_is)
    (case a24 => k_is)
    (case l24 => k_is)
    (case c24 => k_is)
    (case k24 => k_is)
    (case a25 => k_is)
    (case l25 => k_is)
    (case c25 => k_is)
    (case k25 => k_is)
    (case a26 => k_is)
    (case l26 => k_is)
    (case c26 => k_is)
    (case k26 => k_is)
    (case a27 => k_is)
    (case l27 => k_is)
    (case c27 => k_is)
    (case k27 => k_is)
    (case a28 => k_is)
    (case l28 => k_is)
    (case c28 => k_is)
    (case k28 => k_is)
    (case a29 => k_is)
    (case l29 => k_is)
    (case c29 => k_is)
    (case k29 => k_is)
    (case a30 => k_is)
    (case l30 => k_is)
    (case c30 => k_is)
    (case k30 => k_is)
    (case a31 => k_is)
    (case l31 => k_is)
    (case c31 => k_is)
    (case k31 => k_is)
    (case a32 => k_is)
    (case l32 => k_is)
    (case c32 => k_is)
    (case k32 => k_is)
    (case y32 => k_is)
    (case u32 => rfl)
    (case w32 => kernel_rfl)
    (case x32 => kernel_rfl)
    (case e32 => exact PySem.W.km_tabs_of Y _ (by k_mem))
    (case v_MAX_DAY => k_is)
    (case v_MAX_LETTERS => k_is)
    (case v_ORDER_PARTS => k_is)
    (case v_MAX_WAY => k_is)
    (case v_MAX_ARRIVALS => k_is)
    (case v_DAY_SIGNS => k_is)
    (case v_LETTERS => k_is)
    (case z_ValueError => k_is)
    (case z_all => k_is)
    (case z_any => k_is)
    (case z_bool => k_is)
    (case z_enumerate => k_is)
    (case z_int => k_is)
    (case z_isinstance => k_is)
    (case z_len => k_is)
    (case z_list => k_is)
    (case z_max => k_is)
    (case z_min => k_is)
    (case z_range => k_is)
    (case z_sorted => k_is)
    (case z_str => k_is)
    (case z_tuple => k_is)
    (case fi14 => k_is)
    (case rf16 => k_is)
    (case rr16 => k_is)
    (case ri16 => k_is)
    (case rj16 => k_is)
    (case rs16 => k_is)
    (case n_Book__orders => k_is)
    (case rd => k_is)
    (case gA => k_is)
    (case w_MAX_ORDERS => k_is)
    (case ha => k_is)
    (case hn => k_is)
    (case htk => k_is)
    (case hm => k_is)
    (case sf => k_is)
    (case aC_InvalidAddress => k_is)
    (case kc_InvalidAddress => k_is)
    (case ex_InvalidAddress => k_exc)
    (case sb_InvalidAddress => k_is)
    (case ty_InvalidAddress => k_is)
    (case aC_InvalidDay => k_is)
    (case kc_InvalidDay => k_is)
    (case ex_InvalidDay => k_exc)
    (case sb_InvalidDay => k_is)
    (case ty_InvalidDay => k_is)
    (case aC_InvalidNumber => k_is)
    (case kc_InvalidNumber => k_is)
    (case ex_InvalidNumber => k_exc)
    (case sb_InvalidNumber => k_is)
    (case ty_InvalidNumber => k_is)
    (case aC_MailError => k_is)
    (case aC_InvalidOperation => k_is)
    (case aC_InvalidOrder => k_is)
    (case aC_UnknownOrder => k_is)
    (case aC_NotHolding => k_is)
    (case aC_DecodeError => k_is)
    (case aC_NotationError => k_is)
    (case aC_UnknownLetter => k_is)
    (case aC_Contradiction => k_is)
    (case aC_InvalidCount => k_is)
    (case eg_InvalidAddress => k_is)
    (case ek_InvalidAddress => k_is)
    (case ed_InvalidAddress => k_is)
    (case ea_InvalidAddress => k_is)
    (case em_InvalidAddress => k_is)
    (case ev_InvalidAddress => exact K47.kit_vt (by k_is))
    (case ex1_InvalidAddress => exact K47.exm_is (by k_is) (by k_is) (by k_is) (by k_is))
    (case ke_InvalidAddress_InvalidOperation => exact K47.kit_no (by decide) (by k_is) (by k_is) (by k_is))
    (case ke_InvalidAddress_InvalidOrder => exact K47.kit_no (by decide) (by k_is) (by k_is) (by k_is))
    (case ke_InvalidAddress_UnknownOrder => exact K47.kit_no (by decide) (by k_is) (by k_is) (by k_is))
    (case ke_InvalidAddress_NotHolding => exact K47.kit_no (by decide) (by k_is) (by k_is) (by k_is))
    (case ke_InvalidAddress_DecodeError => exact K47.kit_no (by decide) (by k_is) (by k_is) (by k_is))
    (case ke_InvalidAddress_NotationError => exact K47.kit_no (by decide) (by k_is) (by k_is) (by k_is))
    (case ke_InvalidAddress_UnknownLetter => exact K47.kit_no (by decide) (by k_is) (by k_is) (by k_is))
    (case ke_InvalidAddress_InvalidDay => exact K47.kit_no (by decide) (by k_is) (by k_is) (by k_is))
    (case ke_InvalidAddress_InvalidNumber => exact K47.kit_no (by decide) (by k_is) (by k_is) (by k_is))
    (case ke_InvalidAddress_Contradiction => exact K47.kit_no (by decide) (by k_is) (by k_is) (by k_is))
    (case ke_InvalidAddress_InvalidCount => exact K47.kit_no (by decide) (by k_is) (by k_is) (by k_is))
    (case tn_InvalidAddress_index => k_is)
    (case tn_InvalidAddress_offset => k_is)
    (case tn_InvalidAddress_row => k_is)
    (case tn_InvalidAddress_word => k_is)
    (case tn_InvalidAddress_letter => k_is)
    (case eg_InvalidDay => k_is)
    (case ek_InvalidDay => k_is)
    (case ed_InvalidDay => k_is)
    (case ea_InvalidDay => k_is)
    (case em_InvalidDay => k_is)
    (case ev_InvalidDay => exact K47.kit_vt (by k_is))
    (case ex1_InvalidDay => exact K47.exm_is (by k_is) (by k_is) (by k_is) (by k_is))
    (case ke_InvalidDay_InvalidOperation => exact K47.kit_no (by decide) (by k_is) (by k_is) (by k_is))
    (case ke_InvalidDay_InvalidOrder => exact K47.kit_no (by decide) (by k_is) (by k_is) (by k_is))
    (case ke_InvalidDay_UnknownOrder => exact K47.kit_no (by decide) (by k_is) (by k_is) (by k_is))
    (case ke_InvalidDay_NotHolding => exact K47.kit_no (by decide) (by k_is) (by k_is) (by k_is))
    (case ke_InvalidDay_DecodeError => exact K47.kit_no (by decide) (by k_is) (by k_is) (by k_is))
    (case ke_InvalidDay_NotationError => exact K47.kit_no (by decide) (by k_is) (by k_is) (by k_is))
    (case ke_InvalidDay_UnknownLetter => exact K47.kit_no (by decide) (by k_is) (by k_is) (by k_is))
    (case ke_InvalidDay_InvalidAddress => exact K47.kit_no (by decide) (by k_is) (by k_is) (by k_is))
    (case ke_InvalidDay_InvalidNumber => exact K47.kit_no (by decide) (by k_is) (by k_is) (by k_is))
    (case ke_InvalidDay_Contradiction => exact K47.kit_no (by decide) (by k_is) (by k_is) (by k_is))
    (case ke_InvalidDay_InvalidCount => exact K47.kit_no (by decide) (by k_is) (by k_is) (by k_is))
    (case tn_InvalidDay_index => k_is)
    (case tn_InvalidDay_offset => k_is)
    (case tn_InvalidDay_row => k_is)
    (case tn_InvalidDay_word => k_is)
    (case tn_InvalidDay_letter => k_is)
    (case eg_InvalidNumber => k_is)
    (case ek_InvalidNumber => k_is)
    (case ed_InvalidNumber => k_is)
    (case ea_InvalidNumber => k_is)
    (case em_InvalidNumber => k_is)
    (case ev_InvalidNumber => exact K47.kit_vt (by k_is))
    (case ex1_InvalidNumber => exact K47.exm_is (by k_is) (by k_is) (by k_is) (by k_is))
    (case ke_InvalidNumber_InvalidOperation => exact K47.kit_no (by decide) (by k_is) (by k_is) (by k_is))
    (case ke_InvalidNumber_InvalidOrder => exact K47.kit_no (by decide) (by k_is) (by k_is) (by k_is))
    (case ke_InvalidNumber_UnknownOrder => exact K47.kit_no (by decide) (by k_is) (by k_is) (by k_is))
    (case ke_InvalidNumber_NotHolding => exact K47.kit_no (by decide) (by k_is) (by k_is) (by k_is))
    (case ke_InvalidNumber_DecodeError => exact K47.kit_no (by decide) (by k_is) (by k_is) (by k_is))
    (case ke_InvalidNumber_NotationError => exact K47.kit_no (by decide) (by k_is) (by k_is) (by k_is))
    (case ke_InvalidNumber_UnknownLetter => exact K47.kit_no (by decide) (by k_is) (by k_is) (by k_is))
    (case ke_InvalidNumber_InvalidAddress => exact K47.kit_no (by decide) (by k_is) (by k_is) (by k_is))
    (case ke_InvalidNumber_InvalidDay => exact K47.kit_no (by decide) (by k_is) (by k_is) (by k_is))
    (case ke_InvalidNumber_Contradiction => exact K47.kit_no (by decide) (by k_is) (by k_is) (by k_is))
    (case ke_InvalidNumber_InvalidCount => exact K47.kit_no (by decide) (by k_is) (by k_is) (by k_is))
    (case tn_InvalidNumber_index => k_is)
    (case tn_InvalidNumber_offset => k_is)
    (case tn_InvalidNumber_row => k_is)
    (case tn_InvalidNumber_word => k_is)
    (case tn_InvalidNumber_letter => k_is)
    (case st_InvalidAddress => k_is)
    (case st_InvalidDay => k_is)
    (case st_InvalidNumber => k_is)
